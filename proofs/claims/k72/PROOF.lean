import PyProof.Rows.All
import Wide.All
import OpenK.AllK
import Wide.FinOn
import HandS.DictComp
import KE.KDictCopyH
import KE.SortData
import HandS.Base
import HandS.Call
import HandS.List
import HandS.Comp
import HandS.Ends
import HandS.Dict
import HandS.Iter
import HandS.EndBits
import HandS.Words
import HandS.WordsList
import HandS.WordsDict
import HandS.Text
import HandS.Wide
import HandS.WideBits
import HandS.Conv
import HandS.TupLe
import HandS.IsInst
import HandS.ExcIs
import HandS.ExcValue
import HandS.TupSets
import HandS.Zip
import HandS.Walk
import HandS.TupAny
import HandS.Deep
import PyProof.ReprRoads
import PyProof.ReprBulk
import KE.GoesZip
import KE.GoesMore
import KE.GoesEnum
import HandS.DictTup
import KE.KSortTupG
import HandS.TupLen
import HandS.NoneIn
import HandS.Records
import HandS.Flow
import HandS.More
import KE.KDictWalk
import KE.KDictDisplayH
import PyProof.WalkInts
import PyProof.DictTable
import KE.KeyNested
import KE.KDictKeyed
import PyProof.DictMoreH
import HandS.ListItems
import KE.KTurns
import HandS.Star
import PyProof.StrOps2
import HandS.TryOnly
import HandS.WordsExc
import HandS.Style
import HandS.RaiseMore
import HandS.FStr
import HandS.ExcOwn
import HandS.ExcCtx
import HandS.SetFor
import PySem.Challenge.RW_anywide_k72_whole_kinds_and_alike_rows
set_option Elab.async false
set_option linter.all false
set_option maxRecDepth 100000
namespace AW
open PySem PySem.Spec PyProof.Rows L2

/-! ### a def's call at one around -/
theorem fn_at {P : Program} {w : World} {K : PySem.W.Frag} {mg : Str → Option Value} {base : Heap} {k : Nat} {f : Addr} {x qual : Str} {st : Stmt} {fd : FuncData} {N ps : List Str}
    (F : Fun K x qual st f fd) (S : FnScope N ps (defScope st)) {A : Around} {outer : List Env} {s : Shared} {H : Hp} {args : Args} {us : List Value} {vs : List V} {Q : VK} {E : XK}
    (hr : Room (k + 1) A) (e0 : Env0 P w K mg base A outer s H) (hb : BindsTo s fd args (ps.zip us)) (r : Vals vs us) (hl : vs.length = ps.length)
    (hbody : ∀ cdv : Value, ∃ t, PSs (cxOf CX0 P w K mg base N qual (defScope st) f cdv A outer s H E).nox (defBody st) t ∧ t { nx := fun _ H' => Q .non H', rt := Q } (start N vs) H) :
    codeAny (model P w) A (.call (.ref f) args) (CR CX0 outer P w H s Q E) s := by
  obtain ⟨oc, od, kV, doc, pm, an, cdv, ct, osl, rfl, lk, hcd⟩ := F.ex
  have keep0 : ∀ b o, base.get? b = some o → s.heap.get? b = some o := fun b o e => (e0.bs b o e).1
  have KX := e0.mod.kin.keeps keep0
  refine codeAny_call_function (Room.depth hr) (KX _ _ lk) rfl S.co S.gen rfl (PySem.W.codeRec_of KX hcd) (hb _ _ _ _ ?_)
  have kinds : ∀ y ∈ ps.zip us, (defScope st).names.lookup y.1 = some .local ∨ ((defScope st).names.lookup y.1 = some .cell ∧ ((cellsFrom (s.heap.objs.size + 1) (defScope st).names []).lookup y.1).isSome = true) := by
    intro y hy
    obtain ⟨n, v⟩ := y
    exact (S.par n (List.of_mem_zip hy).1).elim Or.inl fun q => Or.inr ⟨q, PySem.W.cellsFrom_some _ _ _ (.inl q)⟩
  refine wpAny_newFunctionEnv_cells S.kind kinds ?_
  rintro env rfl s1 ic
  obtain ⟨t, ht, hq⟩ := hbody cdv
  refine ⟨(e0.mod.nolimit.keeps keep0).keeps ic.toInCall.keep, codeAny_func (wpAny_mono (ht.nox.run [] s1 (start N vs) H _ (inv_start S hr.hd e0 hl r ic) hq) ?_ (fun _ _ z => z))⟩
  intro fl s' hs
  cases fl with
  | ret u =>
    obtain ⟨v, σ', H', J, rv, q⟩ := hs
    exact ⟨v, H', J.os, J.bare, J.base, J.hok, rv, q⟩
  | next =>
    obtain ⟨σ', H', J, q⟩ := hs
    exact ⟨V.non, H', J.os, J.bare, J.base, J.hok, rfl, q⟩
  | brk => exact hs.elim fun _ z => z.elim fun _ z => z.2.elim
  | cont => exact hs.elim fun _ z => z.elim fun _ z => z.2.elim

/-! ### the law's own call -/
theorem env_at {P : Program} {w : World} {K : PySem.W.Frag} {mg mb : Str → Option Value} {a : Addr} {s1 : Shared} {vs : List Value} {H : Hp}
    (KX : K.In s1.heap) (hns : s1.heap.Ns mainGlobals mg) (hb : s1.heap.Ns builtinsNs mb) (hbb : ∀ x : Str, x ≠ "__name__" → mb x = bootBuiltins x) (hlim : s1.heap.NoLimit) (hg : s1.gens = #[])
    (ha : s1.heap.get? a = some { cls := .type "list", data := .seq vs.toArray }) (one : ∀ b u, H b = some u → b = a) (out : ∀ o, K.lookup a = some o → H a = none) (ok : HOk P w H s1.heap) :
    Env0 P w K mg (hidT s1.heap H) callerA [] s1 H := by
  have dicts : ∀ {b : Addr} {m : Str → Option Value}, s1.heap.Ns b m → (hidT s1.heap H).Ns b m := by
    rintro b m ⟨o, es, ep, e, d, r⟩
    refine ⟨o, es, ep, hidT_get e ?_, d, r⟩
    match q : H b with
    | none => rfl
    | some u =>
      obtain rfl := one b u q
      have e2 := Option.some.inj (e.symm.trans ha)
      rw [e2] at d
      cases d
  have kin : K.In (hidT s1.heap H) := by
    intro b o e
    refine hidT_get (KX b o e) ?_
    match q : H b with
    | none => rfl
    | some u =>
      obtain rfl := one b u q
      exact q.symm.trans (out o e)
  obtain ⟨mc, l1, l2⟩ := hlim
  exact ⟨rfl, ⟨kin, dicts hns, ⟨mb, dicts hb, hbb⟩, ⟨mc, dicts l1, l2⟩⟩, fun b o e => of_hidT e, Nat.le_of_eq (hidT_size _ _), trivial, (fun b z => nomatch z), ok, .of_eq hg⟩

theorem law_end {P : Program} {w : World} {K : PySem.W.Frag} {mg mb : Str → Option Value} {fa a : Addr} {s1 : Shared} {vs : List Value} {ns : List Int}
    (KX : K.In s1.heap) (hns : s1.heap.Ns mainGlobals mg) (hb : s1.heap.Ns builtinsNs mb) (hbb : ∀ x : Str, x ≠ "__name__" → mb x = bootBuiltins x) (hlim : s1.heap.NoLimit) (hg : s1.gens = #[])
    (ha : s1.heap.get? a = some { cls := .type "list", data := .seq vs.toArray }) (hi : IntsAre vs ns) (hl : ns.length ≤ sizeLine)
    (run : ∀ (base : Heap) (H : Hp), Env0 P w K mg base callerA [] s1 H → SqL K H a (ns.map V.int) →
      codeAny (model P w) callerA (.call (.ref fa) ⟨[.ref a], []⟩) (CR CX0 [] P w H s1 (fun v _ => v = .bl true) E0) s1) :
    codeAny (model P w) callerA (.call (.ref fa) ⟨[.ref a], []⟩) (fun r s' => r = .ok (.ret (.bool true)) ∧ OldK s1.heap s'.heap ∧ s'.os = s1.os ∧ AllBare s'.gens) s1 := by
  have rv := vals_ints hi
  have fin : ∀ H : Hp, HOk P w H s1.heap → (∀ b u, H b = some u → ∃ o xs, u = .frz o (.lst xs)) → ∀ r s', CR CX0 [] P w H s1 (fun v _ => v = .bl true) E0 r s' →
      r = .ok (.ret (.bool true)) ∧ OldK s1.heap s'.heap ∧ s'.os = s1.os ∧ AllBare s'.gens := by
    intro H ok hf r s' h
    match r, h with
    | .ok (.ret u), ⟨v, H', os, bare, un, ok2, rel, q⟩ =>
      obtain rfl : v = .bl true := q
      obtain rfl : u = Value.bool true := rel
      refine ⟨rfl, OldK.of_keep ?_, os, bare⟩
      intro b o e
      match qb : H b with
      | none => exact un.keep b o e qb (fun z => nomatch z) (fun z => nomatch z)
      | some ho =>
        obtain ⟨o2, xs, rfl⟩ := hf b ho qb
        have k1 := (ok b _ qb).1
        have k2 := (ok2 b _ (un.frzs b o2 _ qb)).1
        rw [e] at k1
        cases k1
        exact k2
  match hk : K.lookup a with
  | some o =>
    have e := (KX a o hk).symm.trans ha
    obtain rfl := Option.some.inj e
    have ok : HOk P w (fun _ => none) s1.heap := fun b u z => nomatch z
    refine codeAny_mono (run _ (fun _ => none) (env_at KX hns hb hbb hlim hg ha (fun b u z => nomatch z) (fun _ _ => rfl) ok) ?_) (fin _ ok fun b u z => nomatch z)
    exact .inr ⟨_, vs.toArray, _, hk, rfl, rfl, rfl, by rw [List.size_toArray, hi.length]; exact hl, by simpa using rv⟩
  | none =>
    let o : Obj := { cls := .type "list", data := .seq vs.toArray }
    have at_ : ∀ b u, (if b = a then some (HO.frz o (.lst (ns.map V.int))) else none) = some u → b = a ∧ u = HO.frz o (.lst (ns.map V.int)) := by
      intro b u z
      by_cases hb : b = a
      · rw [if_pos hb] at z
        exact ⟨hb, (Option.some.inj z).symm⟩
      · rw [if_neg hb] at z
        cases z
    have ok : HOk P w (fun b => if b = a then some (HO.frz o (.lst (ns.map V.int))) else none) s1.heap := by
      intro b u z
      obtain ⟨rfl, rfl⟩ := at_ b u z
      exact ⟨ha, by rw [List.length_map]; exact hl, vs, _, rv, ha⟩
    refine codeAny_mono (run _ _ (env_at KX hns hb hbb hlim hg ha (fun b u z => (at_ b u z).1) (fun o' e => absurd (hk.symm.trans e) (fun z => nomatch z)) ok) ?_) (fin _ ok fun b u z => ⟨_, _, (at_ b u z).2⟩)
    exact .inl (.inr ⟨o, if_pos rfl⟩)

theorem walkG {l : PySem.W.OpenLaw} {n : Nat} {q : Program} {loose : List Str} {XP : (Str → Option Value) → Heap → Prop} {YP : World → Heap → Prop} {d : DefRec} {K : Params → PySem.W.Frag}
    (hn : l.most = some n) (hn2 : n ≤ sizeLine) (hdf : d.params.defaults = []) (hY : ∀ (w : World) (h : Heap), YP w h → (K w.params).In h)
    (F : ∀ (w : World) (mg : Str → Option Value) (fa : Addr) (h : Heap), (K w.params).In h → h.Ns mainGlobals mg → mg d.name = some (.ref fa) →
      ∀ (s : Shared) (a : Addr) (ns : List Int) (base : Heap) (H : Hp), ns.length ≤ n → (∀ z ∈ ns, Builtin.Int.intBits z ≤ 1048576) → Env0 l.prog w (K w.params) mg base callerA [] s H → SqL (K w.params) H a (ns.map V.int) →
        codeAny (model l.prog w) callerA (.call (.ref fa) ⟨[.ref a], []⟩) (CR CX0 [] l.prog w H s (fun v _ => v = .bl true) E0) s) :
    PySem.W.WalkO q loose XP YP l.row.toRowW d [] (fun f vs => PySem.call f vs) := by
  apply Att.attach_callB hn hdf
  intro w s0 s1 mg mb fa o pm cd doc a vs ns G Y ho hd hcd hmg hobj hints hlen hbits hg
  have KX := hY w _ Y
  exact law_end KX G.T.g G.T.b G.T.builtins G.T.nolimit hg hobj hints (Nat.le_trans hlen hn2) fun base H e0 hS => F w mg fa _ KX G.T.g hmg s1 a ns base H hlen hbits e0 hS

/-! ### repr of data -/
section
variable {X : Cx}
/-- what a value reads, whatever the state -/
def Rz (X : Cx) (H : Hp) (v : V) (d : PyData) : Prop := ∀ pins σ s u, Inv X pins σ H s → RelV v u → ∃ as, Reads s.heap u d as ∧ sysModules ∉ as
def rRepr (X : Cx) : List V → Hp → VK → Prop := fun xs H Q => ∃ (x : V) (d : PyData), xs = [x] ∧ (Rz X H x d ∨ (Dp X.K H x d ∧ d.hasDict = false)) ∧ d.showable = true ∧ d.depth ≤ 40 ∧ d.shown.length ≤ sizeLine ∧ Q (.str d.shown) H
theorem call_repr (hg : X.A.guards = some []) (hu : X.A.units + 64 < cLine) : CallR X (.builtin "repr") (rRepr X) := by
  intro pins s σ H xs us Q I r h
  obtain ⟨x, d, rfl, hd, hs, hp, hz, q⟩ := h
  match us, r with
  | [u], .cons rx .nil =>
    have rd : ∃ as, Reads s.heap u d as ∧ (d.hasDict = true → sysModules ∉ as) := by
      rcases hd with hd | ⟨hd, hn⟩
      · obtain ⟨as, h1, h2⟩ := hd pins σ s u I rx
        exact ⟨as, h1, fun _ => h2⟩
      · obtain ⟨as, h1⟩ := Dp.reads I d x u hd rx
        exact ⟨as, h1, fun z => by rw [hn] at z; cases z⟩
    obtain ⟨as, h1, h2⟩ := rd
    cases h1 with
    | none => exact PySem.P.repr_of_none ⟨.str _, H, I.tok _, ⟨_, rfl⟩, q⟩
    | bool b => exact PySem.P.repr_of_bool ⟨.str _, H, I.tok _, ⟨_, rfl⟩, by have q' := q; simp only [PyData.shown] at q'; cases b <;> exact q'⟩
    | int i t => exact PySem.P.repr_of_int (by simpa [PyData.showable] using hs) ⟨.str _, H, I.tok _, ⟨_, rfl⟩, by simpa only [PyData.shown] using q⟩
    | str x t => exact PySem.P.repr_of_str ⟨.str _, H, I.tok _, ⟨_, rfl⟩, by simpa only [PyData.shown] using q⟩ (by simpa only [PyData.shown] using hz)
    | list a b c e => exact repr_of_reads' (Reads.list a b c e) hs h2 hg (by omega) (fun _ _ e => e) (fun h' u tk k => ⟨.str _, H, I.kept k, ⟨_, rfl⟩, q⟩) hz
    | tuple a b c e => exact repr_of_reads' (Reads.tuple a b c e) hs h2 hg (by omega) (fun _ _ e => e) (fun h' u tk k => ⟨.str _, H, I.kept k, ⟨_, rfl⟩, q⟩) hz
    | dict a b c e f => exact repr_of_reads' (Reads.dict a b c e f) hs h2 hg (by omega) (fun _ _ e => e) (fun h' u tk k => ⟨.str _, H, I.kept k, ⟨_, rfl⟩, q⟩) hz

theorem Rz.int (H : Hp) (i : Int) : Rz X H (.int i) (.int i) := by
  rintro pins σ s u I ⟨t, rfl⟩
  exact ⟨_, Reads.int i t, (fun z => nomatch z)⟩
theorem Rz.str (H : Hp) (x : Str) : Rz X H (.str x) (.str x) := by
  rintro pins σ s u I ⟨t, rfl⟩
  exact ⟨_, Reads.str x t, (fun z => nomatch z)⟩
theorem rz_all {H : Hp} : ∀ {vs : List V} {ds : List PyData}, Paired (Rz X H) vs ds → ∀ {pins σ s us}, Inv X pins σ H s → Vals vs us → ∃ as, ReadsAll s.heap us ds as ∧ sysModules ∉ as
  | _, _, .nil, _, _, _, _, _, .nil => ⟨_, ReadsAll.nil, (fun z => nomatch z)⟩
  | _, _, .cons h t, _, _, _, _, I, .cons r rs => by
    obtain ⟨as, a1, a2⟩ := h _ _ _ _ I r
    obtain ⟨bs, b1, b2⟩ := rz_all t I rs
    exact ⟨_, ReadsAll.cons a1 b1, fun z => (List.mem_append.mp z).elim a2 b2⟩
theorem Rz.tup {H : Hp} {a : Addr} {xs : List V} {ds : List PyData} (h : SqT X.K H a xs) (hs : Paired (Rz X H) xs ds) : Rz X H (.ref a) (.tuple ds) := by
  intro pins σ s u I r
  obtain rfl : u = Value.ref a := r
  obtain ⟨its, rv, ⟨o, ho, hc, n, hd⟩, _⟩ := I.tuple h
  obtain ⟨as, h1, h2⟩ := rz_all hs I rv
  exact ⟨_, Reads.tuple ho hc hd h1, h2⟩
end
end AW
namespace AW
open PySem PySem.Spec PyProof.Rows L2
section
variable {X : Cx}
def CPowW (i j : Int) : Prop := 0 ≤ j ∧ (Builtin.Int.intBits i : Int) * j ≤ 2 ^ 27
theorem op_powW : OpR X (binaryOp .Pow) (rI CPowW fun i j => .int (i ^ j.toNat)) := opI fun _ _ _ _ _ _ _ hc q => pow_int hc.1 hc.2 q
end
theorem bits_lt {z : Int} {n : Nat} (h : Builtin.Int.intBits z ≤ n) : z.natAbs < 2 ^ n := by
  unfold Builtin.Int.intBits at h
  by_cases e : z = 0
  · subst e
    exact Nat.pos_of_ne_zero (by simp)
  · rw [if_neg (by simpa using e)] at h
    have : z.natAbs ≠ 0 := by omega
    exact (Nat.log2_lt this).mp (by omega)
theorem seed_ok {z c : Int} (h0 : 0 ≤ z) (h1 : z ≤ 2147483629) (h2 : Builtin.Int.intBits c ≤ 1048576) : CPowW (z * 50021 + c) 3 := by
  refine ⟨by decide, ?_⟩
  have hc := bits_lt h2
  have h3 : (z * 50021 + c).natAbs < 2 ^ 1048577 := by
    have a : (z * 50021 + c).natAbs ≤ (z * 50021).natAbs + c.natAbs := Int.natAbs_add_le _ _
    have b : (z * 50021).natAbs ≤ 2 ^ 48 := by omega
    have d : (2 : Nat) ^ 48 ≤ 2 ^ 1048576 := Nat.pow_le_pow_right (by decide) (by decide)
    have e : (2 : Nat) ^ 1048577 = 2 ^ 1048576 + 2 ^ 1048576 := by rw [Nat.pow_succ]; omega
    omega
  have h4 := PyProof.Rows.intBits_le h3
  have e : (2 : Int) ^ 27 = 134217728 := by decide
  rw [e]
  omega
/-! ### what follows an if, shown once -/
def tMid (t u : TS) : TS := fun D σ H => ∃ M : L2.St → Hp → Prop, t { D with nx := M } σ H ∧ ∀ σ2 H2, M σ2 H2 → u D σ2 H2
theorem pss_mid {X : Cx} {st : Stmt} {r : List Stmt} {t u : TS} (a : PS X st t) (b : PSs X r u) : PSs X (st :: r) (tMid t u) := by
  constructor
  rintro pins s σ H D I ⟨M, h1, h2⟩
  apply wpAny_execs_cons
  refine thn (a.run pins s σ H _ I h1) ?_
  intro fl s2 z
  match fl, z with
  | .next, ⟨σ2, H2, I2, m⟩ => exact b.run pins s2 σ2 H2 D I2 (h2 σ2 H2 m)
  | .ret _, z => exact z
  | .brk, z => exact z
  | .cont, z => exact z
/-! ### the well -/
def WL (H : Hp) (a c : Addr) : Prop := a ≠ c ∧ ∃ (cs : List Int) (r s : Int), H a = some (.lst [.ref c, .int r, .int s]) ∧ H c = some (.lst (cs.map V.int))
/-- all but the well stands as it stood -/
def Kp (a c : Addr) (H H' : Hp) : Prop := ∀ b o, b ≠ a → b ≠ c → H b = some o → H' b = some o
theorem Kp.refl (a c : Addr) (H : Hp) : Kp a c H H := fun _ _ _ _ h => h
theorem Kp.trans {a c : Addr} {H H1 H2 : Hp} (h : Kp a c H H1) (k : Kp a c H1 H2) : Kp a c H H2 := fun b o n1 n2 e => k b o n1 n2 (h b o n1 n2 e)
theorem Kp.tup {a c : Addr} {H H' : Hp} (w : WL H a c) (k : Kp a c H H') {b : Addr} {xs : List V} (h : H b = some (.tup xs)) : H' b = some (.tup xs) := by
  obtain ⟨_, cs, r, s, e1, e2⟩ := w
  exact k b _ (ne_of h e1 (fun z => nomatch z)) (ne_of h e2 (fun z => nomatch z)) h
theorem Kp.same {a c : Addr} {H H1 H2 : Hp} (ha : H a = none) (hc : H c = none) (s : Same H H1) (k : Kp a c H1 H2) : Same H H2 := fun b o e => k b o (ne_of_none e ha) (ne_of_none e hc) (s b o e)
theorem same_new {H : Hp} {p : Addr} {o : HO} (h : H p = none) : Same H (upd H p o) := fun b x e => by
  rw [upd_ne (ne_of_none e h)]
  exact e
theorem WL.same {H H' : Hp} {a c : Addr} (w : WL H a c) (k : Same H H') : WL H' a c := by
  obtain ⟨n, cs, r, s, e1, e2⟩ := w
  exact ⟨n, cs, r, s, k _ _ e1, k _ _ e2⟩
theorem WL.ne_new {H : Hp} {a c p : Addr} (w : WL H a c) (h : H p = none) : p ≠ a ∧ p ≠ c := by
  obtain ⟨n, cs, r, s, e1, e2⟩ := w
  exact ⟨(ne_of_none e1 h).symm, (ne_of_none e2 h).symm⟩
theorem WL.upd {H : Hp} {a c p : Addr} {o : HO} (w : WL H a c) (h1 : p ≠ a) (h2 : p ≠ c) : WL (upd H p o) a c := by
  obtain ⟨n, cs, r, s, e1, e2⟩ := w
  exact ⟨n, cs, r, s, by rw [upd_ne h1.symm]; exact e1, by rw [upd_ne h2.symm]; exact e2⟩
theorem Same.kp {a c : Addr} {H H' : Hp} (s : Same H H') : Kp a c H H' := fun b o _ _ e => s b o e
theorem dp_ints {K : PySem.W.Frag} {H : Hp} : ∀ cs : List Int, DpAll K H (cs.map V.int) (cs.map PyData.int)
  | [] => .nil
  | c :: cs => .cons (.int c) (dp_ints cs)
theorem lay_ints : ∀ cs : List Int, PyData.canLayAll0 (cs.map PyData.int) = true ∧ PyData.depthAll (cs.map PyData.int) = 0
  | [] => ⟨by simp only [List.map_nil, PyData.canLayAll0], by simp only [List.map_nil, PyData.depthAll]⟩
  | c :: cs => by
    obtain ⟨h1, h2⟩ := lay_ints cs
    exact ⟨by simp only [List.map_cons, PyData.canLayAll0, PyData.canLay0, h1, Bool.and_self], by simp only [List.map_cons, PyData.depthAll, PyData.depth, h2, Nat.max_self]⟩
theorem shaped_ints (cs : List Int) : SeqAt.shaped (.list (cs.map PyData.int)) = true := by
  obtain ⟨h1, h2⟩ := lay_ints cs
  simp only [SeqAt.shaped, PyData.canLay0, PyData.depth, h1, h2, Bool.true_and]
  decide
theorem dp_strs {K : PySem.W.Frag} {H : Hp} : ∀ cs : List Str, DpAll K H (cs.map V.str) (cs.map PyData.str)
  | [] => .nil
  | c :: cs => .cons (.str c) (dp_strs cs)
theorem lay_strs : ∀ cs : List Str, (∀ x ∈ cs, PyData.strOk x = true) → PyData.canLayAll0 (cs.map PyData.str) = true ∧ PyData.depthAll (cs.map PyData.str) = 0
  | [], _ => ⟨by simp only [List.map_nil, PyData.canLayAll0], by simp only [List.map_nil, PyData.depthAll]⟩
  | c :: cs, h => by
    obtain ⟨h1, h2⟩ := lay_strs cs fun x hx => h x (List.mem_cons_of_mem _ hx)
    exact ⟨by simp only [List.map_cons, PyData.canLayAll0, PyData.canLay0, h1, h c List.mem_cons_self, Bool.and_self], by simp only [List.map_cons, PyData.depthAll, PyData.depth, h2, Nat.max_self]⟩
theorem shaped_strs (cs : List Str) (h : ∀ x ∈ cs, PyData.strOk x = true) : SeqAt.shaped (.list (cs.map PyData.str)) = true := by
  obtain ⟨h1, h2⟩ := lay_strs cs h
  simp only [SeqAt.shaped, PyData.canLay0, PyData.depth, h1, h2, Bool.true_and]
  decide
theorem seq0 (n : Nat) : seqIndex? 0 (n + 1) = some 0 := by
  unfold seqIndex?
  simp
/-! ### the words of deeds, deeds, rows -/
def fwL : List (Str × Int) := [("none", 0), ("one", 0), ("all", 0), ("not", 1), ("neg", 1), ("twice", 1), ("and", 2), ("or", 2), ("xor", 2), ("add", 2), ("sub", 2)]
theorem fw_ok : ∀ x ∈ fwL.map (·.1), PyData.strOk x = true := by decide +kernel
def fwK : List (Key × V) := fwL.map fun p => (Sum.inr p.1, .int p.2)
/-- a deed: its word and its numbers -/
abbrev Deed := Str × List Int
def dV (d : Deed) : List V := .str d.1 :: d.2.map V.int
theorem dv0 (d : Deed) : atI (dV d) 0 = some (.str d.1) := atI_nat (j := 0) rfl
theorem dvN {d : Deed} {k : Nat} {i : Int} (h : d.2[k]? = some i) : atI (dV d) ((k + 1 : Nat) : Int) = some (.int i) := atI_nat (by show (d.2.map V.int)[k]? = _; rw [List.getElem?_map, h]; rfl)
structure DeedOk (m : Int) (d : Deed) : Prop where
  word : (d.1, (d.2.length : Int)) ∈ fwL
  ahead : ∀ i ∈ d.2, 0 ≤ i ∧ i < m
theorem fw_at {z : Int} (h0 : 0 ≤ z) (h1 : z < 11) : ∃ x n, (x, n) ∈ fwL ∧ 0 ≤ n ∧ n ≤ 2 ∧ atI (fwK.map fun kv => kV kv.1) z = some (.str x) ∧ valV fwK (Sum.inr x) = some (.int n) := by
  obtain ⟨k, rfl⟩ := Int.eq_ofNat_of_zero_le h0
  have hk : k = 0 ∨ k = 1 ∨ k = 2 ∨ k = 3 ∨ k = 4 ∨ k = 5 ∨ k = 6 ∨ k = 7 ∨ k = 8 ∨ k = 9 ∨ k = 10 := by omega
  rcases hk with rfl | rfl | rfl | rfl | rfl | rfl | rfl | rfl | rfl | rfl | rfl
  · exact ⟨"none", 0, by decide +kernel, by decide, by decide, by decide +kernel, by decide +kernel⟩
  · exact ⟨"one", 0, by decide +kernel, by decide, by decide, by decide +kernel, by decide +kernel⟩
  · exact ⟨"all", 0, by decide +kernel, by decide, by decide, by decide +kernel, by decide +kernel⟩
  · exact ⟨"not", 1, by decide +kernel, by decide, by decide, by decide +kernel, by decide +kernel⟩
  · exact ⟨"neg", 1, by decide +kernel, by decide, by decide, by decide +kernel, by decide +kernel⟩
  · exact ⟨"twice", 1, by decide +kernel, by decide, by decide, by decide +kernel, by decide +kernel⟩
  · exact ⟨"and", 2, by decide +kernel, by decide, by decide, by decide +kernel, by decide +kernel⟩
  · exact ⟨"or", 2, by decide +kernel, by decide, by decide, by decide +kernel, by decide +kernel⟩
  · exact ⟨"xor", 2, by decide +kernel, by decide, by decide, by decide +kernel, by decide +kernel⟩
  · exact ⟨"add", 2, by decide +kernel, by decide, by decide, by decide +kernel, by decide +kernel⟩
  · exact ⟨"sub", 2, by decide +kernel, by decide, by decide, by decide +kernel, by decide +kernel⟩
theorem awSnoc {α β : Type} {F : α → β → Prop} {x : α} {y : β} (h : F x y) : ∀ {l : List α} {l2 : List β}, Paired F l l2 → Paired F (l ++ [x]) (l2 ++ [y])
  | _, _, .nil => .cons h .nil
  | _, _, .cons r t => .cons r (awSnoc h t)
theorem awMap {α β : Type} {F G : α → β → Prop} (f : ∀ a b, F a b → G a b) : ∀ {l : List α} {l2 : List β}, Paired F l l2 → Paired G l l2
  | _, _, .nil => .nil
  | _, _, .cons r t => .cons (f _ _ r) (awMap f t)
theorem awLen {α β : Type} {F : α → β → Prop} : ∀ {l : List α} {l2 : List β}, Paired F l l2 → l.length = l2.length
  | _, _, .nil => rfl
  | _, _, .cons _ t => congrArg (· + 1) (awLen t)
theorem awGet {α β : Type} {F : α → β → Prop} : ∀ {l : List α} {l2 : List β} {i : Nat} {x : α}, Paired F l l2 → l[i]? = some x → ∃ y, l2[i]? = some y ∧ F x y
  | _, _, _, _, .nil, e => by simp at e
  | _, _, 0, _, .cons r _, e => by
    simp only [List.getElem?_cons_zero, Option.some.injEq] at e
    subst e
    exact ⟨_, rfl, r⟩
  | _, _, i + 1, x, .cons _ t, e => by
    simp only [List.getElem?_cons_succ] at e ⊢
    exact awGet t e
theorem awGet2 {α β : Type} {F : α → β → Prop} {l : List α} {l2 : List β} {i : Nat} {y : β} (h : Paired F l l2) (e : l2[i]? = some y) : ∃ x, l[i]? = some x ∧ F x y := by
  have hi : i < l.length := by
    rw [awLen h]
    exact (List.getElem?_eq_some_iff.mp e).1
  obtain ⟨y2, e2, f⟩ := awGet h (List.getElem?_eq_getElem hi)
  rw [e] at e2
  obtain rfl := Option.some.inj e2
  exact ⟨_, List.getElem?_eq_getElem hi, f⟩
/-- deeds that stand in the heap as tuples -/
abbrev DsAt (H : Hp) : List Addr → List Deed → Prop := Paired fun r d => H r = some (.tup (dV d))
def RowAt (H : Hp) (R : Addr) (m : Int) (ds : List Deed) (o : Int) : Prop := ∃ D rs, H R = some (.tup [.int m, .ref D, .int o]) ∧ H D = some (.tup (rs.map V.ref)) ∧ DsAt H rs ds
structure DsOk (m : Int) (ds : List Deed) : Prop where
  each : ∀ (k : Nat) d, ds[k]? = some d → DeedOk (m + k) d
structure RowOk (m : Int) (ds : List Deed) (o : Int) : Prop where
  m1 : 1 ≤ m
  m3 : m ≤ 3
  len : ds.length ≤ 8
  deeds : DsOk m ds
  o0 : 0 ≤ o
  o1 : o < m + ds.length
/-- all tuples stand -/
def TupsStay (H H' : Hp) : Prop := ∀ b xs, H b = some (.tup xs) → H' b = some (.tup xs)
theorem Same.tups {H H' : Hp} (s : Same H H') : TupsStay H H' := fun b xs e => s b _ e
theorem Kp.tups {a c : Addr} {H H' : Hp} (k : Kp a c H H') (w : WL H a c) : TupsStay H H' := fun b xs e => k.tup w e
theorem TupsStay.trans {H H1 H2 : Hp} (a : TupsStay H H1) (b : TupsStay H1 H2) : TupsStay H H2 := fun c xs e => b c xs (a c xs e)
theorem tups_put {H : Hp} {l : Addr} {xs : List V} {o : HO} (h : H l = some (.lst xs)) : TupsStay H (upd H l o) := fun b ys e => by
  rw [upd_ne (ne_of e h (fun z => nomatch z))]
  exact e
theorem TupsStay.ds {H H' : Hp} (t : TupsStay H H') {rs : List Addr} {ds : List Deed} (h : DsAt H rs ds) : DsAt H' rs ds := awMap (fun r d e => t r _ e) h
theorem TupsStay.row {H H' : Hp} (t : TupsStay H H') {R : Addr} {m o : Int} {ds : List Deed} (h : RowAt H R m ds o) : RowAt H' R m ds o := by
  obtain ⟨D, rs, e1, e2, e3⟩ := h
  exact ⟨D, rs, t _ _ e1, t _ _ e2, t.ds e3⟩
theorem dsOk_snoc {m : Int} {ds : List Deed} {d : Deed} (h : DsOk m ds) (k : DeedOk (m + ds.length) d) : DsOk m (ds ++ [d]) := by
  constructor
  intro i d' e
  by_cases hi : i < ds.length
  · rw [List.getElem?_append_left hi] at e
    exact h.each i d' e
  · rw [List.getElem?_append_right (by omega)] at e
    obtain ⟨h1, h2⟩ := List.getElem?_eq_some_iff.mp e
    have h3 : i = ds.length := by simp only [List.length_cons, List.length_nil] at h1; omega
    subst h3
    simp at h2
    subst h2
    exact k
/-! ### data that is shown in few signs -/
structure Nice (b k : Nat) (d : PyData) : Prop where
  sh : d.showable = true
  lv : d.leavesShort 21 = true
  bk : d.bulk ≤ b
  dp : d.depth ≤ k
theorem Nice.fits {b k : Nat} {d : PyData} (h : Nice b k d) (hb : b ≤ 100000) : d.shown.length ≤ sizeLine := by
  have h1 := PyData.shown_le_bulk 21 (by decide) d h.lv
  have h2 := h.bk
  rw [sizeLine_eq]
  omega
theorem Nice.mono {b b2 k k2 : Nat} {d : PyData} (h : Nice b k d) (hb : b ≤ b2) (hk : k ≤ k2) : Nice b2 k2 d := ⟨h.sh, h.lv, Nat.le_trans h.bk hb, Nat.le_trans h.dp hk⟩
theorem nice_int {i : Int} (h : i.natAbs < 10 ^ 20) : Nice 0 0 (.int i) := by
  refine ⟨?_, ?_, ?_, ?_⟩
  · simp only [PyData.showable, decide_eq_true_eq]
    have : i.natAbs < 2 ^ 70 := Nat.lt_trans h (by decide)
    by_cases e : i.natAbs = 0
    · rw [e]; decide
    · have := (Nat.log2_lt e).mpr this
      omega
  · simp only [PyData.leavesShort, decide_eq_true_eq]
    have e := int_text_length_le10 (k := 20) (by decide) h
    simp only [PyData.shown]
    rw [PySem.ofString_length]
    exact e
  · simp only [PyData.bulk, Nat.le_refl]
  · simp only [PyData.depth, Nat.le_refl]
theorem nice_str {x : Str} {n : Nat} (h : x.cps.size ≤ n) (hx : (x.cps.toList.all fun c => decide (c < 16 ^ 8)) = true) : Nice n 0 (.str x) := by
  refine ⟨?_, ?_, ?_, ?_⟩
  · simp only [PyData.showable]
  · simp only [PyData.leavesShort]
    exact hx
  · simp only [PyData.bulk]
    exact h
  · simp only [PyData.depth, Nat.le_refl]
theorem nice_all {b k : Nat} : ∀ {xs : List PyData}, (∀ x ∈ xs, Nice b k x) → PyData.showableAll xs = true ∧ PyData.leavesShortAll 21 xs = true ∧ PyData.bulkAll xs ≤ xs.length * (b + 1) ∧ PyData.depthAll xs ≤ k
  | [], _ => ⟨by simp only [PyData.showableAll], by simp only [PyData.leavesShortAll], by simp only [PyData.bulkAll, Nat.zero_le], by simp only [PyData.depthAll, Nat.zero_le]⟩
  | x :: xs, h => by
    obtain ⟨h1, h2, h3, h4⟩ := nice_all fun y hy => h y (List.mem_cons_of_mem _ hy)
    obtain ⟨g1, g2, g3, g4⟩ := h x List.mem_cons_self
    refine ⟨by simp only [PyData.showableAll, g1, h1, Bool.and_self], by simp only [PyData.leavesShortAll, g2, h2, Bool.and_self], ?_, ?_⟩
    · simp only [PyData.bulkAll, List.length_cons, Nat.add_mul, Nat.one_mul]
      omega
    · simp only [PyData.depthAll]
      omega
theorem nice_tup {b k n : Nat} {xs : List PyData} (h : ∀ x ∈ xs, Nice b k x) (hn : xs.length * (b + 1) ≤ n) : Nice n (k + 1) (.tuple xs) := by
  obtain ⟨h1, h2, h3, h4⟩ := nice_all h
  exact ⟨by simpa only [PyData.showable] using h1, by simpa only [PyData.leavesShort] using h2, by simp only [PyData.bulk]; omega, by simp only [PyData.depth]; omega⟩
theorem nice_lst {b k n : Nat} {xs : List PyData} (h : ∀ x ∈ xs, Nice b k x) (hn : xs.length * (b + 1) ≤ n) : Nice n (k + 1) (.list xs) := by
  obtain ⟨h1, h2, h3, h4⟩ := nice_all h
  exact ⟨by simpa only [PyData.showable] using h1, by simpa only [PyData.leavesShort] using h2, by simp only [PyData.bulk]; omega, by simp only [PyData.depth]; omega⟩
def deedD (d : Deed) : PyData := .tuple (.str d.1 :: d.2.map PyData.int)
def rowD (m : Int) (ds : List Deed) (o : Int) : PyData := .tuple [.int m, .tuple (ds.map deedD), .int o]
theorem fw_short : ∀ p ∈ fwL, p.1.cps.size ≤ 5 ∧ (p.1.cps.toList.all fun c => decide (c < 16 ^ 8)) = true ∧ p.2 ≤ 2 := by decide +kernel
theorem nice_deed {m : Int} {d : Deed} (h : DeedOk m d) (hm : m ≤ 100) : Nice 18 1 (deedD d) := by
  obtain ⟨h1, h2, h3⟩ := fw_short _ h.word
  refine nice_tup (b := 5) (k := 0) (fun x hx => ?_) ?_
  · rcases List.mem_cons.mp hx with rfl | hx
    · exact nice_str h1 h2
    · obtain ⟨i, hi, rfl⟩ := List.mem_map.mp hx
      obtain ⟨i0, i1⟩ := h.ahead i hi
      exact (nice_int (by omega)).mono (by decide) (by decide)
  · rw [List.length_cons, List.length_map]
    have : (d.2.length : Int) ≤ 2 := h3
    omega
theorem nice_row {m o : Int} {ds : List Deed} (h : RowOk m ds o) : Nice 459 3 (rowD m ds o) := by
  have hm := h.m1
  have hm3 := h.m3
  have hl := h.len
  have ho := h.o0
  have ho1 := h.o1
  refine nice_tup (b := 152) (k := 2) (fun x hx => ?_) (by simp only [List.length_cons, List.length_nil]; decide)
  simp only [List.mem_cons, List.not_mem_nil, or_false] at hx
  rcases hx with rfl | rfl | rfl
  · exact (nice_int (by omega)).mono (by decide) (by decide)
  · refine nice_tup (b := 18) (k := 1) (fun x hx => ?_) ?_
    · obtain ⟨d, hd, rfl⟩ := List.mem_map.mp hx
      obtain ⟨k, hk⟩ := List.mem_iff_getElem?.mp hd
      have hk1 := (List.getElem?_eq_some_iff.mp hk).1
      exact nice_deed (h.deeds.each k d hk) (by omega)
    · rw [List.length_map]
      omega
  · exact (nice_int (by omega)).mono (by decide) (by decide)
/-! ### what the row reads -/
section
variable {X : Cx}
theorem rz_ints (H : Hp) : ∀ l : List Int, Paired (Rz X H) (l.map V.int) (l.map PyData.int)
  | [] => .nil
  | i :: l => .cons (Rz.int H i) (rz_ints H l)
theorem rz_deed {H : Hp} {r : Addr} {d : Deed} (h : H r = some (.tup (dV d))) : Rz X H (.ref r) (deedD d) := Rz.tup (SqT.of h) (.cons (Rz.str H _) (rz_ints H _))
theorem rz_deeds {H : Hp} : ∀ {rs : List Addr} {ds : List Deed}, DsAt H rs ds → Paired (Rz X H) (rs.map V.ref) (ds.map deedD)
  | _, _, .nil => .nil
  | _, _, .cons h t => .cons (rz_deed h) (rz_deeds t)
theorem rz_row {H : Hp} {R : Addr} {m o : Int} {ds : List Deed} (h : RowAt H R m ds o) : Rz X H (.ref R) (rowD m ds o) := by
  obtain ⟨D, rs, e1, e2, e3⟩ := h
  exact Rz.tup (SqT.of e1) (.cons (Rz.int H m) (.cons (Rz.tup (SqT.of e2) (rz_deeds e3)) (.cons (Rz.int H o) .nil)))
/-- a dict of texts and ints -/
abbrev siK (es : List (Str × Int)) : List (Key × V) := es.map fun p => (Sum.inr p.1, .int p.2)
theorem si_reads {prog : Program} {w : World} {h : Heap} : ∀ (es : List (Str × Int)) (vs : List (Key × Value)) (en : List DictEntry), KV (siK es) vs → Pairs (mixKind prog w) en vs →
    ReadsAll h (en.map (·.key)) ((es.map fun p => (PyData.str p.1, PyData.int p.2)).map (·.1)) [] ∧ ReadsAll h (en.map (·.val)) ((es.map fun p => (PyData.str p.1, PyData.int p.2)).map (·.2)) []
  | [], _, _, .nil, .nil => ⟨.nil, .nil⟩
  | (x, i) :: es, _, _, .cons hh t, .cons hk hv hp => by
    obtain ⟨h1, h2⟩ := si_reads es _ _ t hp
    obtain ⟨k1, t1, e1⟩ := hh
    rw [← k1] at hk
    obtain ⟨t2, e2⟩ := Value.isStrOf_shape (x := x) hk
    refine ⟨?_, ?_⟩
    · simp only [List.map_cons]
      rw [e2]
      exact ReadsAll.cons (as := []) (Reads.str x t2) h1
    · simp only [List.map_cons]
      rw [hv, e1]
      exact ReadsAll.cons (as := []) (Reads.int i t1) h2
theorem rz_dict {H : Hp} {C : Addr} {es : List (Str × Int)} (h : H C = some (.dK (siK es))) : Rz X H (.ref C) (.dict (es.map fun p => (PyData.str p.1, PyData.int p.2))) := by
  intro pins σ s u I r
  obtain rfl : u = Value.ref C := r
  obtain ⟨_, hs, vs, hkv, o, en, ep, e1, e2, e3, e4, e5, e6⟩ := I.hok C _ h
  obtain ⟨r1, r2⟩ := si_reads (prog := X.prog) (w := X.w) (h := s.heap) es vs _ hkv e5
  refine ⟨_, Reads.dict e1 e2.1 e3 r1 r2, ?_⟩
  intro z
  simp only [List.append_nil, List.mem_cons, List.not_mem_nil, or_false] at z
  rw [← z] at hs
  simp at hs
end
theorem nice_dict {n : Nat} : ∀ {es : List (Str × Int)}, (∀ p ∈ es, p.1.cps.size ≤ 5 ∧ (p.1.cps.toList.all fun c => decide (c < 16 ^ 8)) = true ∧ p.2.natAbs < 10 ^ 20) → es.length * 7 ≤ n →
    Nice n 1 (.dict (es.map fun p => (PyData.str p.1, PyData.int p.2))) := by
  intro es h hn
  have key : ∀ es : List (Str × Int), (∀ p ∈ es, p.1.cps.size ≤ 5 ∧ (p.1.cps.toList.all fun c => decide (c < 16 ^ 8)) = true ∧ p.2.natAbs < 10 ^ 20) →
      PyData.showableKv (es.map fun p => (PyData.str p.1, PyData.int p.2)) = true ∧ PyData.leavesShortKv 21 (es.map fun p => (PyData.str p.1, PyData.int p.2)) = true ∧ PyData.bulkKv (es.map fun p => (PyData.str p.1, PyData.int p.2)) ≤ es.length * 7 ∧ PyData.depthKv (es.map fun p => (PyData.str p.1, PyData.int p.2)) = 0 := by
    intro es
    induction es with
    | nil => intro _; exact ⟨by simp only [List.map_nil, PyData.showableKv], by simp only [List.map_nil, PyData.leavesShortKv], by simp only [List.map_nil, PyData.bulkKv, Nat.zero_le], by simp only [List.map_nil, PyData.depthKv]⟩
    | cons p es ih =>
      intro h
      obtain ⟨h1, h2, h3, h4⟩ := ih fun q hq => h q (List.mem_cons_of_mem _ hq)
      obtain ⟨a, b, c⟩ := h p List.mem_cons_self
      obtain ⟨i1, i2, i3, i4⟩ := nice_int c
      obtain ⟨s1, s2, s3, s4⟩ := nice_str a b
      refine ⟨by simp only [List.map_cons, PyData.showableKv, i1, s1, h1, Bool.and_self], by simp only [List.map_cons, PyData.leavesShortKv, i2, s2, h2, Bool.and_self], ?_, ?_⟩
      · simp only [List.map_cons, PyData.bulkKv, List.length_cons]
        omega
      · simp only [List.map_cons, PyData.depthKv]
        omega
  obtain ⟨h1, h2, h3, h4⟩ := key es h
  exact ⟨by simpa only [PyData.showable] using h1, by simpa only [PyData.leavesShort] using h2, by simp only [PyData.bulk]; omega, by simp only [PyData.depth]; omega⟩
/-! ### values of rows -/
theorem strEq {x y : Str} (h : decide (V.str x = V.str y) = true) : x = y := V.str.inj (of_decide_eq_true h)
theorem strNe {x y : Str} (h : ¬ decide (V.str x = V.str y) = true) : ¬ x = y := fun e => h (decide_eq_true (congrArg V.str e))
def argAt (d : Deed) (told : List Int) (k : Nat) : Int := told.getD (d.2.getD k 0).toNat 0
def dvalue (x : Str) (A B size : Int) : Int :=
  if x = "none" then 0 else if x = "one" then 1 else if x = "all" then size - 1 else if x = "not" then size - 1 - A else if x = "neg" then -A else if x = "twice" then A + A
  else if x = "and" then Builtin.bitAnd A B else if x = "or" then Builtin.bitOr A B else if x = "xor" then Builtin.bitXor A B else if x = "add" then A + B else A - B
def dval (size : Int) (d : Deed) (told : List Int) : Int := dvalue d.1 (argAt d told 0) (argAt d told 1) size % size
def vals (size : Int) : List Deed → List Int → List Int
  | [], told => told
  | d :: ds, told => vals size ds (told ++ [dval size d told])
theorem vals_append (size : Int) : ∀ (l1 l2 : List Deed) (t : List Int), vals size (l1 ++ l2) t = vals size l2 (vals size l1 t)
  | [], _, _ => rfl
  | d :: l1, l2, t => vals_append size l1 l2 (t ++ [dval size d t])
theorem vals_len {size : Int} : ∀ (ds : List Deed) (t : List Int), (vals size ds t).length = t.length + ds.length
  | [], _ => rfl
  | d :: ds, t => by
    show (vals size ds (t ++ [dval size d t])).length = _
    rw [vals_len ds, List.length_append, List.length_cons, List.length_cons, List.length_nil]
    omega
theorem vals_next {size : Int} {ds : List Deed} {i : Nat} {d : Deed} {t : List Int} (h : ds[i]? = some d) : vals size (ds.take (i + 1)) t = vals size (ds.take i) t ++ [dval size d (vals size (ds.take i) t)] := by
  rw [List.take_add_one, h, vals_append]
  rfl
theorem atI_ints {l : List Int} {o : Int} (h0 : 0 ≤ o) (h1 : o < l.length) : atI (l.map V.int) o = some (.int (l.getD o.toNat 0)) := by
  obtain ⟨k, rfl⟩ := Int.eq_ofNat_of_zero_le h0
  have hk : k < l.length := by omega
  apply atI_nat
  rw [List.getElem?_map, List.getElem?_eq_getElem hk, Int.toNat_natCast, List.getD_eq_getElem?_getD, List.getElem?_eq_getElem hk]
  rfl
theorem fw_one : ∀ p ∈ fwL, ¬ p.1 = "none" → ¬ p.1 = "one" → ¬ p.1 = "all" → 1 ≤ p.2 := by decide +kernel
theorem fw_two' : ∀ p ∈ fwL, (decide (p.1 ∈ (["none", "one", "all", "not", "neg", "twice"] : List Str)) || decide (2 ≤ p.2)) = true := by decide +kernel
theorem fw_two (p : Str × Int) (h : p ∈ fwL) (n1 : ¬ p.1 = "none") (n2 : ¬ p.1 = "one") (n3 : ¬ p.1 = "all") (n4 : ¬ p.1 = "not") (n5 : ¬ p.1 = "neg") (n6 : ¬ p.1 = "twice") : 2 ≤ p.2 := by
  have e := fw_two' p h
  rw [Bool.or_eq_true] at e
  rcases e with e | e
  · have e2 := of_decide_eq_true e
    simp only [List.mem_cons, List.not_mem_nil, or_false] at e2
    rcases e2 with e2 | e2 | e2 | e2 | e2 | e2
    · exact absurd e2 n1
    · exact absurd e2 n2
    · exact absurd e2 n3
    · exact absurd e2 n4
    · exact absurd e2 n5
    · exact absurd e2 n6
  · exact of_decide_eq_true e
theorem arg_of {d : Deed} {told : List Int} (h : DeedOk told.length d) {k : Nat} (hk : k < d.2.length) : ∃ i, d.2[k]? = some i ∧ 0 ≤ i ∧ atI (told.map V.int) i = some (.int (argAt d told k)) := by
  have hg := List.getElem?_eq_getElem hk
  obtain ⟨i0, i1⟩ := h.ahead _ (List.getElem_mem hk)
  refine ⟨d.2[k], hg, i0, ?_⟩
  rw [atI_ints i0 i1]
  unfold argAt
  rw [List.getD_eq_getElem?_getD (l := d.2), hg]
  rfl
theorem arg1 {d : Deed} {told : List Int} (h : DeedOk told.length d) (n1 : ¬ d.1 = "none") (n2 : ¬ d.1 = "one") (n3 : ¬ d.1 = "all") : ∃ i, d.2[0]? = some i ∧ 0 ≤ i ∧ atI (told.map V.int) i = some (.int (argAt d told 0)) :=
  arg_of h (by have := fw_one _ h.word n1 n2 n3; show 0 < d.2.length; have e : (1 : Int) ≤ (d.2.length : Int) := this; omega)
theorem arg2 {d : Deed} {told : List Int} (h : DeedOk told.length d) (n1 : ¬ d.1 = "none") (n2 : ¬ d.1 = "one") (n3 : ¬ d.1 = "all") (n4 : ¬ d.1 = "not") (n5 : ¬ d.1 = "neg") (n6 : ¬ d.1 = "twice") :
    ∃ i, d.2[1]? = some i ∧ 0 ≤ i ∧ atI (told.map V.int) i = some (.int (argAt d told 1)) :=
  arg_of h (by have := fw_two _ h.word n1 n2 n3 n4 n5 n6; show 1 < d.2.length; have e : (2 : Int) ≤ (d.2.length : Int) := this; omega)
/-! ### the low bits of values -/
theorem pw_cast (n : Nat) : (2 : Int) ^ n = ((2 ^ n : Nat) : Int) := (PySem.W.kbt_cast n).symm
theorem pw_le {n k : Nat} (h : n ≤ k) : (2 : Int) ^ n ≤ 2 ^ k := by
  rw [pw_cast, pw_cast]
  exact Int.ofNat_le.mpr (Nat.pow_le_pow_right (by decide) h)
theorem pw_pos (n : Nat) : (0 : Int) < 2 ^ n := Int.pow_pos (by decide)
theorem castMod (a n : Nat) : ((a : Int) % 2 ^ n) = ((a % 2 ^ n : Nat) : Int) := by rw [pw_cast, Int.natCast_emod]
theorem low_and {A B : Int} (n : Nat) (ha : 0 ≤ A) (hb : 0 ≤ B) : Builtin.bitAnd (A % 2 ^ n) (B % 2 ^ n) % 2 ^ n = Builtin.bitAnd A B % 2 ^ n := by
  obtain ⟨a, rfl⟩ := Int.eq_ofNat_of_zero_le ha
  obtain ⟨b, rfl⟩ := Int.eq_ofNat_of_zero_le hb
  rw [castMod, castMod, bitAnd_pp (Int.natCast_nonneg _) (Int.natCast_nonneg _), bitAnd_pp (Int.natCast_nonneg _) (Int.natCast_nonneg _), castMod, castMod]
  simp only [Int.toNat_natCast]
  rw [Nat.and_mod_two_pow, Nat.and_mod_two_pow, Nat.mod_mod, Nat.mod_mod]
theorem low_or {A B : Int} (n : Nat) (ha : 0 ≤ A) (hb : 0 ≤ B) : Builtin.bitOr (A % 2 ^ n) (B % 2 ^ n) % 2 ^ n = Builtin.bitOr A B % 2 ^ n := by
  obtain ⟨a, rfl⟩ := Int.eq_ofNat_of_zero_le ha
  obtain ⟨b, rfl⟩ := Int.eq_ofNat_of_zero_le hb
  rw [castMod, castMod, bitOr_nn (Int.natCast_nonneg _) (Int.natCast_nonneg _), bitOr_nn (Int.natCast_nonneg _) (Int.natCast_nonneg _), castMod, castMod]
  simp only [Int.toNat_natCast]
  rw [Nat.or_mod_two_pow, Nat.or_mod_two_pow, Nat.mod_mod, Nat.mod_mod]
theorem low_xor {A B : Int} (n : Nat) (ha : 0 ≤ A) (hb : 0 ≤ B) : Builtin.bitXor (A % 2 ^ n) (B % 2 ^ n) % 2 ^ n = Builtin.bitXor A B % 2 ^ n := by
  obtain ⟨a, rfl⟩ := Int.eq_ofNat_of_zero_le ha
  obtain ⟨b, rfl⟩ := Int.eq_ofNat_of_zero_le hb
  rw [castMod, castMod, Bits.bitXor_pp (Int.natCast_nonneg _) (Int.natCast_nonneg _), Bits.bitXor_pp (Int.natCast_nonneg _) (Int.natCast_nonneg _), castMod, castMod]
  simp only [Int.toNat_natCast]
  rw [Nat.xor_mod_two_pow, Nat.xor_mod_two_pow, Nat.mod_mod, Nat.mod_mod]
theorem pw_dvd {n k : Nat} (h : n ≤ k) : (2 : Int) ^ n ∣ 2 ^ k := ⟨2 ^ (k - n), by rw [← Int.pow_add]; congr 1; omega⟩
theorem emod_same {a b m : Int} (k : Int) (h : a - b = m * k) : a % m = b % m := Int.emod_eq_emod_iff_emod_sub_eq_zero.mpr (by rw [h]; exact Int.mul_emod_right m k)
theorem dvalue_low' {x : Str} {N c qa qb ra rb A B : Int} (ea : N * qa + ra = A) (eb : N * qb + rb = B) (l1 : Builtin.bitAnd ra rb % N = Builtin.bitAnd A B % N) (l2 : Builtin.bitOr ra rb % N = Builtin.bitOr A B % N)
    (l3 : Builtin.bitXor ra rb % N = Builtin.bitXor A B % N) : dvalue x ra rb N % N = dvalue x A B (N * c) % N := by
  unfold dvalue
  by_cases h1 : x = "none"
  · rw [if_pos h1, if_pos h1]
  rw [if_neg h1, if_neg h1]
  by_cases h2 : x = "one"
  · rw [if_pos h2, if_pos h2]
  rw [if_neg h2, if_neg h2]
  by_cases h3 : x = "all"
  · rw [if_pos h3, if_pos h3]
    exact emod_same (1 - c) (by rw [Int.mul_sub, Int.mul_one]; omega)
  rw [if_neg h3, if_neg h3]
  by_cases h4 : x = "not"
  · rw [if_pos h4, if_pos h4]
    exact emod_same (1 - c + qa) (by rw [Int.mul_add, Int.mul_sub, Int.mul_one]; omega)
  rw [if_neg h4, if_neg h4]
  by_cases h5 : x = "neg"
  · rw [if_pos h5, if_pos h5]
    exact emod_same qa (by omega)
  rw [if_neg h5, if_neg h5]
  by_cases h6 : x = "twice"
  · rw [if_pos h6, if_pos h6]
    exact emod_same (-qa - qa) (by rw [Int.mul_sub, Int.mul_neg]; omega)
  rw [if_neg h6, if_neg h6]
  by_cases h7 : x = "and"
  · rw [if_pos h7, if_pos h7]
    exact l1
  rw [if_neg h7, if_neg h7]
  by_cases h8 : x = "or"
  · rw [if_pos h8, if_pos h8]
    exact l2
  rw [if_neg h8, if_neg h8]
  by_cases h9 : x = "xor"
  · rw [if_pos h9, if_pos h9]
    exact l3
  rw [if_neg h9, if_neg h9]
  by_cases h10 : x = "add"
  · rw [if_pos h10, if_pos h10]
    exact emod_same (-qa - qb) (by rw [Int.mul_sub, Int.mul_neg]; omega)
  rw [if_neg h10, if_neg h10]
  exact emod_same (qb - qa) (by rw [Int.mul_sub]; omega)
theorem dvalue_low {x : Str} {A B : Int} {n k : Nat} (hA : 0 ≤ A) (hB : 0 ≤ B) (h : n ≤ k) : dvalue x (A % 2 ^ n) (B % 2 ^ n) (2 ^ n) % 2 ^ n = dvalue x A B (2 ^ k) % 2 ^ n := by
  obtain ⟨c, hc⟩ := pw_dvd h
  rw [hc]
  exact dvalue_low' (Int.mul_ediv_add_emod A (2 ^ n)) (Int.mul_ediv_add_emod B (2 ^ n)) (low_and n hA hB) (low_or n hA hB) (low_xor n hA hB)
theorem getD_low (N : Int) (l : List Int) (i : Nat) : (l.map (· % N)).getD i 0 = l.getD i 0 % N := by
  rw [List.getD_eq_getElem?_getD, List.getD_eq_getElem?_getD, List.getElem?_map]
  cases l[i]? with
  | none => exact (Int.zero_emod N).symm
  | some y => rfl
theorem arg_nn {told : List Int} (h : ∀ x ∈ told, 0 ≤ x) (d : Deed) (j : Nat) : 0 ≤ argAt d told j := by
  unfold argAt
  rw [List.getD_eq_getElem?_getD]
  cases e : told[(d.2.getD j 0).toNat]? with
  | none => exact Int.le_refl 0
  | some y => exact h y (List.mem_of_getElem? e)
theorem dval_low {d : Deed} {told : List Int} {n k : Nat} (h : ∀ x ∈ told, 0 ≤ x) (hk : n ≤ k) : dval (2 ^ n) d (told.map (· % 2 ^ n)) = dval (2 ^ k) d told % 2 ^ n := by
  unfold dval
  have e : ∀ j, argAt d (told.map (· % 2 ^ n)) j = argAt d told j % 2 ^ n := fun j => getD_low _ _ _
  rw [e, e, dvalue_low (arg_nn h d 0) (arg_nn h d 1) hk, Int.emod_emod_of_dvd _ (pw_dvd hk)]
theorem vals_low {n k : Nat} (hk : n ≤ k) : ∀ (ds : List Deed) (told : List Int), (∀ x ∈ told, 0 ≤ x) → vals (2 ^ n) ds (told.map (· % 2 ^ n)) = (vals (2 ^ k) ds told).map (· % 2 ^ n)
  | [], _, _ => rfl
  | d :: ds, told, h => by
    show vals (2 ^ n) ds (told.map (· % 2 ^ n) ++ [dval (2 ^ n) d (told.map (· % 2 ^ n))]) = (vals (2 ^ k) ds (told ++ [dval (2 ^ k) d told])).map (· % 2 ^ n)
    rw [dval_low h hk, ← vals_low hk ds, List.map_append]
    · rfl
    · intro x hx
      rcases List.mem_append.mp hx with hx | hx
      · exact h x hx
      · rw [List.mem_singleton.mp hx]
        exact Int.emod_nonneg _ (by have := pw_pos k; omega)
theorem vals_range {size : Int} (hs : 0 < size) : ∀ (ds : List Deed) (told : List Int), (∀ x ∈ told, 0 ≤ x ∧ x < size) → ∀ x ∈ vals size ds told, 0 ≤ x ∧ x < size
  | [], _, h => h
  | d :: ds, told, h => by
    refine vals_range hs ds (told ++ [dval size d told]) fun x hx => ?_
    rcases List.mem_append.mp hx with hx | hx
    · exact h x hx
    · rw [List.mem_singleton.mp hx]
      exact ⟨Int.emod_nonneg _ (by omega), Int.emod_lt_of_pos _ hs⟩
/-! ### lists of ints compared -/
theorem eqv_ints : ∀ l : List Int, PyData.eqv (.list (l.map PyData.int)) (.list (l.map PyData.int)) = true := fun l => SeqAt.eqv_refl _ (SeqAt.canLay_of_shaped (shaped_ints l))
theorem dget_at {H : Hp} {a : Addr} {kvs : List (Key × V)} {k : Key} {v : V} (e : H a = some (.dK kvs)) (h : valV kvs k = some v) : DGet H a (kV k) (some v) := h ▸ DGet.k e
theorem fw_cases {x : Str} {n : Nat} (h : (x, (n : Int)) ∈ fwL) : (n = 0 ∧ (x = "none" ∨ x = "one" ∨ x = "all")) ∨ (n = 1 ∧ (x = "not" ∨ x = "neg" ∨ x = "twice")) ∨ (n = 2 ∧ (x = "and" ∨ x = "or" ∨ x = "xor" ∨ x = "add" ∨ x = "sub")) := by
  unfold fwL at h
  simp only [List.mem_cons, List.not_mem_nil, or_false, Prod.mk.injEq] at h
  rcases h with h | h | h | h | h | h | h | h | h | h | h
  · exact .inl ⟨by omega, .inl h.1⟩
  · exact .inl ⟨by omega, .inr (.inl h.1)⟩
  · exact .inl ⟨by omega, .inr (.inr h.1)⟩
  · exact .inr (.inl ⟨by omega, .inl h.1⟩)
  · exact .inr (.inl ⟨by omega, .inr (.inl h.1)⟩)
  · exact .inr (.inl ⟨by omega, .inr (.inr h.1)⟩)
  · exact .inr (.inr ⟨by omega, .inl h.1⟩)
  · exact .inr (.inr ⟨by omega, .inr (.inl h.1)⟩)
  · exact .inr (.inr ⟨by omega, .inr (.inr (.inl h.1))⟩)
  · exact .inr (.inr ⟨by omega, .inr (.inr (.inr (.inl h.1)))⟩)
  · exact .inr (.inr ⟨by omega, .inr (.inr (.inr (.inr h.1)))⟩)
theorem and_lt {A B : Int} {n : Nat} (a0 : 0 ≤ A) (a1 : A < 2 ^ n) (b0 : 0 ≤ B) : Builtin.bitAnd A B % 2 ^ n = Builtin.bitAnd A B := by
  obtain ⟨a, rfl⟩ := Int.eq_ofNat_of_zero_le a0
  obtain ⟨b, rfl⟩ := Int.eq_ofNat_of_zero_le b0
  rw [bitAnd_pp (Int.natCast_nonneg _) (Int.natCast_nonneg _), castMod]
  rw [pw_cast] at a1
  simp only [Int.toNat_natCast]
  rw [Nat.mod_eq_of_lt (Nat.lt_of_le_of_lt Nat.and_le_left (by omega))]
theorem or_lt {A B : Int} {n : Nat} (a0 : 0 ≤ A) (a1 : A < 2 ^ n) (b0 : 0 ≤ B) (b1 : B < 2 ^ n) : Builtin.bitOr A B % 2 ^ n = Builtin.bitOr A B := by
  obtain ⟨a, rfl⟩ := Int.eq_ofNat_of_zero_le a0
  obtain ⟨b, rfl⟩ := Int.eq_ofNat_of_zero_le b0
  rw [bitOr_nn (Int.natCast_nonneg _) (Int.natCast_nonneg _), castMod]
  rw [pw_cast] at a1 b1
  simp only [Int.toNat_natCast]
  rw [Nat.mod_eq_of_lt (Nat.or_lt_two_pow (by omega) (by omega))]
theorem xor_lt {A B : Int} {n : Nat} (a0 : 0 ≤ A) (a1 : A < 2 ^ n) (b0 : 0 ≤ B) (b1 : B < 2 ^ n) : Builtin.bitXor A B % 2 ^ n = Builtin.bitXor A B := by
  obtain ⟨a, rfl⟩ := Int.eq_ofNat_of_zero_le a0
  obtain ⟨b, rfl⟩ := Int.eq_ofNat_of_zero_le b0
  rw [Bits.bitXor_pp (Int.natCast_nonneg _) (Int.natCast_nonneg _), castMod]
  rw [pw_cast] at a1 b1
  simp only [Int.toNat_natCast]
  rw [Nat.mod_eq_of_lt (Nat.xor_lt_two_pow (by omega) (by omega))]
/-! ### all but the first -/
theorem sIx_one (x : V) (xs : List V) : HT.sIx (x :: xs).length 0 (some 1) = 1 := by
  have e : HT.sIx (x :: xs).length 0 (some 1) = min 1 (x :: xs).length := HT.sIx_nat (x :: xs).length 0 1
  rw [e, List.length_cons]
  omega
theorem cutTail (x : V) (xs : List V) : cutV (x :: xs) (some 1) none = xs := by
  have h2 : HT.sIx (x :: xs).length (x :: xs).length none = (x :: xs).length := HT.sIx_none _ _
  unfold cutV
  rw [sIx_one, h2]
  simp
theorem notWhole (x : V) (xs : List V) : ¬ (HT.sIx (x :: xs).length 0 (some 1) = 0 ∧ HT.sIx (x :: xs).length (x :: xs).length none = (x :: xs).length) := by
  rw [sIx_one]
  exact fun h => absurd h.1 (by decide)
theorem intEq {x y : Int} (h : decide (V.int x = V.int y) = true) : x = y := V.int.inj (of_decide_eq_true h)
theorem intNe {x y : Int} (h : ¬ decide (V.int x = V.int y) = true) : ¬ x = y := fun e => h (decide_eq_true (congrArg V.int e))
/-! ### t + u of two tuples at hand, whatever they hold -/
section
variable {X : Cx}
def rCatZ : R2 := fun x y H Q => ∃ a b xs ys, x = .ref a ∧ y = .ref b ∧ H a = some (.tup xs) ∧ H b = some (.tup ys) ∧ xs.length + ys.length ≤ sizeLine ∧ ∀ p H2, Same H H2 → H2 p = some (.tup (xs ++ ys)) → Q (.ref p) H2
theorem op_catZ : OpR X (binaryOp .Add) rCatZ := by
  intro pins s σ H x y v u Q I rx ry h
  obtain ⟨a, b, xs, ys, rfl, rfl, ha, hb, hz, q⟩ := h
  refine op_catA pins s σ H _ _ v u Q I rx ry ⟨a, b, xs, ys, rfl, rfl, SqT.of ha, SqT.of hb, hz, fun e => ?_, fun _ e => ?_, fun _ _ p hp => ?_⟩
  · subst e
    exact q b H (Same.refl H) hb
  · subst e
    exact q a H (Same.refl H) (by rw [List.append_nil]; exact ha)
  · exact q p _ (same_new hp) upd_same
end
theorem awAppend {α β : Type} {F : α → β → Prop} : ∀ {l k : List α} {l2 k2 : List β}, Paired F l l2 → Paired F k k2 → Paired F (l ++ k) (l2 ++ k2)
  | _, _, _, _, .nil, h => h
  | _, _, _, _, .cons r t, h => .cons r (awAppend t h)
theorem dsOk_append {m t : Int} {ds es : List Deed} (h : DsOk m ds) (k : DsOk t es) (e : t = m + ds.length) : DsOk m (ds ++ es) := by
  constructor
  intro i d hi
  by_cases hl : i < ds.length
  · rw [List.getElem?_append_left hl] at hi
    exact h.each i d hi
  · rw [List.getElem?_append_right (by omega)] at hi
    have := k.each _ d hi
    rw [e] at this
    have e2 : m + (ds.length : Int) + ((i - ds.length : Nat) : Int) = m + i := by omega
    rw [e2] at this
    exact this
/-- all but one stands as it stood -/
def But (f : Addr) (H H2 : Hp) : Prop := ∀ b o, b ≠ f → H b = some o → H2 b = some o
theorem But.trans {f : Addr} {H H1 H2 : Hp} (a : But f H H1) (b : But f H1 H2) : But f H H2 := fun c o n e => b c o n (a c o n e)
theorem But.same {f : Addr} {H H2 : Hp} (s : Same H H2) : But f H H2 := fun b o _ e => s b o e
theorem But.put {f : Addr} {H : Hp} {o : HO} : But f H (upd H f o) := fun b u n e => by
  rw [upd_ne n]
  exact e
theorem But.tups {f : Addr} {H H2 : Hp} {xs : List V} (h : But f H H2) (e : H f = some (.lst xs)) : TupsStay H H2 := fun b ys z => h b _ (ne_of z e (fun q => nomatch q)) z
/-! ### the tape -/
def TP (H : Hp) (a : Addr) : Prop := ∃ x y : Int, H a = some (.lst [.int x, .int y])
theorem TP.same {H H2 : Hp} {a : Addr} (h : TP H a) (s : Same H H2) : TP H2 a := by
  obtain ⟨x, y, e⟩ := h
  exact ⟨x, y, s _ _ e⟩
theorem TP.ne_new {H : Hp} {a p : Addr} (h : TP H a) (e : H p = none) : p ≠ a := by
  obtain ⟨x, y, e1⟩ := h
  exact (ne_of_none e1 e).symm
theorem TP.upd {H : Hp} {a p : Addr} {o : HO} (h : TP H a) (n : p ≠ a) : TP (upd H p o) a := by
  obtain ⟨x, y, e1⟩ := h
  exact ⟨x, y, by rw [upd_ne n.symm]; exact e1⟩
theorem But.tape {a : Addr} {H H2 : Hp} (h : But a H H2) (t : TP H a) : TupsStay H H2 := by
  obtain ⟨x, y, e⟩ := t
  exact h.tups e
theorem But.refl (a : Addr) (H : Hp) : But a H H := fun _ _ _ e => e
theorem atI_in {α : Type} {l : List α} {i : Int} (h0 : 0 ≤ i) (h1 : i < l.length) : ∃ v, atI l i = some v ∧ v ∈ l := by
  obtain ⟨k, rfl⟩ := Int.eq_ofNat_of_zero_le h0
  have hk : k < l.length := by omega
  exact ⟨l[k], atI_nat (List.getElem?_eq_getElem hk), List.getElem_mem hk⟩
/-! ### texts in written tuples -/
theorem inS (x : Str) : ∀ l : List Str, inV (.str x) (l.map V.str) = decide (x ∈ l)
  | [] => rfl
  | y :: l => by
    have ih := inS x l
    show (eqV (.str y) (.str x) || inV (.str x) (l.map V.str)) = _
    rw [ih]
    by_cases h : x = y
    · subst h
      simp [eqV]
    · have h2 : ¬ y = x := fun e => h e.symm
      simp [eqV, h, h2]
def tw12 : List Str := ["add", "sub", "and", "xor", "or", "not", "twice", "neg", "all", "one", "none", "add"]
def twC : List Str := ["add", "sub", "twice", "neg", "one"]
theorem tw_zero : ∀ x ∈ (["all", "one", "none"] : List Str), (x, (0 : Int)) ∈ fwL := by decide +kernel
theorem tw_one : ∀ x ∈ (["not", "twice", "neg"] : List Str), (x, (1 : Int)) ∈ fwL := by decide +kernel
theorem tw_two : ∀ x ∈ tw12, x ∈ (["all", "one", "none"] : List Str) ∨ x ∈ (["not", "twice", "neg"] : List Str) ∨ (x, (2 : Int)) ∈ fwL := by decide +kernel
theorem tw_four : ∀ x ∈ (["and", "or", "xor", "not"] : List Str), x ∈ tw12 := by decide +kernel
theorem mem_strs {v : V} {l : List Str} (h : v ∈ l.map V.str) : ∃ x, x ∈ l ∧ v = .str x := by
  obtain ⟨x, hx, e⟩ := List.mem_map.mp h
  exact ⟨x, hx, e.symm⟩
/-! ### bits and carries of rows -/
def fcD (d : Deed) : Int := if d.1 ∈ (["neg", "one"] : List Str) then 1 else 0
def dbit (x : Str) (a b c : Int) : Int :=
  if x = "none" then 0 else if x = "all" then 1 else if x = "one" then c else if x = "twice" then c else if x = "not" then 1 - a else if x = "neg" then Builtin.bitXor (1 - a) c
  else if x = "and" then Builtin.bitAnd a b else if x = "or" then Builtin.bitOr a b else if x = "xor" then Builtin.bitXor a b else Builtin.bitXor (Builtin.bitXor a b) c
def dcar (x : Str) (a b c : Int) : Int :=
  if x = "neg" then Builtin.bitAnd (1 - a) c else if x = "twice" then a else if x = "add" then (a + b + c) / 2 else if x = "sub" then (1 - a + b + c) / 2 else 0
def dbitAt (d : Deed) (c : Int) (told : List Int) : Int := dbit d.1 (argAt d told 0) (argAt d told 1) c
def dcarAt (d : Deed) (c : Int) (told : List Int) : Int := dcar d.1 (argAt d told 0) (argAt d told 1) c
def bts : List Deed → List Int → List Int → List Int
  | d :: ds, c :: cs, told => bts ds cs (told ++ [dbitAt d c told])
  | _, _, told => told
def nxt (ds : List Deed) (cs told : List Int) : List Int := List.zipWith (fun d c => dcarAt d c told) ds cs
abbrev Bit (x : Int) : Prop := x = 0 ∨ x = 1
theorem bit0 : Bit 0 := .inl rfl
theorem bit1 : Bit 1 := .inr rfl
theorem dbit_bit {x : Str} {a b c : Int} (ha : Bit a) (hb : Bit b) (hc : Bit c) : Bit (dbit x a b c) := by
  have n1 : Bit (1 - a) := by rcases ha with rfl | rfl <;> simp [Bit]
  have hx : ∀ {p q : Int}, Bit p → Bit q → Bit (Builtin.bitXor p q) := fun hp hq => by
    rcases hp with rfl | rfl <;> rcases hq with rfl | rfl <;> decide
  have hand : ∀ {p q : Int}, Bit p → Bit q → Bit (Builtin.bitAnd p q) := fun hp hq => by
    rcases hp with rfl | rfl <;> rcases hq with rfl | rfl <;> decide
  have hor : ∀ {p q : Int}, Bit p → Bit q → Bit (Builtin.bitOr p q) := fun hp hq => by
    rcases hp with rfl | rfl <;> rcases hq with rfl | rfl <;> decide
  unfold dbit
  split; · exact bit0
  split; · exact bit1
  split; · exact hc
  split; · exact hc
  split; · exact n1
  split; · exact hx n1 hc
  split; · exact hand ha hb
  split; · exact hor ha hb
  split; · exact hx ha hb
  exact hx (hx ha hb) hc
theorem dcar_bit {x : Str} {a b c : Int} (ha : Bit a) (hb : Bit b) (hc : Bit c) : Bit (dcar x a b c) := by
  unfold dcar
  split
  · rcases ha with rfl | rfl <;> rcases hc with rfl | rfl <;> decide
  split; · exact ha
  split
  · rcases ha with rfl | rfl <;> rcases hb with rfl | rfl <;> rcases hc with rfl | rfl <;> decide
  split
  · rcases ha with rfl | rfl <;> rcases hb with rfl | rfl <;> rcases hc with rfl | rfl <;> decide
  exact bit0
theorem argAt_bit {told : List Int} (h : ∀ x ∈ told, Bit x) (d : Deed) (j : Nat) : Bit (argAt d told j) := by
  unfold argAt
  rw [List.getD_eq_getElem?_getD]
  cases e : told[(d.2.getD j 0).toNat]? with
  | none => exact bit0
  | some y => exact h y (List.mem_of_getElem? e)
theorem bts_next : ∀ {ds : List Deed} {cs t : List Int} {i : Nat} {d : Deed} {c : Int}, ds[i]? = some d → cs[i]? = some c → bts (ds.take (i + 1)) (cs.take (i + 1)) t = bts (ds.take i) (cs.take i) t ++ [dbitAt d c (bts (ds.take i) (cs.take i) t)]
  | [], _, _, _, _, _, h, _ => by simp at h
  | _ :: _, [], _, _, _, _, _, h => by simp at h
  | e :: ds, g :: cs, t, 0, d, c, h, k => by
    simp only [List.getElem?_cons_zero, Option.some.injEq] at h k
    subst h k
    rfl
  | e :: ds, g :: cs, t, i + 1, d, c, h, k => by
    simp only [List.getElem?_cons_succ] at h k
    exact bts_next (t := t ++ [dbitAt e g t]) h k
theorem bts_len : ∀ {ds : List Deed} {cs t : List Int}, ds.length = cs.length → (bts ds cs t).length = t.length + ds.length
  | [], [], _, _ => rfl
  | [], _ :: _, _, h => by simp at h
  | _ :: _, [], _, h => by simp at h
  | d :: ds, c :: cs, t, h => by
    show (bts ds cs (t ++ [dbitAt d c t])).length = _
    rw [bts_len (by simpa using h), List.length_append, List.length_cons, List.length_cons, List.length_nil]
    omega
theorem bts_bits : ∀ {ds : List Deed} {cs t : List Int}, (∀ x ∈ t, Bit x) → (∀ x ∈ cs, Bit x) → ∀ x ∈ bts ds cs t, Bit x
  | [], cs, t, h, _ => by
    unfold bts
    exact h
  | _ :: _, [], t, h, _ => by
    unfold bts
    exact h
  | d :: ds, c :: cs, t, h, k => by
    refine bts_bits (ds := ds) (cs := cs) (t := t ++ [dbitAt d c t]) (fun x hx => ?_) fun x hx => k x (List.mem_cons_of_mem _ hx)
    rcases List.mem_append.mp hx with hx | hx
    · exact h x hx
    · rw [List.mem_singleton.mp hx]
      exact dbit_bit (argAt_bit h d 0) (argAt_bit h d 1) (k c List.mem_cons_self)
theorem nxt_len {ds : List Deed} {cs t : List Int} (h : ds.length = cs.length) : (nxt ds cs t).length = ds.length := by
  unfold nxt
  rw [List.length_zipWith]
  omega
theorem nxt_bits {ds : List Deed} {cs t : List Int} (h : ∀ x ∈ t, Bit x) (k : ∀ x ∈ cs, Bit x) : ∀ x ∈ nxt ds cs t, Bit x := by
  intro x hx
  unfold nxt at hx
  obtain ⟨i, hi⟩ := List.mem_iff_getElem?.mp hx
  rw [List.getElem?_zipWith] at hi
  cases e1 : ds[i]? with
  | none => rw [e1] at hi; simp at hi
  | some d =>
    cases e2 : cs[i]? with
    | none => rw [e1, e2] at hi; simp at hi
    | some c =>
      rw [e1, e2] at hi
      have := Option.some.inj hi
      rw [← this]
      exact dcar_bit (argAt_bit h d 0) (argAt_bit h d 1) (k c (List.mem_of_getElem? e2))
theorem nxt_next {ds : List Deed} {cs t : List Int} {i : Nat} {d : Deed} {c : Int} (h : ds[i]? = some d) (k : cs[i]? = some c) : (nxt ds cs t).take (i + 1) = (nxt ds cs t).take i ++ [dcarAt d c t] := by
  rw [List.take_add_one]
  unfold nxt
  rw [List.getElem?_zipWith, h, k]
  rfl
section
variable {K : PySem.W.Frag} {a b : Addr} {xs ys : List V}
theorem walk_zipT (hn : xs.length = ys.length) : Walk (RZ.ItzT K a b) xs.length (fun H => SqT K H a xs ∧ SqT K H b ys) (YPair (fun i => xs[i]?) (fun i => ys[i]?)) where
  goes := fun i H hi q => ⟨xs, ys, xs[i], ys[i]'(by omega), q.1, q.2, List.getElem?_eq_getElem hi, List.getElem?_eq_getElem (by omega)⟩
  stops := fun H q => ⟨xs, ys, q.1, q.2, .inl (Nat.le_refl _)⟩
  yields := fun i H v H2 hi q y => by
    obtain ⟨T, x, z, h1, h2, h3, h4, h5⟩ := y
    exact ⟨T, x, z, h1, h2, h3, h4 xs q.1, h5 ys q.2⟩
end
/-! ### own exceptions as values -/
section
variable {X : Cx} {K : PySem.W.Frag}
theorem kit_ref {D C : Addr} {b : Bool} (h1 : PySem.W.isClsIn K C = true) (h2 : PySem.W.typeIn K (.ref C) = some (.type "type")) (h3 : PySem.W.subIn K (.ref D) (.ref C) = some b) (h4 : PySem.W.subIn K (.ref C) (.ref C) = some true) : PySem.W.kitOne K (.ref D) (.ref C) = some b := by
  unfold PySem.W.kitOne
  by_cases e : D = C
  · subst e
    rw [h3] at h4
    rw [if_pos (by simp), h4]
  · rw [if_neg (by simpa using e)]
    have e1 : ((PySem.W.clsIn K C).isSome && PySem.W.typeIn K (.ref C) == some (.type "type")) = true := by
      have h1' : (PySem.W.clsIn K C).isSome = true := h1
      rw [h1', h2]
      rfl
    show (if ((PySem.W.clsIn K C).isSome && PySem.W.typeIn K (.ref C) == some (.type "type")) = true then PySem.W.subIn K (.ref D) (.ref C) else none) = some b
    rw [if_pos e1]
    exact h3
theorem kit_ve {D : Addr} {b : Bool} (h : PySem.W.subIn K (.ref D) (.type "ValueError") = some b) : PySem.W.kitOne K (.ref D) (.type "ValueError") = some b := by
  have e1 : PySem.W.kitMeta "ValueError" = true := by decide +kernel
  show (if PySem.W.kitMeta "ValueError" = true then PySem.W.subIn K (.ref D) (.type "ValueError") else none) = some b
  rw [if_pos e1]
  exact h
def rIsX (K : PySem.W.Frag) : List V → Hp → VK → Prop := fun xs H Q => ∃ (a D : Addr) (c : V) (cv : Value) (b : Bool), xs = [.ref a, c] ∧ H a = some (ExO (.ref D) a) ∧ ExcC K D ∧ ClsV c cv ∧ PySem.W.kitOne K (.ref D) cv = some b ∧ Q (.bl b) H
theorem call_isX : CallR X (.builtin "isinstance") (rIsX X.K) := by
  intro pins s σ H xs us Q I r h
  obtain ⟨a, D, c, cv, b, rfl, ha, hD, hc, hk, q⟩ := h
  match us, r with
  | [u1, u2], .cons r1 (.cons r2 .nil) =>
    obtain rfl : u1 = Value.ref a := r1
    obtain rfl := ClsV.eq hc r2
    obtain ⟨⟨oe, vs, hget, ⟨z1, z2⟩, hv, _⟩, _, _⟩ := I.hok a _ ha
    have J : PySem.W.InstAt s.heap a oe D none := by
      obtain ⟨oc, od, oda, osl⟩ := oe
      dsimp only at z1 z2 hv
      subst z1 z2 hv
      exact ⟨hget, rfl, rfl, trivial⟩
    exact PySem.W.kia_one (PySem.W.handS_kitx_exc hD.hg hD.hk hD.hs hD.hd hD.ha hD.hn hD.ht hD.hm) I.kIn J hk (fun z => nomatch z) fun tk => ⟨.bl b, H, I.kept (t' := tk) fun _ _ z => z, rfl, q⟩
end
theorem dp_bls {K : PySem.W.Frag} {H : Hp} : ∀ cs : List Bool, DpAll K H (cs.map V.bl) (cs.map PyData.bool)
  | [] => .nil
  | c :: cs => .cons (.bl c) (dp_bls cs)
theorem lay_bls : ∀ cs : List Bool, PyData.canLayAll0 (cs.map PyData.bool) = true ∧ PyData.depthAll (cs.map PyData.bool) = 0
  | [] => ⟨by simp only [List.map_nil, PyData.canLayAll0], by simp only [List.map_nil, PyData.depthAll]⟩
  | c :: cs => by
    obtain ⟨h1, h2⟩ := lay_bls cs
    exact ⟨by simp only [List.map_cons, PyData.canLayAll0, PyData.canLay0, h1, Bool.and_self], by simp only [List.map_cons, PyData.depthAll, PyData.depth, h2, Nat.max_self]⟩
theorem shaped_bls (cs : List Bool) : SeqAt.shaped (.list (cs.map PyData.bool)) = true := by
  obtain ⟨h1, h2⟩ := lay_bls cs
  simp only [SeqAt.shaped, PyData.canLay0, PyData.depth, h1, h2, Bool.true_and]
  decide
theorem eqv_bls (l : List Bool) : PyData.eqv (.list (l.map PyData.bool)) (.list (l.map PyData.bool)) = true := SeqAt.eqv_refl _ (SeqAt.canLay_of_shaped (shaped_bls l))
/-- a test that is never asked -/
def tNevT : TT := fun _ _ _ => False
theorem pt_never {X : Cx} {e : Expr} : PT X e tNevT := ⟨fun _ _ _ _ _ _ h => h.elim⟩
end AW
namespace KK
open PySem PySem.Spec PyProof.Rows L2 AW
def topS (i : Nat) : Stmt := PySem.Challenge.pw_anywide_k72_whole_kinds_and_alike_rows.main.body.getD i (.Pass ⟨0, 0, 0, 0⟩)
abbrev s_all_bits : Stmt := topS 8
abbrev N_all_bits : List Str := ["many", "choices", "place", "bits", "bit"]
theorem sc_all_bits : FnScope N_all_bits ["many"] (defScope s_all_bits) := ⟨rfl, rfl, rfl, by decide +kernel, rfl, by decide +kernel, by decide +kernel⟩
abbrev s_first_carry : Stmt := topS 9
abbrev N_first_carry : List Str := ["row", "deed"]
theorem sc_first_carry : FnScope N_first_carry ["row"] (defScope s_first_carry) := ⟨rfl, rfl, rfl, by decide +kernel, rfl, by decide +kernel, by decide +kernel⟩
abbrev s_deed_bit : Stmt := topS 10
abbrev N_deed_bit : List Str := ["deed", "held", "told", "word", "first", "second"]
theorem sc_deed_bit : FnScope N_deed_bit ["deed", "held", "told"] (defScope s_deed_bit) := ⟨rfl, rfl, rfl, by decide +kernel, rfl, by decide +kernel, by decide +kernel⟩
abbrev s_bits_of : Stmt := topS 11
abbrev N_bits_of : List Str := ["row", "carry", "bits", "told", "deed", "held"]
theorem sc_bits_of : FnScope N_bits_of ["row", "carry", "bits"] (defScope s_bits_of) := ⟨rfl, rfl, rfl, by decide +kernel, rfl, by decide +kernel, by decide +kernel⟩
abbrev s_two_or_more : Stmt := topS 12
abbrev N_two_or_more : List Str := ["one", "other", "third"]
theorem sc_two_or_more : FnScope N_two_or_more ["one", "other", "third"] (defScope s_two_or_more) := ⟨rfl, rfl, rfl, by decide +kernel, rfl, by decide +kernel, by decide +kernel⟩
abbrev s_deed_carry : Stmt := topS 13
abbrev N_deed_carry : List Str := ["deed", "held", "told", "word"]
theorem sc_deed_carry : FnScope N_deed_carry ["deed", "held", "told"] (defScope s_deed_carry) := ⟨rfl, rfl, rfl, by decide +kernel, rfl, by decide +kernel, by decide +kernel⟩
abbrev s_carry_behind : Stmt := topS 14
abbrev N_carry_behind : List Str := ["row", "carry", "told", "deed", "held"]
theorem sc_carry_behind : FnScope N_carry_behind ["row", "carry", "told"] (defScope s_carry_behind) := ⟨rfl, rfl, rfl, by decide +kernel, rfl, by decide +kernel, by decide +kernel⟩
abbrev s_steps : Stmt := topS 15
abbrev N_steps : List Str := ["row", "carry", "told", "bits", "all_told"]
theorem sc_steps : FnScope N_steps ["row", "carry"] (defScope s_steps) := ⟨rfl, rfl, rfl, by decide +kernel, rfl, by decide +kernel, by decide +kernel⟩
abbrev s_kept_steps : Stmt := topS 16
abbrev N_kept_steps : List Str := ["kept", "row", "carry"]
theorem sc_kept_steps : FnScope N_kept_steps ["kept", "row", "carry"] (defScope s_kept_steps) := ⟨rfl, rfl, rfl, by decide +kernel, rfl, by decide +kernel, by decide +kernel⟩
abbrev s_both_steps : Stmt := topS 19
abbrev N_both_steps : List Str := ["ones", "others", "bit", "after", "others_bit", "others_after"]
theorem sc_both_steps : FnScope N_both_steps ["ones", "others"] (defScope s_both_steps) := ⟨rfl, rfl, rfl, by decide +kernel, rfl, by decide +kernel, by decide +kernel⟩
abbrev s_words_of : Stmt := topS 20
abbrev N_words_of : List Str := ["many", "columns", "words", "place", "bits", "at", "bit"]
theorem sc_words_of : FnScope N_words_of ["many", "columns"] (defScope s_words_of) := ⟨rfl, rfl, rfl, by decide +kernel, rfl, by decide +kernel, by decide +kernel⟩
abbrev s_whole_machine : Stmt := topS 22
abbrev N_whole_machine : List Str := ["row", "choices", "walk", "machine", "at", "carry", "state", "bits", "bit", "after"]
theorem sc_whole_machine : FnScope N_whole_machine ["row"] (defScope s_whole_machine) := ⟨rfl, rfl, rfl, by decide +kernel, rfl, by decide +kernel, by decide +kernel⟩
abbrev s_numbered : Stmt := topS 23
abbrev N_numbered : List Str := ["looks", "numbers", "look"]
theorem sc_numbered : FnScope N_numbered ["looks"] (defScope s_numbered) := ⟨rfl, rfl, rfl, by decide +kernel, rfl, by decide +kernel, by decide +kernel⟩
abbrev s_kinds_of_states : Stmt := topS 24
abbrev N_kinds_of_states : List Str := ["machine", "kinds", "many", "behind", "bit", "after", "state"]
theorem sc_kinds_of_states : FnScope N_kinds_of_states ["machine"] (defScope s_kinds_of_states) := ⟨rfl, rfl, rfl, by decide +kernel, rfl, by decide +kernel, by decide +kernel⟩
abbrev s_least_machine : Stmt := topS 25
abbrev N_least_machine : List Str := ["row", "whole", "kinds", "least", "kind", "state", "bit", "after"]
theorem sc_least_machine : FnScope N_least_machine ["row"] (defScope s_least_machine) := ⟨rfl, rfl, rfl, by decide +kernel, rfl, by decide +kernel, by decide +kernel⟩
abbrev s_is_whole : Stmt := topS 30
abbrev N_is_whole : List Str := ["thing"]
theorem sc_is_whole : FnScope N_is_whole ["thing"] (defScope s_is_whole) := ⟨rfl, rfl, rfl, by decide +kernel, rfl, by decide +kernel, by decide +kernel⟩
abbrev s_is_number_below : Stmt := topS 31
abbrev N_is_number_below : List Str := ["thing", "many"]
theorem sc_is_number_below : FnScope N_is_number_below ["thing", "many"] (defScope s_is_number_below) := ⟨rfl, rfl, rfl, by decide +kernel, rfl, by decide +kernel, by decide +kernel⟩
abbrev s_is_deed : Stmt := topS 32
abbrev N_is_deed : List Str := ["thing", "ahead", "word", "numbers", "number"]
theorem sc_is_deed : FnScope N_is_deed ["thing", "ahead"] (defScope s_is_deed) := ⟨rfl, rfl, rfl, by decide +kernel, rfl, by decide +kernel, by decide +kernel⟩
abbrev s_are_deeds : Stmt := topS 33
abbrev N_are_deeds : List Str := ["thing", "many", "at", "deed"]
theorem sc_are_deeds : FnScope N_are_deeds ["thing", "many"] (defScope s_are_deeds) := ⟨rfl, rfl, rfl, by decide +kernel, rfl, by decide +kernel, by decide +kernel⟩
abbrev s_is_row : Stmt := topS 34
abbrev N_is_row : List Str := ["thing", "many", "deeds", "out"]
theorem sc_is_row : FnScope N_is_row ["thing"] (defScope s_is_row) := ⟨rfl, rfl, rfl, by decide +kernel, rfl, by decide +kernel, by decide +kernel⟩
abbrev s_renumbered : Stmt := topS 35
abbrev N_renumbered : List Str := ["deed", "numbers", "number"]
theorem sc_renumbered : FnScope N_renumbered ["deed", "numbers"] (defScope s_renumbered) := ⟨rfl, rfl, rfl, by decide +kernel, rfl, by decide +kernel, by decide +kernel⟩
abbrev s_is_name : Stmt := topS 39
abbrev N_is_name : List Str := ["thing", "sign"]
theorem sc_is_name : FnScope N_is_name ["thing"] (defScope s_is_name) := ⟨rfl, rfl, rfl, by decide +kernel, rfl, by decide +kernel, by decide +kernel⟩
abbrev s_check_name : Stmt := topS 40
abbrev N_check_name : List Str := ["thing"]
theorem sc_check_name : FnScope N_check_name ["thing"] (defScope s_check_name) := ⟨rfl, rfl, rfl, by decide +kernel, rfl, by decide +kernel, by decide +kernel⟩
abbrev s_look_of : Stmt := topS 41
abbrev N_look_of : List Str := ["row", "state"]
theorem sc_look_of : FnScope N_look_of ["row"] (defScope s_look_of) := ⟨rfl, rfl, rfl, by decide +kernel, rfl, by decide +kernel, by decide +kernel⟩
abbrev s_check_pair : Stmt := topS 44
abbrev N_check_pair : List Str := ["row", "other"]
theorem sc_check_pair : FnScope N_check_pair ["row", "other"] (defScope s_check_pair) := ⟨rfl, rfl, rfl, by decide +kernel, rfl, by decide +kernel, by decide +kernel⟩
abbrev s_alike : Stmt := topS 45
abbrev N_alike : List Str := ["row", "other", "choices", "ones", "others", "walk", "at", "carry", "others_carry", "both", "bits", "bit", "others_bit", "after", "columns"]
theorem sc_alike : FnScope N_alike ["row", "other"] (defScope s_alike) := ⟨rfl, rfl, rfl, by decide +kernel, rfl, by decide +kernel, by decide +kernel⟩
abbrev s_check_parts : Stmt := topS 47
abbrev N_check_parts : List Str := ["row", "rows", "part", "length"]
theorem sc_check_parts : FnScope N_check_parts ["row", "rows"] (defScope s_check_parts) := ⟨rfl, rfl, rfl, by decide +kernel, rfl, by decide +kernel, by decide +kernel⟩
abbrev s_put_behind : Stmt := topS 48
abbrev N_put_behind : List Str := ["many", "deeds", "row", "inputs", "ahead", "numbers", "deed"]
theorem sc_put_behind : FnScope N_put_behind ["many", "deeds", "row", "inputs"] (defScope s_put_behind) := ⟨rfl, rfl, rfl, by decide +kernel, rfl, by decide +kernel, by decide +kernel⟩
abbrev s_put_together : Stmt := topS 49
abbrev N_put_together : List Str := ["row", "rows", "many", "deeds", "outs", "part", "out"]
theorem sc_put_together : FnScope N_put_together ["row", "rows"] (defScope s_put_together) := ⟨rfl, rfl, rfl, by decide +kernel, rfl, by decide +kernel, by decide +kernel⟩
abbrev s_law_well : Stmt := topS 51
abbrev N_law_well : List Str := ["script", "seed", "cell"]
theorem sc_law_well : FnScope N_law_well ["script"] (defScope s_law_well) := ⟨rfl, rfl, rfl, by decide +kernel, rfl, by decide +kernel, by decide +kernel⟩
abbrev s_law_draw : Stmt := topS 52
abbrev N_law_draw : List Str := ["well", "many", "cell", "found"]
theorem sc_law_draw : FnScope N_law_draw ["well", "many"] (defScope s_law_draw) := ⟨rfl, rfl, rfl, by decide +kernel, rfl, by decide +kernel, by decide +kernel⟩
abbrev s_law_first_words : Stmt := topS 53
abbrev N_law_first_words : List Str := ["found", "word"]
theorem sc_law_first_words : FnScope N_law_first_words [] (defScope s_law_first_words) := ⟨rfl, rfl, rfl, by decide +kernel, rfl, by decide +kernel, by decide +kernel⟩
abbrev s_law_deed : Stmt := topS 54
abbrev N_law_deed : List Str := ["well", "ahead", "words", "word", "k"]
theorem sc_law_deed : FnScope N_law_deed ["well", "ahead"] (defScope s_law_deed) := ⟨rfl, rfl, rfl, by decide +kernel, rfl, by decide +kernel, by decide +kernel⟩
abbrev s_law_row : Stmt := topS 55
abbrev N_law_row : List Str := ["well", "many", "most", "size", "last", "deeds", "k", "out"]
theorem sc_law_row : FnScope N_law_row ["well", "many", "most"] (defScope s_law_row) := ⟨rfl, rfl, rfl, by decide +kernel, rfl, by decide +kernel, by decide +kernel⟩
abbrev s_law_names : Stmt := topS 56
abbrev N_law_names : List Str := ["well", "way", "letters", "word", "turn", "at", "k"]
theorem sc_law_names : FnScope N_law_names ["well"] (defScope s_law_names) := ⟨rfl, rfl, rfl, by decide +kernel, rfl, by decide +kernel, by decide +kernel⟩
abbrev s_law_of_one : Stmt := topS 57
abbrev N_law_of_one : List Str := ["row", "other"]
theorem sc_law_of_one : FnScope N_law_of_one ["row", "other"] (defScope s_law_of_one) := ⟨rfl, rfl, rfl, by decide +kernel, rfl, by decide +kernel, by decide +kernel⟩
abbrev s_law_places : Stmt := topS 58
abbrev N_law_places : List Str := ["book", "found", "at", "kind", "name"]
theorem sc_law_places : FnScope N_law_places ["book"] (defScope s_law_places) := ⟨rfl, rfl, rfl, by decide +kernel, rfl, by decide +kernel, by decide +kernel⟩
abbrev s_law_kinds_right : Stmt := topS 59
abbrev N_law_kinds_right : List Str := ["book", "shelf", "places", "names", "at", "one", "other", "same"]
theorem sc_law_kinds_right : FnScope N_law_kinds_right ["book", "shelf"] (defScope s_law_kinds_right) := ⟨rfl, rfl, rfl, by decide +kernel, rfl, by decide +kernel, by decide +kernel⟩
abbrev s_law_made_of : Stmt := topS 60
abbrev N_law_made_of : List Str := ["well", "row", "way", "k"]
theorem sc_law_made_of : FnScope N_law_made_of ["well", "row"] (defScope s_law_made_of) := ⟨rfl, rfl, rfl, by decide +kernel, rfl, by decide +kernel, by decide +kernel⟩
abbrev s_law_long_right : Stmt := topS 61
abbrev N_law_long_right : List Str := ["well", "word", "many", "one", "other", "long", "twin", "book", "shelf", "name", "places"]
theorem sc_law_long_right : FnScope N_law_long_right ["well"] (defScope s_law_long_right) := ⟨rfl, rfl, rfl, by decide +kernel, rfl, by decide +kernel, by decide +kernel⟩
abbrev s_law : Stmt := topS 62
abbrev N_law : List Str := ["script", "well", "seven", "spare", "names", "book", "shelf", "k", "row", "j", "one", "places", "gone", "name", "sign"]
theorem sc_law : FnScope N_law ["script"] (defScope s_law) := ⟨rfl, rfl, rfl, by decide +kernel, rfl, by decide +kernel, by decide +kernel⟩
abbrev c_WideError : Stmt := topS 1
abbrev c_NoRow : Stmt := topS 2
abbrev c_NoPair : Stmt := topS 3
abbrev c_NoName : Stmt := topS 4
abbrev c_TooMany : Stmt := topS 5
abbrev c_Nothing : Stmt := topS 6
abbrev c_Walk : Stmt := topS 18
abbrev c_Book : Stmt := topS 42
section
variable {P : Program} {w : World} {K : PySem.W.Frag} {mg : Str → Option Value} {base : Heap}
/-! ### dicts whose keys are tuples: entries, walks, displays, the least value -/
section dts
theorem dt_raw {H : Hp} {h : Heap} {d : Addr} {kvs : List (List Key × V)} (ok : ObjOk P w H h d (.dT kvs)) :
    (d == sysModules) = false ∧ ∃ es ep, h.DictRaw d es ep ∧ es.size = kvs.length ∧ ∀ (i : Nat) (hi : i < es.size), ∃ k v q, kvs[i]? = some (k, v) ∧ es[i].key = .ref q ∧ H q = some (.tup (k.map kV)) ∧ RelV v es[i].val := by
  obtain ⟨_, hs, xs, pr, o, es, ep, ho, hx, hdt, he, _⟩ := ok
  have l1 : es.size = xs.length := size_of_entries he
  refine ⟨hs, es, ep, ⟨o, ho, hx, hdt⟩, l1.trans (awLen pr).symm, fun i hi => ?_⟩
  have hi2 : i < xs.length := by omega
  obtain ⟨⟨k, v⟩, h1, h2, h3, h4⟩ := awGet2 pr (List.getElem?_eq_getElem hi2)
  have e : es.toList[i]? = some (entryOfKey (tupleKind (mixKind P w)) xs[i]) := by
    rw [he, List.getElem?_map, List.getElem?_eq_getElem hi2]
    rfl
  have e2 : es[i] = entryOfKey (tupleKind (mixKind P w)) xs[i] := by
    rw [Array.getElem?_toList, Array.getElem?_eq_getElem hi] at e
    exact Option.some.inj e
  refine ⟨k, v, xs[i].2.1, h1, ?_, h3, ?_⟩
  · rw [e2]
    rfl
  · rw [e2]
    exact h4
/-- the pairs, each a new tuple with the key's own tuple -/
def ItT (d : Addr) (o : Obj) (kvs : List (List Key × V)) : It where
  go := fun i H => H d = some (.frz o (.dT kvs)) ∧ i < kvs.length
  yld := fun i H x H' => ∃ (T q : Addr) (k : List Key) (v : V), kvs[i]? = some (k, v) ∧ H q = some (.tup (k.map kV)) ∧ x = .ref T ∧ H T = none ∧ H' = upd H T (.tup [.ref q, v])
  stop := fun i H => H d = some (.frz o (.dT kvs)) ∧ kvs.length ≤ i
theorem turn_T {d : Addr} {o : Obj} {kvs : List (List Key × V)} {elts : List Expr} {kk : Nat} {tpos : Pos} (it : Addr) {ep : Nat} {es : Array DictEntry} (hod : o.data = .dict es ep) :
    Turn P w K (.Tuple elts kk tpos) (ItT d o kvs) [it] it (fun i h => ∃ x y, IsItemIter h it d i kvs.length ep x y) where
  mem := List.mem_singleton.mpr rfl
  obj := fun i h st b hb => by
    obtain rfl := List.mem_singleton.mp hb
    obtain ⟨x, y, e⟩ := st
    exact ⟨_, e, fun v z => nomatch z⟩
  keep := fun i h h' st k => by
    obtain ⟨x, y, e⟩ := st
    exact ⟨x, y, k it (List.mem_singleton.mpr rfl) _ e⟩
  item := by
    intro X hP hw hK hc i pins s σ H E I hf st hg
    subst hP hw hK
    obtain ⟨hd, hi⟩ := hg
    obtain ⟨hg1, okd⟩ := I.hok d _ hd
    obtain ⟨_, es', ep', raw, sz, ent⟩ := dt_raw okd
    have raw' := raw
    obtain ⟨o', ho', _, hdt'⟩ := raw'
    obtain rfl : o' = o := Option.some.inj (ho'.symm.trans hg1)
    obtain ⟨rfl, rfl⟩ := dict_ep hod hdt'
    obtain ⟨x, y, he⟩ := st
    have hi' : i < es'.size := by omega
    obtain ⟨k, v, q, hkv, hkey, hq, rv⟩ := ent i hi'
    rw [← sz] at he
    have below : it < s.heap.objs.size := Heap.lt_size he
    refine wpAny_pyNext_items_item_raw he raw hi' fun h' ho hT _ hk => ?_
    refine ⟨_, rfl, wpAny_letOwnedTupleGo_items (s := { s with heap := h' }) ho fun h2 he2 sb => ?_⟩
    have there : h2.get? s.heap.objs.size = some { cls := .type "tuple", data := .seq #[es'[i].key, es'[i].val] } := (sb.2 _ (Nat.ne_of_gt below)).trans hT
    have laid : ObjOk X.prog X.w (upd H s.heap.objs.size (.tup [.ref q, v])) h2 s.heap.objs.size (.tup [.ref q, v]) :=
      ⟨by show 2 ≤ sizeLine; decide, [es'[i].key, es'[i].val], .cons hkey (.cons rv .nil), ⟨_, there, rfl, _, rfl⟩⟩
    refine ⟨.ref s.heap.objs.size, _, I.turnedNew (t' := s.toks) (ch := [it]) (fun b ob hb e => ?_) hf (Nat.le_refl _) laid, rfl, ⟨_, q, k, v, hkv, hq, rfl, I.hok.fresh (Nat.le_refl _), rfl⟩, ⟨es'[i].key, es'[i].val, by rw [← sz]; exact he2⟩, fun b hb => ?_⟩
    · have nb : b ≠ it := fun z => hb (List.mem_singleton.mpr z)
      exact (sb.2 b nb).trans (hk b ob nb e)
    · obtain rfl := List.mem_singleton.mp hb
      rw [upd_ne (Nat.ne_of_lt below)]
      exact (hf b hb).1
  done := by
    intro X hP hw hK hc i pins s σ H E I hf st hg
    subst hP hw hK
    obtain ⟨hd, hi⟩ := hg
    obtain ⟨f0, f1, f2, f3, f4, f5⟩ := hf it (List.mem_singleton.mpr rfl)
    obtain ⟨hg1, okd⟩ := I.hok d _ hd
    obtain ⟨_, es', ep', raw, sz, _⟩ := dt_raw okd
    have raw' := raw
    obtain ⟨o', ho', _, hdt'⟩ := raw'
    obtain rfl : o' = o := Option.some.inj (ho'.symm.trans hg1)
    obtain ⟨rfl, rfl⟩ := dict_ep hod hdt'
    obtain ⟨x, y, he⟩ := st
    rw [← sz] at he
    refine wpAny_pyNext_items_end_raw (I.ok.hd hc) he raw (by omega) fun h' eb => ⟨rfl, ?_⟩
    exact I.turned (t' := s.toks) (fun b ob hb e => eb b ob hb e) f0 f1 f3 f4 f5
  self := fun A i s Q E st h => by
    obtain ⟨x, y, e⟩ := st
    exact wpAny_pyIter_itemiter e h
variable {X : Cx} {e : Expr} {td : TE} {apos cpos : Pos}
def iItT (td : TE) : TI := fun σ H R => td σ H fun x H1 => ∃ d o kvs, x = .ref d ∧ H1 d = some (.frz o (.dT kvs)) ∧ R (ItT d o kvs) H1
theorem pi_itT {elts : List Expr} {kk : Nat} {tpos : Pos} (he : PE X e td) (hb : attributeBase e "items" X.env (eval e X.env) = eval e X.env := by rfl) (hl : (apos.endLine == cpos.line) = true := by rfl) :
    PI X (.Tuple elts kk tpos) (.Call (.Attribute e "items" apos) [] [] cpos) (iItT td) := by
  constructor
  intro pins s σ H R I h
  refine wpAny_Call_method (T := "dict") (id := "dict.items") hb rfl hl F.plainAttrs_dict F.slot_dict_items F.type_dict_items (thn (he.run pins s σ H _ I h) ?_)
  rintro u s1 ⟨x, H1, I1, rx, d, o, kvs, rfl, hd, q⟩
  obtain rfl : u = Value.ref d := rx
  obtain ⟨hg1, okd⟩ := I1.hok d _ hd
  obtain ⟨hs, es, ep, raw, sz, _⟩ := dt_raw okd
  have raw' := raw
  obtain ⟨o', ho', hx', hdt'⟩ := raw'
  obtain rfl : o' = o := Option.some.inj (ho'.symm.trans hg1)
  have I2 : Inv X pins σ H1 { s1 with heap := s1.heap.push { cls := .type "dict_items", data := .fields #[.ref d] } } := I1.kept (t' := s1.toks) fun b ob z => Heap.get?_push_of_some _ z
  refine ⟨raw.typeIs, fun a z => ⟨o', by cases z; exact hg1, hx'.2.1⟩, ?_⟩
  refine method_meetsIn F.slot_dict_items F.entry_dict_items rfl (PySem.evalArgs_none ⟨rfl, raw.typeIs, F.args_dict_items_1 _, _, meets_dict_items_raw d hs, ⟨es, ep, raw⟩, ?_⟩)
  refine wpAny_pyIter_items_raw (d := d) ⟨_, Heap.get?_push_size _ rfl, rfl, rfl⟩ (raw.at fun ob z => Heap.get?_push_of_some _ z) (pi_one (tk := s1.toks) I2 _ (turn_T _ hdt') ⟨.none, .none, ?_⟩ q)
  rw [← sz]
  exact Heap.get?_push_size _ rfl
theorem walk_T {d : Addr} {o : Obj} {kvs : List (List Key × V)} : Walk (ItT d o kvs) kvs.length (fun H => H d = some (.frz o (.dT kvs)))
    (fun i H x H' => ∃ (T q : Addr) (k : List Key) (v : V), kvs[i]? = some (k, v) ∧ H q = some (.tup (k.map kV)) ∧ x = .ref T ∧ H T = none ∧ H' = upd H T (.tup [.ref q, v])) :=
  ⟨fun _ _ hi q => ⟨q, hi⟩, fun _ q => ⟨q, Nat.le_refl _⟩, fun _ _ _ _ _ _ y => y⟩
/-- d.values() -/
def valsO (p d : Addr) : HO := .ext fun h => h.IsValuesView p d
theorem valsO_ok {H : Hp} {h : Heap} {p d : Addr} (e : h.get? p = some { cls := .type "dict_values", data := .fields #[.ref d] }) : ObjOk P w H h p (valsO p d) := by
  refine ⟨⟨_, e, rfl, rfl⟩, ⟨_, e⟩, ?_⟩
  rintro h1 h2 ⟨o, ho, r⟩ k
  exact ⟨o, k o ho, r⟩
def rValsT : V → List V → Hp → VK → Prop := fun x xs H Q => ∃ (a : Addr) (kvs : List (List Key × V)), x = .ref a ∧ xs = [] ∧ H a = some (.dT kvs) ∧ ∀ p, H p = none → Q (.ref p) (upd H p (valsO p a))
theorem mt_valsT : MtR X "dict.values" rValsT := by
  intro pins s σ H x xs v us Q I rx rxs h
  obtain ⟨a, kvs, rfl, rfl, ha, q⟩ := h
  cases rx
  cases rxs
  obtain ⟨hs, es, ep, raw, _⟩ := dt_raw (I.hok a _ ha)
  refine call_meetsIn F.slot_dict_values raw.typeIs F.entry_dict_values (F.args_dict_values_1 _) (meets_dict_values_raw a hs) ⟨⟨es, ep, raw⟩, ?_⟩
  have I2 := I.laid (o := valsO s.heap.objs.size a) (t' := s.toks) (fun b u z => Heap.get?_push_of_some _ z) (Nat.le_refl _) (valsO_ok (H := upd H s.heap.objs.size (valsO s.heap.objs.size a)) (Heap.get?_push_size _ rfl))
  exact ⟨.ref _, _, I2, rfl, q _ (I.hok.fresh (Nat.le_refl _))⟩
theorem best_least {f : Nat → Int} : ∀ n, argBest (fun i j => decide (f i < f j)) n ≤ n ∧ ∀ j, j ≤ n → f (argBest (fun i j => decide (f i < f j)) n) ≤ f j
  | 0 => ⟨Nat.le_refl _, fun j hj => (Nat.le_zero.mp hj).symm ▸ Int.le_refl _⟩
  | n + 1 => by
    obtain ⟨h1, h2⟩ := best_least (f := f) n
    unfold argBest
    by_cases e : f (n + 1) < f (argBest (fun i j => decide (f i < f j)) n)
    · rw [if_pos (by simpa using e)]
      refine ⟨Nat.le_refl _, fun j hj => ?_⟩
      by_cases hj2 : j ≤ n
      · have := h2 j hj2
        omega
      · obtain rfl : j = n + 1 := by omega
        exact Int.le_refl _
    · rw [if_neg (by simpa using e)]
      refine ⟨by omega, fun j hj => ?_⟩
      by_cases hj2 : j ≤ n
      · exact h2 j hj2
      · obtain rfl : j = n + 1 := by omega
        omega
/-- min(d.values()), the values ints -/
def rMinV : List V → Hp → VK → Prop := fun vs H Q => ∃ (p a : Addr) (kvs : List (List Key × V)) (zs : List Int), vs = [.ref p] ∧ H p = some (valsO p a) ∧ H a = some (.dT kvs) ∧ kvs.map (·.2) = zs.map V.int ∧ zs ≠ [] ∧ ∀ z, z ∈ zs → (∀ y ∈ zs, z ≤ y) → Q (.int z) H
theorem call_minV (hc : X.calm = true) : CallR X (.builtin "min") rMinV := by
  intro pins s σ H vs us Q I r h
  obtain ⟨p, a, kvs, zs, rfl, hp, ha, hz, hne, q⟩ := h
  obtain ⟨u, rfl, ru⟩ := vals1 r
  obtain rfl : u = Value.ref p := ru
  obtain ⟨hs, es, ep, raw, sz, ent⟩ := dt_raw (I.hok a _ ha)
  have hv : s.heap.IsValuesView p a := (I.hok p _ hp).1
  have zl : zs.length = es.size := by
    have := congrArg List.length hz
    rw [List.length_map, List.length_map] at this
    omega
  have la : a < s.heap.objs.size := raw.elim fun o z => Heap.lt_size z.1
  refine call_min_walk (wpAny_pyIter_values_raw hv raw ?_)
  have rel : ∀ i v, (∃ hi : i < es.size, v = es[i].val) → ∃ t, v = .int (zs.getD i 0) t := by
    rintro i v ⟨hi, rfl⟩
    obtain ⟨k, v, _, hkv, _, _, rv⟩ := ent i hi
    have e : (kvs.map (·.2))[i]? = some v := by rw [List.getElem?_map, hkv]; rfl
    rw [hz, List.getElem?_map] at e
    cases e2 : zs[i]? with
    | none => rw [e2] at e; cases e
    | some z =>
      rw [e2] at e
      obtain rfl : V.int z = v := Option.some.inj e
      rw [List.getD_eq_getElem?_getD, e2]
      exact rv
  refine ⟨s.heap.objs.size, [s.heap.objs.size, a], [s.heap.objs.size], es.size, _, _, fun i j => decide (zs.getD i 0 < zs.getD j 0), rfl, Walks.rawValues (A := X.A.in1) (I.ok.hd hc) _ a (Nat.ne_of_lt la) es ep, ?_, ?_, ?_, CmpOf.ints_lt (fun i => zs.getD i 0) rel, ?_⟩
  · exact ⟨⟨_, Heap.get?_push_size _ rfl, rfl, rfl⟩, raw.at fun o z => Heap.get?_push_of_some _ z⟩
  · intro b hb
    show b < (s.heap.push _).objs.size
    rw [Heap.size_push]
    simp only [List.mem_cons, List.not_mem_nil, or_false] at hb
    rcases hb with rfl | rfl
    · exact Nat.lt_succ_self _
    · exact Nat.lt_succ_of_lt la
  · have := List.length_pos_iff.mpr hne
    omega
  · intro v h' tk hP hk
    obtain ⟨t, rfl⟩ := rel _ _ hP
    obtain ⟨b1, b2⟩ := best_least (f := fun i => zs.getD i 0) (es.size - 1)
    have pos := List.length_pos_iff.mpr hne
    generalize argBest (fun i j => decide (zs.getD i 0 < zs.getD j 0)) (es.size - 1) = m at b1 b2 hP
    have hm : m < zs.length := by omega
    have em : zs.getD m 0 = zs[m] := by rw [List.getD_eq_getElem?_getD, List.getElem?_eq_getElem hm]; rfl
    refine ⟨.int (zs.getD m 0), H, I.kept fun b o e => hk b o (fun z => ?_) (Heap.get?_push_of_some _ e), ⟨t, rfl⟩, q _ (by rw [em]; exact List.getElem_mem hm) fun y hy => ?_⟩
    · exact absurd (List.mem_singleton.mp z) (Nat.ne_of_lt (Heap.lt_size e))
    · obtain ⟨j, hj, rfl⟩ := List.mem_iff_getElem.mp hy
      have := b2 j (by omega)
      have ej : zs.getD j 0 = zs[j] := by rw [List.getD_eq_getElem?_getD, List.getElem?_eq_getElem hj]; rfl
      rw [ej] at this
      exact this
/-- whether a dict is not empty -/
theorem truth_H {κ : Type} [DecidableEq κ] {knd : HeapKind P w κ} {A : Around} {E : Value → Shared → Prop} {s : Shared} {d : Addr} {xs : List (κ × Addr × Value)} {Q : Bool → Shared → Prop} (hd : (d == sysModules) = false) (hm : s.heap.DictOfH knd d xs)
    (hf : (xs.length : Int) < 2 ^ 63) (h : Q (!xs.isEmpty) { s with toks := s.toks + 1 + 1 }) : wpAny (model P w) A (truthy (.ref d)) Q E s := by
  have e : ((xs.length : Int) != 0) = !xs.isEmpty := by cases xs <;> simp <;> omega
  have run : wpAny (model P w) A (runValue (.builtin "len" ⟨[.ref d], []⟩)) (fun r s' => r = .int xs.length (s.toks + 1) ∧ Q (!xs.isEmpty) s') E s := by
    apply wpAny_runValue
    apply codeAny_builtin entry_len
    rw [Around.under_plainId plain_len _]
    refine wpAny_mono (wpAny_len_body_dictH (Q := fun r s' => r = .int xs.length (s.toks + 1) ∧ Q (!xs.isEmpty) s') hd hm hf ⟨rfl, h⟩) ?_ (fun _ _ z => z)
    rintro fin s' ⟨r, rfl, z⟩
    exact z
  unfold truthy
  first
  | apply wpAny_bind; refine wpAny_callSpecial?_none (name := Str.ofString "__bool__") hm.typeIs noBool_dict ?_
  | apply wpAny_bind; apply wpAny_pure; apply wpAny_bind; refine wpAny_callSpecial?_none (name := Str.ofString "__bool__") hm.typeIs noBool_dict ?_
  first
  | apply wpAny_bind; refine wpAny_specialOf (name := Str.ofString "__len__") hm.typeIs F.slot_dict_len.lookup ?_
  | apply wpAny_bind; apply wpAny_pure; apply wpAny_bind; refine wpAny_specialOf (name := Str.ofString "__len__") hm.typeIs F.slot_dict_len.lookup ?_
  first
  | apply wpAny_bind
    refine wpAny_mono run ?_ (fun _ _ z => z)
    rintro r s' ⟨rfl, z⟩
    exact wpAny_pure (e ▸ z)
  | apply wpAny_bind
    apply wpAny_pure
    apply wpAny_bind
    refine wpAny_mono run ?_ (fun _ _ z => z)
    rintro r s' ⟨rfl, z⟩
    exact wpAny_pure (e ▸ z)
theorem tru_dT : TruR X (fun x H Q => ∃ a kvs, x = .ref a ∧ H a = some (.dT kvs) ∧ Q (!kvs.isEmpty) H) := by
  intro pins s σ H x v Q I rx h
  obtain ⟨a, kvs, rfl, ha, q⟩ := h
  obtain rfl : v = Value.ref a := rx
  obtain ⟨z, hd, ys, rel, dd⟩ := dt_of I.hok ha
  have hl : kvs.length = ys.length := awLen rel
  refine truth_H hd dd (by rw [← hl]; rw [sizeLine_eq] at z; omega) ⟨H, I.tok _, ?_⟩
  have e : (!ys.isEmpty) = !kvs.isEmpty := by cases rel <;> rfl
  rw [e]
  exact q
/-- {t: v}, t a tuple -/
def tDispT (tk tv : TE) : TE := fun σ H Q => ∀ p, H p = none → tk σ (upd H p (.dT [])) fun x H1 => tv σ H1 fun v H2 => ∃ b k, x = .ref b ∧ H2 b = some (.tup (k.map kV)) ∧ H2 p = some (.dT []) ∧ Q (.ref p) (upd H2 p (.dT [(k, v)]))
theorem pe_dispT {ek ev : Expr} {tk tv : TE} {pos : Pos} (hu : X.A.units < cLine) (hk : PE X ek tk) (hv : PE X ev tv) : PE X (.Dict [some ek] [ev] pos) (tDispT tk tv) := by
  constructor
  intro pins s σ H Q I q
  have hn := I.hok.fresh (Nat.le_refl s.heap.objs.size)
  have I1 := I.laid (a := s.heap.objs.size) (o := .dT []) (h' := s.heap.push { cls := .type "dict", data := .dict #[] }) (t' := s.toks) (fun _ _ z => Heap.get?_push_of_some _ z) (Nat.le_refl _) (dt_empty s.heap I.big)
  rw [arm_eval_Dict, zip_pairTrees [some ek] [ev] X.env pos rfl rfl, dictDisplay_pairs (pairTrees [some ek] [ev] X.env pos) (by simp [pairTrees]) (by simp [pairTrees])]
  apply wpAny_bind
  apply wpAny_standAt
  apply wpAny_bind
  refine wpAny_subDictH (knd := tupleKind (mixKind X.prog X.w)) (show X.A.units < cLine from hu) (by show 1 ≤ 15; decide) ?_
  refine thn ((pps_cons (pos := pos) hk hv pps_nil).run pins _ σ _ (fun ps H2 => match ps with | [(x, v)] => ∃ b k, x = .ref b ∧ H2 b = some (.tup (k.map kV)) ∧ H2 s.heap.objs.size = some (.dT []) ∧ Q (.ref s.heap.objs.size) (upd H2 s.heap.objs.size (.dT [(k, v)])) | _ => False) I1 (q _ hn)) ?_
  rintro ws s2 ⟨ps, H2, I2, rel, hq⟩
  match ps, ws, rel, hq with
  | [(x, v)], [(u1, u2)], .cons ⟨r1, r2⟩ .nil, ⟨b, k, e, hb, hp, q2⟩ =>
    subst e
    obtain rfl : u1 = Value.ref b := r1
    obtain ⟨_, hd, ys, r0, dd⟩ := dt_of I2.hok hp
    cases r0
    refine ⟨[(k, b, u2)], ⟨rfl, rfl, key_of I2.hok hb, trivial⟩, dd, fun h' tk dd' hs => ?_⟩
    obtain ⟨o, es, ep, ho, h2, h3, h4, _, h5⟩ := dd'
    have npb : b ≠ s.heap.objs.size := ne_of hb hp (fun z => nomatch z)
    have I3 : Inv X pins σ (upd H2 s.heap.objs.size (.dT [(k, v)])) { s2 with heap := h', toks := tk } :=
      d_write I2 (by rw [hp]; exact True.intro) hs ⟨o, ho⟩ ⟨by show 1 ≤ sizeLine; decide, hd, [(k, b, u2)], .cons ⟨rfl, by rw [upd_ne npb]; exact hb, r2⟩ .nil, o, es, ep, ho, h2, h3, h4, h5⟩
    exact wpAny_pure ⟨.ref s.heap.objs.size, _, I3, rfl, q2⟩
end dts
/-! ### a text and a dict are not equal -/
section eqd
open PySem.SeqAt PySem.MeetsSeq PySem.MeetsSeq2 PySem.MeetsSeq3 PySem.AutoSeq1
theorem dict_eq_declines_str (l : Addr) (es : Array DictEntry) (n : Nat) (dd : Option Addr) (sl : Array (Option Value)) (b : Str) (u : Tok) :
    Meets (Builtin.«dict.__eq__» ⟨[.ref l, .str b u], []⟩) (fun _ R s => s.heap.get? l = some { cls := .type "dict", dict := dd, data := .dict es n, slots := sl } ∧ R (.ok (.ret .notImplemented)) s) :=
  .of_wp fun prog w A R s h => by obtain ⟨hp, g, d, tk, os⟩ := s; obtain ⟨hl, h⟩ := h; have f1 := F.sub_str_dict; wp_walk using wpAny_loadPart' hl; exact ⟨_, rfl, h⟩
theorem str_eq_declines_dict (b : Str) (u : Tok) (l : Addr) (es : Array DictEntry) (n : Nat) (dd : Option Addr) (sl : Array (Option Value)) :
    Meets (Builtin.«str.__eq__» ⟨[.str b u, .ref l], []⟩) (fun _ R s => s.heap.get? l = some { cls := .type "dict", dict := dd, data := .dict es n, slots := sl } ∧ R (.ok (.ret .notImplemented)) s) :=
  .of_wp fun prog w A R s h => by obtain ⟨hp, g, d, tk, os⟩ := s; obtain ⟨hl, h⟩ := h; wp_walk using wpAny_loadPart' hl, wpAny_load hl; exact ⟨_, rfl, h⟩
theorem rcAt_str_dict {A : Around} {s : Shared} {l : Addr} {es : Array DictEntry} {n : Nat} {dd : Option Addr} {sl : Array (Option Value)} (b : Str) (u : Tok) (ho : s.heap.get? l = some { cls := .type "dict", dict := dd, data := .dict es n, slots := sl }) (hu : A.units < cLine) : RcAt A s (.str b u) (.ref l) false := fun prog w E Q h => by
  exact rc_eq_decline_or (k := false) (typeIs_str s b u) ⟨_, ho, rfl⟩ (by decide) F.sub_dict_str F.slot_str_eq F.slot_dict_eq_refl
    (fun _ hq => call_meets F.slot_str_eq (typeIs_str s b u) F.entry_str_eq (F.args_str_eq_2 _ _) (str_eq_declines_dict b u l es n dd sl) ⟨ho, hq⟩)
    (fun _ hq => call_meets F.slot_dict_eq_refl ⟨_, ho, rfl⟩ F.entry_dict_eq (F.args_dict_eq_2 _ _) (dict_eq_declines_str l es n dd sl b u) ⟨ho, hq⟩)
    (fun _ hq => wpAny_of_eq (rfl : isSame (.str b u) (.ref l) = pure false) hq) (.inr hu) h
theorem eqAt_str_dict {A : Around} {s : Shared} {l : Addr} {es : Array DictEntry} {n : Nat} {dd : Option Addr} {sl : Array (Option Value)} (b : Str) (u : Tok) (ho : s.heap.get? l = some { cls := .type "dict", dict := dd, data := .dict es n, slots := sl }) (hu : A.units < cLine) : SeqAt.EqAt A s (.str b u) (.ref l) false := fun prog w E Q h => by
  unfold eqBool
  refine wpAny_holding ?_
  refine wpAny_ite_split (fun hab => absurd (eq_of_beq hab) nofun) (fun _ => ?_)
  exact wpAny_bind (rcAt_str_dict b u ho hu prog w E _ (wpAny_truthy_bool h))
end eqd
/-! ### things of any kind, none of them at an address that is changed -/
mutual
inductive AnyAt (N : Addr → Prop) (H : Hp) : V → PyData → Prop
  | non : AnyAt N H .non .none
  | bl (b : Bool) : AnyAt N H (.bl b) (.bool b)
  | int (i : Int) : AnyAt N H (.int i) (.int i)
  | str (x : Str) : AnyAt N H (.str x) (.str x)
  | tup {a : Addr} {xs : List V} {ds : List PyData} : ¬ N a → H a = some (.tup xs) → AnyAll N H xs ds → AnyAt N H (.ref a) (.tuple ds)
  | lst {a : Addr} {xs : List V} {ds : List PyData} : ¬ N a → a ≠ sysModules → H a = some (.lst xs) → AnyAll N H xs ds → AnyAt N H (.ref a) (.list ds)
  | dic {a : Addr} : ¬ N a → H a = some (.dK []) → AnyAt N H (.ref a) (.dict [])
  | dic1 {a : Addr} {x : V} {d : PyData} : ¬ N a → H a = some (.dK [(Sum.inl 0, x)]) → AnyAt N H x d → AnyAt N H (.ref a) (.dict [(.int 0, d)])
inductive AnyAll (N : Addr → Prop) (H : Hp) : List V → List PyData → Prop
  | nil : AnyAll N H [] []
  | cons {v : V} {vs : List V} {d : PyData} {ds : List PyData} : AnyAt N H v d → AnyAll N H vs ds → AnyAll N H (v :: vs) (d :: ds)
end
/-- what stands at no address of these stays -/
def ButN (N : Addr → Prop) (H H' : Hp) : Prop := ∀ b u, ¬ N b → H b = some u → H' b = some u
theorem any_stay {N : Addr → Prop} {H H' : Hp} (s : ButN N H H') {v : V} {d : PyData} (h : AnyAt N H v d) : AnyAt N H' v d :=
  AnyAt.rec (motive_1 := fun v d _ => AnyAt N H' v d) (motive_2 := fun vs ds _ => AnyAll N H' vs ds) .non .bl .int .str (fun n e _ ih => .tup n (s _ _ n e) ih) (fun n m e _ ih => .lst n m (s _ _ n e) ih) (fun n e => .dic n (s _ _ n e)) (fun n e _ ih => .dic1 n (s _ _ n e) ih) .nil (fun _ _ ih1 ih2 => .cons ih1 ih2) h
theorem any_same {N : Addr → Prop} {H H' : Hp} (s : Same H H') {v : V} {d : PyData} (h : AnyAt N H v d) : AnyAt N H' v d := any_stay (fun b u _ e => s b u e) h
theorem any_more {N N' : Addr → Prop} {H : Hp} (s : ∀ b u, N' b → H b = some u → N b) {v : V} {d : PyData} (h : AnyAt N H v d) : AnyAt N' H v d :=
  AnyAt.rec (motive_1 := fun v d _ => AnyAt N' H v d) (motive_2 := fun vs ds _ => AnyAll N' H vs ds) .non .bl .int .str (fun n e _ ih => .tup (fun z => n (s _ _ z e)) e ih) (fun n m e _ ih => .lst (fun z => n (s _ _ z e)) m e ih) (fun n e => .dic (fun z => n (s _ _ z e)) e) (fun n e _ ih => .dic1 (fun z => n (s _ _ z e)) e ih) .nil (fun _ _ ih1 ih2 => .cons ih1 ih2) h
section anyx
variable {X : Cx}
/-- a list display, the list at no address of the machine's own -/
def tLstN (t : TA) : TE := fun σ H Q => t σ H fun xs H1 => xs.length ≤ sizeLine ∧ ∀ p, H1 p = none → p ≠ sysModules → Q (.ref p) (upd H1 p (.lst xs))
theorem pe_lstN {es : List Expr} {pos : Pos} {t : TA} (h : PA X es t) : PE X (.List es pos) (tLstN t) := by
  refine ⟨fun pins s σ H Q I hq => ?_⟩
  refine wpAny_List_spliced (thn (h.run pos pins s σ H _ I hq) fun us s1 ⟨xs, H1, I1, r, z, q⟩ => ⟨by rw [← r.length]; exact z, ?_⟩)
  have hf : H1 s1.heap.objs.size = none := I1.hok.fresh (Nat.le_refl _)
  have big : sysModules < s1.heap.objs.size := I1.big
  refine ⟨.ref s1.heap.objs.size, upd H1 s1.heap.objs.size (.lst xs), I1.laid (t' := s1.toks) (fun b u e => Heap.get?_push_of_some _ e) (Nat.le_refl _) ?_, rfl, q _ hf (Nat.ne_of_gt big)⟩
  exact ⟨z, us, 0, r, Heap.get?_push_size _ rfl⟩
theorem Rz.non (H : Hp) : Rz X H .non .none := by
  intro pins σ s u I r
  cases (show u = Value.none from r)
  exact ⟨_, Reads.none, (fun z => nomatch z)⟩
theorem Rz.bl (H : Hp) (b : Bool) : Rz X H (.bl b) (.bool b) := by
  intro pins σ s u I r
  cases (show u = Value.bool b from r)
  exact ⟨_, Reads.bool b, (fun z => nomatch z)⟩
theorem Rz.lst {H : Hp} {a : Addr} {xs : List V} {ds : List PyData} (na : a ≠ sysModules) (h : SqL X.K H a xs) (hs : Paired (Rz X H) xs ds) : Rz X H (.ref a) (.list ds) := by
  intro pins σ s u I r
  obtain rfl : u = Value.ref a := r
  obtain ⟨its, rv, ⟨o, n, ho, hc, hdn, hd⟩, _⟩ := I.list h
  obtain ⟨as, h1, h2⟩ := rz_all hs I rv
  refine ⟨_, Reads.list ho hc hd h1, fun z => ?_⟩
  rcases List.mem_cons.mp z with z | z
  · exact na z.symm
  · exact h2 z
theorem d1_reads {prog : Program} {w : World} {h : Heap} {v : V} {d : PyData} {as : List Addr} (hv : ∀ u, RelV v u → ∃ as, Reads h u d as ∧ sysModules ∉ as) : ∀ (vs : List (Key × Value)) (en : List DictEntry), KV [((Sum.inl 0 : Key), v)] vs → Pairs (mixKind prog w) en vs →
    ∃ as, ReadsAll h (en.map (·.key)) [PyData.int 0] [] ∧ ReadsAll h (en.map (·.val)) [d] as ∧ sysModules ∉ as
  | _, _, .cons hh .nil, .cons hk e5 .nil => by
    obtain ⟨k1, r1⟩ := hh
    rw [← k1] at hk
    rcases keyIs_shape (show keyIs (Sum.inl 0) _ = true from hk) with ⟨i, t1, e, e7⟩ | ⟨x, t1, e, e7⟩
    · obtain rfl : (0 : Int) = i := Sum.inl.inj e
      obtain ⟨as, h1, h2⟩ := hv _ r1
      refine ⟨as, ?_, ?_, h2⟩
      · simp only [List.map_cons, List.map_nil]
        rw [e7]
        exact ReadsAll.cons (as := []) (Reads.int 0 t1) .nil
      · simp only [List.map_cons, List.map_nil]
        rw [e5]
        have := ReadsAll.cons h1 ReadsAll.nil
        rw [List.append_nil] at this
        exact this
    · exact nomatch e
theorem rz_dic1 {H : Hp} {C : Addr} {v : V} {d : PyData} (h : H C = some (.dK [(Sum.inl 0, v)])) (hv : Rz X H v d) : Rz X H (.ref C) (.dict [(.int 0, d)]) := by
  intro pins σ s u I r
  obtain rfl : u = Value.ref C := r
  obtain ⟨_, hs, vs, hkv, o, en, ep, e1, e2, e3, e4, e5, e6⟩ := I.hok C _ h
  obtain ⟨as, r1, r2, r3⟩ := d1_reads (prog := X.prog) (w := X.w) (h := s.heap) (as := []) (fun u r => hv pins σ s u I r) vs _ hkv e5
  refine ⟨_, Reads.dict e1 e2.1 e3 r1 r2, ?_⟩
  intro z
  rcases List.mem_cons.mp z with z | z
  · rw [← z] at hs
    simp at hs
  · exact r3 z
/-- things -/
theorem rz_any {N : Addr → Prop} {H : Hp} {v : V} {d : PyData} (h : AnyAt N H v d) : Rz X H v d :=
  AnyAt.rec (motive_1 := fun v d _ => Rz X H v d) (motive_2 := fun vs ds _ => Paired (Rz X H) vs ds) (Rz.non H) (Rz.bl H) (Rz.int H) (Rz.str H) (fun _ e _ ih => Rz.tup (SqT.of e) ih) (fun _ m e _ ih => Rz.lst m (.inl (.inl e)) ih) (fun _ e => rz_dict (es := []) e) (fun _ e _ ih => rz_dic1 e ih) .nil (fun _ _ ih1 ih2 => .cons ih1 ih2) h
end anyx
/-- no dict lies within -/
def plainD (d : PyData) : Prop := d.hasDict = false
theorem dp_any {N : Addr → Prop} {H : Hp} {v : V} {d : PyData} (h : AnyAt N H v d) : d.hasDict = false → Dp K H v d :=
  AnyAt.rec (motive_1 := fun v d _ => d.hasDict = false → Dp K H v d) (motive_2 := fun vs ds _ => PyData.hasDictAll ds = false → DpAll K H vs ds) (fun _ => .non) (fun b _ => .bl b) (fun i _ => .int i) (fun x _ => .str x) (fun _ e _ ih g => .tup (SqT.of e) (ih (by simpa only [PyData.hasDict] using g))) (fun _ _ e _ ih g => .lst (.inl (.inl e)) (ih (by simpa only [PyData.hasDict] using g))) (fun _ _ g => by simp only [PyData.hasDict] at g; exact Bool.noConfusion g) (fun _ _ _ _ g => by simp only [PyData.hasDict] at g; exact Bool.noConfusion g) (fun _ => .nil) (fun _ _ ih1 ih2 g => by
    simp only [PyData.hasDictAll, Bool.or_eq_false_iff] at g
    exact .cons (ih1 g.1) (ih2 g.2)) h
def tyD : PyData → Value
  | .none => .type "NoneType"
  | .bool _ => .type "bool"
  | .int _ => .type "int"
  | .str _ => .type "str"
  | .list _ => .type "list"
  | .tuple _ => .type "tuple"
  | .dict _ => .type "dict"
theorem ty_any {N : Addr → Prop} {H : Hp} {v : V} {d : PyData} (h : AnyAt N H v d) : TyX K H v (tyD d) := by
  cases h with
  | non => exact .base .non
  | bl b => exact .base (.bl b)
  | int i => exact .base (.int i)
  | str x => exact .base (.str x)
  | tup _ e _ => exact .base (.tup e)
  | lst _ _ e _ => exact .base (.lst e)
  | dic _ e => exact .base (.dK e)
  | dic1 _ e _ => exact .base (.dK e)
def isInt : PyData → Bool
  | .int _ => true
  | _ => false
/-- is_whole of anything -/
def spWhA : Sp := fun vs H Q _ => ∃ (N : Addr → Prop) (x : V) (d : PyData), vs = [x] ∧ AnyAt N H x d ∧ Q (.bl (isInt d)) H
theorem ok_whA {f : Addr} {fd : FuncData} {k : Nat} (F : Fun K "is_whole" "is_whole" s_is_whole f fd) (mi : mg "isinstance" = none) (mI : mg "int" = none) (mB : mg "bool" = none) : FnOk P w K mg base CX0 (k + 1) f fd ["thing"] spWhA := by
  refine F.ok sc_is_whole (fun vs H Q E h => ?_) (fun cdv A outer s H vs Q E hr h => ?_)
  · obtain ⟨N, x, d, rfl, _⟩ := h
    rfl
  · obtain ⟨N, x, d, rfl, hx, q⟩ := h
    refine ⟨_, pss_one (ps_ret (pe_and (pe_callB call_isi (by rfl) mi (by decide +kernel) (pa_cons (pv 0) (pa_cons (pe_bltn (v := .ty "int") (by rfl) mI (by decide +kernel) rfl) pa_nil))) (pe_one (pe_not (pe_callB call_isi (by rfl) mi (by decide +kernel) (pa_cons (pv 0) (pa_cons (pe_bltn (v := .ty "bool") (by rfl) mB (by decide +kernel) rfl) pa_nil))))))), ?_⟩
    have ty := ty_any (K := K) hx
    cases d with
    | none => exact ⟨x, rfl, x, .ty "int", .type "NoneType", .type "int", false, rfl, .ty "int", ty, kit_ty (by decide +kernel), false, rfl, iteF q⟩
    | bool b => exact ⟨x, rfl, x, .ty "int", .type "bool", .type "int", true, rfl, .ty "int", ty, kit_ty (by decide +kernel), true, rfl, iteT ⟨x, rfl, x, .ty "bool", .type "bool", .type "bool", true, rfl, .ty "bool", ty, kit_ty (by decide +kernel), true, rfl, q⟩⟩
    | int i => exact ⟨x, rfl, x, .ty "int", .type "int", .type "int", true, rfl, .ty "int", ty, kit_ty (by decide +kernel), true, rfl, iteT ⟨x, rfl, x, .ty "bool", .type "int", .type "bool", false, rfl, .ty "bool", ty, kit_ty (by decide +kernel), false, rfl, q⟩⟩
    | str t => exact ⟨x, rfl, x, .ty "int", .type "str", .type "int", false, rfl, .ty "int", ty, kit_ty (by decide +kernel), false, rfl, iteF q⟩
    | list l => exact ⟨x, rfl, x, .ty "int", .type "list", .type "int", false, rfl, .ty "int", ty, kit_ty (by decide +kernel), false, rfl, iteF q⟩
    | tuple l => exact ⟨x, rfl, x, .ty "int", .type "tuple", .type "int", false, rfl, .ty "int", ty, kit_ty (by decide +kernel), false, rfl, iteF q⟩
    | dict l => exact ⟨x, rfl, x, .ty "int", .type "dict", .type "int", false, rfl, .ty "int", ty, kit_ty (by decide +kernel), false, rfl, iteF q⟩
def spWell (K : PySem.W.Frag) : Sp := fun vs H Q _ => ∃ (a : Addr) (ns : List Int), vs = [.ref a] ∧ SqL K H a (ns.map V.int) ∧ ns.length ≤ 63 ∧ (∀ z ∈ ns, Builtin.Int.intBits z ≤ 1048576) ∧
  ∀ H' p c, Same H H' → H p = none → H c = none → WL H' p c → Q (.ref p) H'
theorem ok_well {f : Addr} {fd : FuncData} {k : Nat} (F : Fun K "_law_well" "_law_well" s_law_well f fd) (ma : mg "abs" = none) : FnOk P w K mg base CX0 (k + 1) f fd ["script"] (spWell K) := by
  refine F.ok sc_law_well (fun vs H Q E h => ?_) (fun cdv A outer s H vs Q E hr h => ?_)
  · obtain ⟨a, ns, rfl, _⟩ := h
    rfl
  · obtain ⟨a, ns, rfl, hS, hlen, hbits, q⟩ := h
    refine ⟨_, pss_cons (ps_set (i := 1) sc_law_well.nd rfl (.inl rfl) pe_int)
      (pss_cons (ps_for PassesOwn.never rfl (pi_list (pv 0)) (pg_name (i := 2) sc_law_well.nd rfl (.inl rfl))
        (pss_one (ps_set (i := 1) sc_law_well.nd rfl (.inl rfl) (pe_op op_add (pe_op op_mod (pe_op op_powW (pe_op op_add (pe_op op_mul (pv 1) pe_int) (pv 2)) pe_int) pe_int) pe_int))))
      (pss_one (ps_ret (pe_lst (pa_cons (pe_lc (own := [("cell", 2)]) (g := gName 2) (by rfl) sc_law_well.nd (pi_list (pv 0)) (blkOk_by (own := [("cell", 2)]) (N := ["script", "seed", "cell"]) (sc := defScope s_law_well) (by decide +kernel))
          (fun _ _ _ _ _ => pg_name (i := 2) sc_law_well.nd rfl (Or.inl rfl)) (fun _ _ _ _ _ => pts_nil)
          (fun _ _ _ _ _ => pe_callB call_abs (by rfl) ma (by decide +kernel) (pa_cons (pv 2) pa_nil))) (pa_cons pe_int (pa_cons (pv 1) pa_nil))))))), ?_⟩
    refine ⟨.ref a, rfl, a, rfl, ⟨_, hS⟩, for_list (K := K) (a := a) (xs := ns.map V.int) (fun i σ H3 => ∃ z y, σ = [some (.ref a), some (.int z), y] ∧ 0 ≤ z ∧ z ≤ 2147483629 ∧ H3 = H) ⟨1, none, rfl, by decide, by decide, rfl⟩ (fun i σ H3 _ hp => ?_) (fun i x σ H3 hx hp => ?_) (fun σ H3 hp => ?_)⟩
    · obtain ⟨z, y, _, _, _, rfl⟩ := hp
      exact hS
    · obtain ⟨z, y, rfl, h0, h1, rfl⟩ := hp
      obtain ⟨c, hc, rfl⟩ : ∃ c, c ∈ ns ∧ x = .int c := by
        rw [List.getElem?_map] at hx
        cases e : ns[i]? with
        | none => rw [e] at hx; cases hx
        | some c => rw [e] at hx; exact ⟨c, List.mem_of_getElem? e, (Option.some.inj hx).symm⟩
      refine ⟨.int z, rfl, z, 50021, rfl, rfl, .inr ⟨by decide, by decide⟩, .int c, rfl, _, _, rfl, rfl, _, 3, rfl, rfl, seed_ok h0 h1 (hbits c hc), _, 2147483629, rfl, rfl, (by show (0 : Int) < 2147483629; decide), _, 1, rfl, rfl, ?_⟩
      refine ⟨_, some (.int c), rfl, ?_, ?_, rfl⟩
      · have := Int.emod_nonneg ((z * 50021 + c) ^ (3 : Int).toNat) (show (2147483629 : Int) ≠ 0 by decide)
        omega
      · have := Int.emod_lt_of_pos ((z * 50021 + c) ^ (3 : Int).toNat) (show (0 : Int) < 2147483629 by decide)
        omega
    · obtain ⟨z, y, rfl, h0, h1, rfl⟩ := hp
      refine ⟨.ref a, rfl, a, rfl, ⟨_, hS⟩, fun D hD => ?_⟩
      have sD : ∀ o, Same H3 (upd H3 D o) := fun o => same_new hD
      refine lc_list (K := K) (a := a) (xs := ns.map V.int) (fun i H4 => ∃ cs : List Int, cs.length = i ∧ H4 = upd H3 D (.lst (cs.map V.int))) ⟨[], rfl, rfl⟩ (fun i H4 _ hp => ?_) (fun i x H4 hx hp => ?_) (fun H4 hp => ?_)
      · obtain ⟨cs, _, rfl⟩ := hp
        exact (sD _).seq hS
      · obtain ⟨cs, hl, rfl⟩ := hp
        obtain ⟨c, hc, rfl⟩ : ∃ c, c ∈ ns ∧ x = .int c := by
          rw [List.getElem?_map] at hx
          cases e : ns[i]? with
          | none => rw [e] at hx; cases hx
          | some c => rw [e] at hx; exact ⟨c, List.mem_of_getElem? e, (Option.some.inj hx).symm⟩
        have hi : i < ns.length := by
          have := (List.getElem?_eq_some_iff.mp hx).1
          rwa [List.length_map] at this
        refine ⟨rfl, .int c, rfl, c, rfl, _, upd_same, ?_, cs ++ [if c < 0 then -c else c], ?_, ?_⟩
        · rw [List.length_map, hl]
          exact small1000 (by omega)
        · rw [List.length_append, hl]
          rfl
        · rw [upd_upd, List.map_append]
          rfl
      · obtain ⟨cs, hl, rfl⟩ := hp
        refine ⟨.int z, rfl, by show 3 ≤ sizeLine; decide, fun p hp => ?_⟩
        have np : p ≠ D := fun e => by
          rw [e, upd_same] at hp
          cases hp
        have hp2 : H3 p = none := by
          rw [upd_ne np] at hp
          exact hp
        refine q _ p D ((sD _).trans (same_new hp)) hp2 hD ⟨np, cs, 0, z, upd_same, ?_⟩
        rw [upd_ne np.symm, upd_same]
def spDraw : Sp := fun vs H Q _ => ∃ (a c : Addr) (m : Int), vs = [.ref a, .int m] ∧ 0 < m ∧ m ≤ 2 ^ 80 ∧ WL H a c ∧ ∀ H' z, 0 ≤ z → z < m → WL H' a c → Kp a c H H' → Q (.int z) H'
theorem ok_draw {f : Addr} {fd : FuncData} {k : Nat} (F : Fun K "_law_draw" "_law_draw" s_law_draw f fd) : FnOk P w K mg base CX0 (k + 1) f fd ["well", "many"] spDraw := by
  refine F.ok sc_law_draw (fun vs H Q E h => ?_) (fun cdv A outer s H vs Q E hr h => ?_)
  · obtain ⟨a, c, m, rfl, _⟩ := h
    rfl
  · obtain ⟨a, c, m, rfl, hm, hm2, hw, q⟩ := h
    refine ⟨_, pss_mid (ps_if (PW.pt (pw_and (pt_cmpR op_eq (pe_ix ix_list (pv 0) pe_int (fun _ _ => rfl)) pe_int (nomark _))
          (pw_and1 (pt_cmpR (op_neD hr.units) (pe_ix ix_list (pv 0) pe_int (fun _ _ => rfl)) (pe_lst pa_nil) (nomark _)))))
        (pss_cons (ps_set (i := 2) sc_law_draw.nd rfl (.inl rfl) (pe_bm PySem.F.plainAttrs_list PySem.F.slot_list_pop PySem.F.type_list_pop mt_popAt (pe_ix ix_list (pv 0) pe_int (fun _ _ => rfl)) (pa_cons pe_int pa_nil)))
        (pss_cons (ps_if (pt_cmpR op_lt (pv 2) (pe_op op_pow pe_int pe_int) (nomark _)) (pss_one (ps_ret (pe_op op_mod (pv 2) (pv 1)))) pss_nil)
        (pss_one (ps_asg (pv 2) (pg_sub (pv 0) pe_int set_list))))) pss_nil)
      (pss_cons (ps_if (pt_cmpR op_gt (pe_ix ix_list (pv 0) pe_int (fun _ _ => rfl)) pe_int (nomark _))
        (pss_cons (ps_set (i := 3) sc_law_draw.nd rfl (.inl rfl) (pe_op op_mod (pe_ix ix_list (pv 0) pe_int (fun _ _ => rfl)) (pv 1)))
        (pss_cons (ps_asg (pe_op op_fdivW (pe_ix ix_list (pv 0) pe_int (fun _ _ => rfl)) (pv 1)) (pg_sub (pv 0) pe_int set_list))
        (pss_one (ps_ret (pv 3))))) pss_nil)
      (pss_cons (ps_asg (pe_op op_mod (pe_op op_add (pe_op op_mul (pe_ix ix_list (pv 0) pe_int (fun _ _ => rfl)) pe_int) pe_int) pe_int) (pg_sub (pv 0) pe_int set_list))
      (pss_one (ps_ret (pe_op op_mod (pe_op op_fdiv (pe_op op_mod (pe_op op_pow (pe_op op_mod (pe_op op_pow (pe_ix ix_list (pv 0) pe_int (fun _ _ => rfl)) pe_int) pe_int) pe_int) pe_int) pe_int) (pv 1)))))), ?_⟩
    refine ⟨fun σ2 H2 => ∃ y, σ2 = [some (.ref a), some (.int m), y, none] ∧ WL H2 a c ∧ Kp a c H H2, ?_, ?_⟩
    · obtain ⟨nac, cs, r, sd, ea, ec⟩ := id hw
      have lA : SqL K H a [.ref c, .int r, .int sd] := .inl (.inl ea)
      refine ⟨.ref a, rfl, a, _, 1, .int r, rfl, rfl, lA, rfl, rfl, _, rfl, ite2 (fun e => ?_) (fun e => ?_)⟩
      · refine ⟨.ref a, rfl, a, _, 0, .ref c, rfl, rfl, lA, rfl, Nat.zero_le _, fun p hp => ?_⟩
        have sp : Same H (upd H p (.lst [])) := same_new hp
        refine ⟨.list (cs.map PyData.int), .list [], .lst (sp.seq (.inl (.inl ec))) (dp_ints cs), .lst (.inl (.inl upd_same)) .nil, shaped_ints cs, by decide +kernel, _, rfl, ?_⟩
        have ec2 : upd H p (.lst []) c = some (.lst (cs.map V.int)) := sp _ _ ec
        have ea2 : upd H p (.lst []) a = some (.lst [.ref c, .int r, .int sd]) := sp _ _ ea
        have lA2 : SqL K (upd H p (.lst [])) a [.ref c, .int r, .int sd] := .inl (.inl ea2)
        cases cs with
        | nil =>
          rw [show PyData.eqv (.list (([] : List Int).map PyData.int)) (.list []) = true by decide +kernel]
          exact ⟨_, rfl, hw.same sp, Same.kp sp⟩
        | cons x cs =>
          rw [show PyData.eqv (.list ((x :: cs).map PyData.int)) (.list []) = false by simp only [List.map_cons, PyData.eqv, PyData.eqvAll]]
          refine ⟨.ref a, rfl, a, _, 0, .ref c, rfl, rfl, lA2, rfl, .inl ⟨rfl, _, .inl (.inl ec2)⟩, c, _, 0, 0, .int x, rfl, rfl, ec2, by decide, by decide, ?_, rfl, ?_⟩
          · rw [List.length_map, List.length_cons]
            exact seq0 _
          have w3 : WL (upd (upd H p (.lst [])) c (.lst (List.eraseIdx ((x :: cs).map V.int) 0))) a c := ⟨nac, cs, r, sd, by rw [upd_ne nac]; exact ea2, upd_same⟩
          have k3 : Kp a c H (upd (upd H p (.lst [])) c (.lst (List.eraseIdx ((x :: cs).map V.int) 0))) := fun b o n1 n2 eb => by
            rw [upd_ne n2]
            exact sp _ _ eb
          refine ⟨.int x, rfl, 10, 18, rfl, rfl, ⟨by decide, by decide, by decide⟩, x, _, rfl, rfl, _, rfl, ite2 (fun e => ?_) (fun e => ?_)⟩
          · exact ⟨.int x, rfl, .int m, rfl, x, m, rfl, rfl, hm, q _ _ (Int.emod_nonneg _ (by omega)) (Int.emod_lt_of_pos _ hm) w3 k3⟩
          · refine ⟨.int x, rfl, .ref a, rfl, a, _, 1, 1, rfl, rfl, by rw [upd_ne nac]; exact ea2, rfl, some (.int x), rfl, ?_, ?_⟩
            · exact ⟨nac, cs, x, sd, upd_same, by rw [upd_ne nac.symm]; exact upd_same⟩
            · intro b o n1 n2 eb
              rw [upd_ne n1]
              exact k3 b o n1 n2 eb
      · exact ⟨_, rfl, hw, Kp.refl a c H⟩
    · rintro σ2 H2 ⟨y, rfl, hw2, kp⟩
      obtain ⟨nac, cs, r, sd, ea, ec⟩ := id hw2
      have lA : SqL K H2 a [.ref c, .int r, .int sd] := .inl (.inl ea)
      refine ⟨.ref a, rfl, a, _, 1, .int r, rfl, rfl, lA, rfl, r, 0, rfl, rfl, _, rfl, ite2 (fun e => ?_) (fun e => ?_)⟩
      · refine ⟨.ref a, rfl, a, _, 1, .int r, rfl, rfl, lA, rfl, .int m, rfl, r, m, rfl, rfl, hm, ?_⟩
        refine ⟨.ref a, rfl, a, _, 1, .int r, rfl, rfl, lA, rfl, .int m, rfl, r, m, rfl, rfl, wide_div (b := 81) hm (by omega) (by decide) (by decide), ?_⟩
        refine ⟨.ref a, rfl, a, _, 1, 1, rfl, rfl, ea, rfl, .int (r % m), rfl, ?_⟩
        refine q _ _ (Int.emod_nonneg _ (by omega)) (Int.emod_lt_of_pos _ hm) ⟨nac, cs, r / m, sd, upd_same, ?_⟩ ?_
        · rw [upd_ne nac.symm]
          exact ec
        · intro b o n1 n2 eb
          rw [upd_ne n1]
          exact kp b o n1 n2 eb
      · refine ⟨.ref a, rfl, a, _, 2, .int sd, rfl, rfl, lA, rfl, sd, 48271, rfl, rfl, .inr ⟨by decide, by decide⟩, _, 12345, rfl, rfl, _, 2147483647, rfl, rfl, (by show (0 : Int) < 2147483647; decide), ?_⟩
        have l0 := Int.emod_nonneg (sd * 48271 + 12345) (show (2147483647 : Int) ≠ 0 by decide)
        have l1 := Int.emod_lt_of_pos (sd * 48271 + 12345) (show (0 : Int) < 2147483647 by decide)
        obtain ⟨z, hz⟩ : ∃ z : Int, (sd * 48271 + 12345) % 2147483647 = z := ⟨_, rfl⟩
        rw [hz] at l0 l1
        refine ⟨.ref a, rfl, a, _, 2, 2, rfl, rfl, ea, rfl, ?_⟩
        have l2 := Int.emod_nonneg (z ^ (3 : Int).toNat) (show (2147483629 : Int) ≠ 0 by decide)
        have l3 := Int.emod_lt_of_pos (z ^ (3 : Int).toNat) (show (0 : Int) < 2147483629 by decide)
        refine ⟨.ref a, rfl, a, _, 2, .int z, rfl, rfl, .inl (.inl upd_same), (by rw [← hz]; rfl), z, 3, rfl, rfl, ⟨by decide, by decide, by omega⟩, _, 2147483629, rfl, rfl, (by show (0 : Int) < 2147483629; decide), ?_⟩
        obtain ⟨x, hx⟩ : ∃ x : Int, z ^ (3 : Int).toNat % 2147483629 = x := ⟨_, rfl⟩
        rw [hx] at l2 l3
        refine ⟨x, 5, congrArg V.int hx, rfl, ⟨by decide, by decide, by omega⟩, _, 1000000007, rfl, rfl, (by show (0 : Int) < 1000000007; decide), _, 7, rfl, rfl, ⟨by decide, by decide⟩, .int m, rfl, _, m, rfl, rfl, hm, ?_⟩
        refine q _ _ (Int.emod_nonneg _ (by omega)) (Int.emod_lt_of_pos _ hm) ⟨nac, cs, r, z, (by rw [← hz]; exact upd_same), ?_⟩ ?_
        · rw [upd_ne nac.symm]
          exact ec
        · intro b o n1 n2 eb
          rw [upd_ne n1]
          exact kp b o n1 n2 eb
/-! ### first_words -/
def spFw : Sp := fun vs H Q _ => vs = [] ∧ ∀ H' p, Same H H' → H p = none → H' p = some (.dK fwK) → Q (.ref p) H'
theorem ok_fw {f : Addr} {fd : FuncData} {k : Nat} (F : Fun K "_law_first_words" "_law_first_words" s_law_first_words f fd) : FnOk P w K mg base CX0 (k + 1) f fd [] spFw := by
  refine F.ok sc_law_first_words (fun vs H Q E h => ?_) (fun cdv A outer s H vs Q E hr h => ?_)
  · rw [h.1]
    rfl
  · obtain ⟨rfl, q⟩ := h
    refine ⟨_, pss_cons (ps_set (i := 0) sc_law_first_words.nd rfl (.inl rfl) (pe_disp (pps_cons pe_str pe_int (pps_cons pe_str pe_int (pps_cons pe_str pe_int (pps_cons pe_str pe_int (pps_cons pe_str pe_int (pps_cons pe_str pe_int pps_nil)))))) (by rfl) (by rfl) (fun z => by cases z) (by decide)))
      (pss_cons (ps_for PassesOwn.never rfl (pi_list (pe_lst (pa_cons pe_str (pa_cons pe_str (pa_cons pe_str (pa_cons pe_str (pa_cons pe_str pa_nil))))))) (pg_name (i := 1) sc_law_first_words.nd rfl (.inl rfl))
        (pss_one (ps_dput (hu_of hr) (pv 0) (pv 1) pe_int rfl)))
      (pss_one (ps_ret (pv 0)))), ?_⟩
    intro p hp
    refine ⟨upd_same, (fwK.take 6), rfl, by decide, ?_⟩
    refine ⟨by show 5 ≤ sizeLine; decide, fun l hl => ?_⟩
    rw [upd_upd] at hl ⊢
    have nlp : l ≠ p := fun e => by
      rw [e, upd_same] at hl
      cases hl
    have hl0 : H l = none := by
      rw [upd_ne nlp] at hl
      exact hl
    refine ⟨l, rfl, ⟨_, .inl (.inl upd_same)⟩, for_list (K := K) (a := l) (xs := [.str "and", .str "or", .str "xor", .str "add", .str "sub"]) (fun i σ H3 => ∃ y, σ = [some (.ref p), y] ∧ H3 p = some (.dK (fwK.take (6 + i))) ∧ H3 l = some (.lst [.str "and", .str "or", .str "xor", .str "add", .str "sub"]) ∧ Same H H3) ⟨none, rfl, ?_, upd_same, (same_new hp).trans (same_new hl)⟩ (fun i σ H3 _ hp => ?_) (fun i x σ H3 hx hq => ?_) (fun σ H3 hq => ?_)⟩
    · rw [upd_ne nlp.symm, upd_same]
      rfl
    · obtain ⟨y, _, _, e, _⟩ := hp
      exact .inl (.inl e)
    · obtain ⟨y, rfl, ep, el, sm⟩ := hq
      have hi : i < 5 := (List.getElem?_eq_some_iff.mp hx).1
      have hp3 : ∀ o, Same H (upd H3 p o) := fun o b u e => by
        rw [upd_ne (ne_of_none e hp)]
        exact sm b u e
      have hlen : (fwK.take (6 + i)).length < sizeLine := by
        rw [List.length_take]
        exact small1000 (by omega)
      obtain ⟨x0, rfl, ex⟩ : ∃ x0 : Str, x = .str x0 ∧ putK (fwK.take (6 + i)) (Sum.inr x0) (.int 2) = fwK.take (6 + (i + 1)) := by
        have : i = 0 ∨ i = 1 ∨ i = 2 ∨ i = 3 ∨ i = 4 := by omega
        rcases this with rfl | rfl | rfl | rfl | rfl <;> exact ⟨_, (Option.some.inj hx).symm, by decide +kernel⟩
      refine ⟨.ref p, rfl, .str x0, rfl, p, _, rfl, DPut.k (k := Sum.inr x0) ep hlen, some (.str x0), rfl, ?_, ?_, hp3 _⟩
      · rw [upd_same, ex]
      · rw [upd_ne nlp]
        exact el
    · obtain ⟨y, rfl, ep, el, sm⟩ := hq
      exact ⟨.ref p, rfl, q H3 p sm hp ep⟩
/-! ### deed -/
def spDeed : Sp := fun vs H Q _ => ∃ (a c : Addr) (m : Int), vs = [.ref a, .int m] ∧ 0 < m ∧ m ≤ 100 ∧ WL H a c ∧ ∀ H' r d, DeedOk m d → H' r = some (.tup (dV d)) → WL H' a c → Kp a c H H' → Q (.ref r) H'
theorem ok_deed {f fD fW : Addr} {fd fdD fdW : FuncData} {k : Nat} (F : Fun K "_law_deed" "_law_deed" s_law_deed f fd) (FD : Fun K "_law_draw" "_law_draw" s_law_draw fD fdD) (FW : Fun K "_law_first_words" "_law_first_words" s_law_first_words fW fdW)
    (bD : Binds K fdD ["well", "many"] []) (bW : Binds K fdW [] []) (gD : mg "_law_draw" = some (.ref fD)) (gW : mg "_law_first_words" = some (.ref fW)) (ml : mg "list" = none) (mt : mg "tuple" = none) (mr : mg "range" = none) :
    FnOk P w K mg base CX0 (k + 2) f fd ["well", "ahead"] spDeed := by
  have GD : FnOk P w K mg base CX0 (k + 1) fD fdD ["well", "many"] spDraw := ok_draw FD
  have GW : FnOk P w K mg base CX0 (k + 1) fW fdW [] spFw := ok_fw FW
  refine F.ok sc_law_deed (fun vs H Q E h => ?_) (fun cdv A outer s H vs Q E hr h => ?_)
  · obtain ⟨a, c, m, rfl, _⟩ := h
    rfl
  · obtain ⟨a, c, m, rfl, hm, hm2, hw, q⟩ := h
    refine ⟨_, pss_cons (ps_set (i := 2) sc_law_deed.nd rfl (.inl rfl) (pe_call0 GW hr (by rfl) gW FW.kp bW .nil pass0))
      (pss_cons (ps_set (i := 3) sc_law_deed.nd rfl (.inl rfl) (pe_ix ix_list (pe_callTy (call_list_dK rfl) (by rfl) ml (by decide +kernel) (pa_cons (pv 2) pa_nil)) (pe_call GD hr (by rfl) gD FD.kp bD .nil pass0 (pa_cons (pv 0) (pa_cons pe_int pa_nil))) (fun _ _ => rfl)))
      (pss_one (ps_ret (pe_op op_catT (pe_tup (pa_cons (pv 3) pa_nil)) (pe_callTy call_tuple_of (by rfl) mt (by decide +kernel) (pa_cons
        (pe_lc (own := [("k", 4)]) (g := gName 4) (by rfl) sc_law_deed.nd (pi_range1 (by rfl) mr (pa_cons (pe_dget (hu_of hr) (pv 2) (pv 3) (fun _ _ => rfl)) pa_nil)) (blkOk_by (own := [("k", 4)]) (N := N_law_deed) (sc := defScope s_law_deed) (by decide +kernel))
          (fun _ _ _ _ _ => pg_name (i := 4) sc_law_deed.nd rfl (Or.inl rfl)) (fun _ _ _ _ _ => pts_nil)
          (fun _ _ _ _ _ => pe_call GD hr (by rfl) gD FD.kp bD .nil pass0 (pa_cons (pv 0) (pa_cons (pv 1) pa_nil)))) pa_nil)))))), ?_⟩
    refine ⟨rfl, fun H1 p s1 hp e1 => ?_⟩
    refine ⟨.ref p, rfl, p, _, rfl, e1, fun L hL => ?_⟩
    have w1 : WL H1 a c := hw.same s1
    obtain ⟨nLa, nLc⟩ := w1.ne_new hL
    have nLp : L ≠ p := fun e => by
      rw [e, e1] at hL
      cases hL
    obtain ⟨npa, npc⟩ := hw.ne_new hp
    refine ⟨.ref a, rfl, a, c, 11, rfl, by decide, by decide, w1.upd nLa nLc, fun H2 z z0 z1 w2 k2 => ?_⟩
    obtain ⟨x, n, hmem, n0, n2, hat, hval⟩ := fw_at z0 z1
    have eL2 : H2 L = some (.lst (fwK.map fun kv => kV kv.1)) := k2 _ _ nLa nLc upd_same
    have ep2 : H2 p = some (.dK fwK) := k2 _ _ npa npc (by rw [upd_ne nLp.symm]; exact e1)
    refine ⟨L, _, z, .str x, rfl, rfl, .inl (.inl eL2), hat, ?_⟩
    refine ⟨.str x, rfl, by show 1 ≤ sizeLine; decide, fun U hU => ?_⟩
    obtain ⟨nUa, nUc⟩ := w2.ne_new hU
    have w3 : WL (upd H2 U (.tup [.str x])) a c := w2.upd nUa nUc
    have nUp : p ≠ U := ne_of_none ep2 hU
    refine ⟨.ref p, rfl, .str x, rfl, p, .int n, rfl, ?_, ?_⟩
    · rw [← hval]
      exact DGet.k (k := Sum.inr x) (by rw [upd_ne nUp]; exact ep2)
    have kH : Kp a c H (upd H2 U (.tup [.str x])) := fun b o n1 n2 e => by
      have e3 := k2 b o n1 n2 (by rw [upd_ne (ne_of_none (s1 b o e) hL)]; exact s1 b o e)
      rw [upd_ne (ne_of_none e3 hU)]
      exact e3
    refine ⟨n, rfl, by omega, by omega, fun D hD => ?_⟩
    obtain ⟨nDa, nDc⟩ := w3.ne_new hD
    have eU3 : upd H2 U (.tup [.str x]) U = some (.tup [.str x]) := upd_same
    have nDU : U ≠ D := ne_of_none eU3 hD
    refine lc_range (lo := 0) (n := n.toNat) (fun i H4 => ∃ zs : List Int, zs.length = i ∧ (∀ y ∈ zs, 0 ≤ y ∧ y < m) ∧ H4 D = some (.lst (zs.map V.int)) ∧ H4 U = some (.tup [.str x]) ∧ WL H4 a c ∧ Kp a c H H4) ⟨[], rfl, (fun _ z => nomatch z), upd_same, ?_, w3.upd nDa nDc, kH.trans (Same.kp (same_new hD))⟩ (fun i H4 hi hp => ?_) (fun H4 hp => ?_)
    · rw [upd_ne nDU]
      exact eU3
    · obtain ⟨zs, hz, hb, eD, eU, w4, k4⟩ := hp
      refine ⟨rfl, .ref a, rfl, .int m, rfl, a, c, m, rfl, hm, by omega, w4, fun H5 y y0 y1 w5 k5 => ?_⟩
      have eD5 := k5 _ _ nDa nDc eD
      refine ⟨_, eD5, ?_, zs ++ [y], ?_, ?_, ?_, ?_, w5.upd nDa nDc, ?_⟩
      · rw [List.length_map]
        exact small1000 (by omega)
      · rw [List.length_append, hz]
        rfl
      · intro y' hy'
        rcases List.mem_append.mp hy' with h | h
        · exact hb y' h
        · rw [List.mem_singleton.mp h]
          exact ⟨y0, y1⟩
      · rw [upd_same, List.map_append]
        rfl
      · rw [upd_ne nDU]
        exact k5.tup w4 eU
      · intro b o n1 n2 e
        have nbD : b ≠ D := by
          intro z
          have z1 := kH b o n1 n2 e
          rw [z, hD] at z1
          cases z1
        rw [upd_ne nbD]
        exact k5 b o n1 n2 (k4 b o n1 n2 e)
    · obtain ⟨zs, hz, hb, eD, eU, w4, k4⟩ := hp
      refine ⟨D, _, rfl, .inl ⟨.inl (.inl eD), fun T hT => ?_⟩⟩
      obtain ⟨nTa, nTc⟩ := w4.ne_new hT
      have sT : Same H4 (upd H4 T (.tup (zs.map V.int))) := same_new hT
      have eU6 : upd H4 T (.tup (zs.map V.int)) U = some (.tup [.str x]) := sT _ _ eU
      have hl : (zs.length : Int) = n := by omega
      have ok : DeedOk m (x, zs) := ⟨by rw [show ((x, zs) : Deed).2.length = zs.length from rfl, hl]; exact hmem, hb⟩
      refine ⟨U, T, _, _, rfl, rfl, SqT.of eU6, SqT.of upd_same, (fun z => nomatch z), ?_, fun e => ?_, fun e p hp => ?_⟩
      · rw [List.length_map]
        exact Nat.le_of_lt (small1000 (by show 1 + zs.length ≤ 1000; omega))
      · have e0 : zs = [] := List.map_eq_nil_iff.mp e
        refine q _ U (x, zs) ok ?_ (w4.upd nTa nTc) (k4.trans (Same.kp sT))
        rw [e0]
        rw [e0] at eU6
        exact eU6
      · have w6 := w4.upd (o := .tup (zs.map V.int)) nTa nTc
        obtain ⟨n1, n2⟩ := w6.ne_new hp
        exact q _ p (x, zs) ok upd_same (w6.upd n1 n2) ((k4.trans (Same.kp sT)).trans (Same.kp (same_new hp)))
/-! ### row -/
def spRow : Sp := fun vs H Q _ => ∃ (a c : Addr) (m n : Int), vs = [.ref a, .int m, .int n] ∧ 1 ≤ m ∧ m ≤ 3 ∧ 0 ≤ n ∧ n ≤ 8 ∧ WL H a c ∧
  ∀ H' R ds o, RowAt H' R m ds o → RowOk m ds o → (ds.length : Int) ≤ n → WL H' a c → Kp a c H H' → Q (.ref R) H'
theorem ok_row {f fD fE : Addr} {fd fdD fdE : FuncData} {k : Nat} (F : Fun K "_law_row" "_law_row" s_law_row f fd) (GD : FnOk P w K mg base CX0 (k + 1) fD fdD ["well", "many"] spDraw) (kD : PySem.W.keepIn K (.ref fD) = true)
    (GE : FnOk P w K mg base CX0 (k + 2) fE fdE ["well", "ahead"] spDeed) (kE : PySem.W.keepIn K (.ref fE) = true)
    (bD : Binds K fdD ["well", "many"] []) (bE : Binds K fdE ["well", "ahead"] []) (gD : mg "_law_draw" = some (.ref fD)) (gE : mg "_law_deed" = some (.ref fE)) (mt : mg "tuple" = none) (mr : mg "range" = none) :
    FnOk P w K mg base CX0 (k + 3) f fd ["well", "many", "most"] spRow := by
  refine F.ok sc_law_row (fun vs H Q E h => ?_) (fun cdv A outer s H vs Q E hr h => ?_)
  · obtain ⟨a, c, m, n, rfl, _⟩ := h
    rfl
  · obtain ⟨a, c, m, n, rfl, hm, hm2, hn, hn2, hw, q⟩ := h
    have hr1 := hr.mono (show k + 1 ≤ k + 2 by omega)
    refine ⟨_, pss_cons (ps_set (i := 3) sc_law_row.nd rfl (.inl rfl) (pe_call GD hr1 (by rfl) gD kD bD .nil pass0 (pa_cons (pv 0) (pa_cons (pe_op op_add (pv 2) pe_int) pa_nil))))
      (pss_cons (ps_set (i := 4) sc_law_row.nd rfl (.inl rfl) (pe_cmpR op_gt (pe_call GD hr1 (by rfl) gD kD bD .nil pass0 (pa_cons (pv 0) (pa_cons pe_int pa_nil))) pe_int (nomark _)))
      (pss_cons (ps_set (i := 5) sc_law_row.nd rfl (.inl rfl) (pe_lst pa_nil))
      (pss_cons (ps_for PassesOwn.never rfl (pi_range1 (by rfl) mr (pa_cons (pv 3) pa_nil)) (pg_name (i := 6) sc_law_row.nd rfl (.inl rfl))
        (pss_one (ps_expr (pe_bm PySem.F.plainAttrs_list PySem.F.slot_list_append PySem.F.type_list_append mt_append (pv 5) (pa_cons (pe_call GE hr (by rfl) gE kE bE .nil pass0 (pa_cons (pv 0) (pa_cons (pe_op op_add (pv 1) (pv 6)) pa_nil))) pa_nil)))))
      (pss_cons (ps_set (i := 7) sc_law_row.nd rfl (.inl rfl) (pe_op op_sub (pe_op op_add (pv 1) (pv 3)) pe_int))
      (pss_mid (ps_if (pt_not (pt_val (pv 4))) (pss_one (ps_set (i := 7) sc_law_row.nd rfl (.inl rfl) (pe_call GD hr1 (by rfl) gD kD bD .nil pass0 (pa_cons (pv 0) (pa_cons (pe_op op_add (pv 1) (pv 3)) pa_nil))))) pss_nil)
      (pss_one (ps_ret (pe_tup (pa_cons (pv 1) (pa_cons (pe_callTy call_tuple_of (by rfl) mt (by decide +kernel) (pa_cons (pv 5) pa_nil)) (pa_cons (pv 7) pa_nil))))))))))), ?_⟩
    refine ⟨.ref a, rfl, .int n, rfl, n, 1, rfl, rfl, a, c, n + 1, rfl, by omega, by omega, hw, fun H1 sz z0 z1 w1 k1 => ?_⟩
    refine ⟨.ref a, rfl, a, c, 4, rfl, by decide, by decide, w1, fun H2 la l0 l1 w2 k2 => ?_⟩
    refine ⟨la, 0, rfl, rfl, Nat.zero_le _, fun D hD => ?_⟩
    obtain ⟨nDa, nDc⟩ := w2.ne_new hD
    have kH : Kp a c H H2 := k1.trans k2
    refine ⟨.int sz, rfl, sz, rfl, by omega, by omega, for_range (lo := 0) (n := sz.toNat) (fun i σ H3 => ∃ y rs ds, σ = [some (.ref a), some (.int m), some (.int n), some (.int sz), some (.bl (decide (la > 0))), some (.ref D), y, none] ∧ H3 D = some (.lst (rs.map V.ref)) ∧ DsAt H3 rs ds ∧ ds.length = i ∧ DsOk m ds ∧ WL H3 a c ∧ Kp a c H H3)
      ⟨none, [], [], rfl, upd_same, .nil, rfl, ⟨fun k d e => by simp at e⟩, w2.upd nDa nDc, kH.trans (Same.kp (same_new hD))⟩ (fun i σ H3 hi hp => ?_) (fun σ H3 hp => ?_)⟩
    · obtain ⟨y, rs, ds, rfl, eD, hd, hl, ok, w3, k3⟩ := hp
      refine ⟨.ref D, rfl, .inl ⟨rfl, _, .inl (.inl eD)⟩, .ref a, rfl, .int m, rfl, .int (0 + i), rfl, m, 0 + i, rfl, rfl, a, c, _, rfl, by omega, by omega, w3, fun H4 r d hok er w4 k4 => ?_⟩
      have eD4 := k4 _ _ nDa nDc eD
      refine ⟨D, _, _, rfl, rfl, eD4, ?_, some (.int (0 + i)), rs ++ [r], ds ++ [d], rfl, ?_, ?_, ?_, ?_, w4.upd nDa nDc, ?_⟩
      · rw [List.length_map, awLen hd]
        exact small1000 (by omega)
      · rw [upd_same, List.map_append]
        rfl
      · exact (tups_put eD4).ds (awSnoc (F := fun r d => H4 r = some (.tup (dV d))) er ((k4.tups w3).ds hd))
      · rw [List.length_append, hl]
        rfl
      · refine dsOk_snoc ok ?_
        rw [hl]
        have : m + (0 + (i : Int)) = m + i := by omega
        rw [this] at hok
        exact hok
      · intro b o n1 n2 e
        have nbD : b ≠ D := by
          intro z
          have z1 := kH b o n1 n2 e
          rw [z, hD] at z1
          cases z1
        rw [upd_ne nbD]
        exact k4 b o n1 n2 (k3 b o n1 n2 e)
    · obtain ⟨y, rs, ds, rfl, eD, hd, hl, ok, w3, k3⟩ := hp
      refine ⟨.int m, rfl, .int sz, rfl, m, sz, rfl, rfl, _, 1, rfl, rfl, ?_⟩
      refine ⟨fun σ4 H4 => ∃ o, σ4 = [some (.ref a), some (.int m), some (.int n), some (.int sz), some (.bl (decide (la > 0))), some (.ref D), y, some (.int o)] ∧ 0 ≤ o ∧ o < m + sz ∧ H4 D = some (.lst (rs.map V.ref)) ∧ DsAt H4 rs ds ∧ WL H4 a c ∧ Kp a c H H4, ?_, ?_⟩
      · refine ⟨_, rfl, _, rfl, ?_⟩
        by_cases hla : la > 0
        · rw [decide_eq_true hla]
          exact ⟨m + sz - 1, rfl, by omega, by omega, eD, hd, w3, k3⟩
        · rw [decide_eq_false hla]
          refine ⟨.ref a, rfl, .int m, rfl, .int sz, rfl, m, sz, rfl, rfl, a, c, _, rfl, by omega, by omega, w3, fun H4 o o0 o1 w4 k4 => ?_⟩
          exact ⟨o, rfl, o0, o1, k4 _ _ nDa nDc eD, (k4.tups w3).ds hd, w4, k3.trans k4⟩
      · rintro σ4 H4 ⟨o, rfl, o0, o1, eD4, hd4, w4, k4⟩
        refine ⟨.int m, rfl, .ref D, rfl, D, _, rfl, .inl ⟨.inl (.inl eD4), fun T hT => ?_⟩⟩
        refine ⟨.int o, rfl, by show 3 ≤ sizeLine; decide, fun R hR => ?_⟩
        have s1 : Same H4 (upd H4 T (.tup (rs.map V.ref))) := same_new hT
        have s2 := same_new (o := .tup [.int m, .ref T, .int o]) hR
        obtain ⟨n1, n2⟩ := w4.ne_new hT
        have w5 := w4.upd (o := .tup (rs.map V.ref)) n1 n2
        obtain ⟨n3, n4⟩ := w5.ne_new hR
        refine q _ R ds o ⟨T, rs, upd_same, s2 _ _ upd_same, (Same.tups (s1.trans s2)).ds hd4⟩ ⟨hm, hm2, by omega, ok, o0, by omega⟩ (by omega) (w5.upd n3 n4) (k4.trans (Same.kp (s1.trans s2)))
/-! ### rows, as numbers -/
structure Rw where
  m : Int
  ds : List Deed
  o : Int
abbrev RwAt (H : Hp) (a : Addr) (r : Rw) : Prop := RowAt H a r.m r.ds r.o
abbrev RwsAt (H : Hp) : List Addr → List Rw → Prop := Paired (RwAt H)
abbrev RwOk (r : Rw) : Prop := RowOk r.m r.ds r.o
theorem stayRws {H H' : Hp} (t : TupsStay H H') {as : List Addr} {rws : List Rw} (h : RwsAt H as rws) : RwsAt H' as rws := awMap (fun _ _ e => t.row e) h
theorem awAt0 {as : List Addr} {a : Addr} {l : List Addr} (h : as = a :: l) : atI (as.map V.ref) 0 = some (.ref a) := by
  subst h
  exact atI_nat (j := 0) rfl
theorem row0 {m o : Int} {D : Addr} : atI [V.int m, .ref D, .int o] 0 = some (.int m) := atI_nat (j := 0) rfl
def rLen (K : PySem.W.Frag) : List V → Hp → VK → Prop := fun xs H Q => ∃ p ys, xs = [.ref p] ∧ (SqL K H p ys ∨ SqT K H p ys) ∧ Q (.int ys.length) H
/-! ### data that is shown in few signs, numbers of up to sixty figures among it -/
structure NcB (b k : Nat) (d : PyData) : Prop where
  sh : d.showable = true
  lv : d.leavesShort 62 = true
  bk : d.bulk ≤ b
  dp : d.depth ≤ k
theorem NcB.fits {b k : Nat} {d : PyData} (h : NcB b k d) (hb : b ≤ 30000) : d.shown.length ≤ sizeLine := by
  have h1 := PyData.shown_le_bulk 62 (by decide) d h.lv
  have h2 := h.bk
  rw [sizeLine_eq]
  omega
theorem NcB.mono {b b2 k k2 : Nat} {d : PyData} (h : NcB b k d) (hb : b ≤ b2) (hk : k ≤ k2) : NcB b2 k2 d := ⟨h.sh, h.lv, Nat.le_trans h.bk hb, Nat.le_trans h.dp hk⟩
theorem ncb_int {i : Int} (h : i.natAbs < 10 ^ 60) : NcB 0 0 (.int i) := by
  refine ⟨?_, ?_, ?_, ?_⟩
  · simp only [PyData.showable, decide_eq_true_eq]
    have : i.natAbs < 2 ^ 200 := Nat.lt_trans h (by decide)
    by_cases e : i.natAbs = 0
    · rw [e]; decide
    · have := (Nat.log2_lt e).mpr this
      omega
  · simp only [PyData.leavesShort, decide_eq_true_eq]
    have e := int_text_length_le10 (k := 60) (by decide) h
    simp only [PyData.shown]
    rw [PySem.ofString_length]
    omega
  · simp only [PyData.bulk, Nat.le_refl]
  · simp only [PyData.depth, Nat.le_refl]
theorem ncb_str {x : Str} {n : Nat} (h : x.cps.size ≤ n) (hx : (x.cps.toList.all fun c => decide (c < 16 ^ 8)) = true) : NcB n 0 (.str x) := by
  refine ⟨?_, ?_, ?_, ?_⟩
  · simp only [PyData.showable]
  · simp only [PyData.leavesShort]
    exact hx
  · simp only [PyData.bulk]
    exact h
  · simp only [PyData.depth, Nat.le_refl]
theorem ncb_non : NcB 0 0 .none := ⟨by simp only [PyData.showable], by simp only [PyData.leavesShort], by simp only [PyData.bulk, Nat.le_refl], by simp only [PyData.depth, Nat.le_refl]⟩
theorem ncb_bl (b : Bool) : NcB 0 0 (.bool b) := ⟨by simp only [PyData.showable], by simp only [PyData.leavesShort], by simp only [PyData.bulk, Nat.le_refl], by simp only [PyData.depth, Nat.le_refl]⟩
theorem ncb_dict : NcB 0 1 (.dict []) := ⟨by simp only [PyData.showable, PyData.showableKv], by simp only [PyData.leavesShort, PyData.leavesShortKv], by simp only [PyData.bulk, PyData.bulkKv, Nat.le_refl], by simp only [PyData.depth, PyData.depthKv]; decide⟩
theorem ncb_all {b k : Nat} : ∀ {xs : List PyData}, (∀ x ∈ xs, NcB b k x) → PyData.showableAll xs = true ∧ PyData.leavesShortAll 62 xs = true ∧ PyData.bulkAll xs ≤ xs.length * (b + 1) ∧ PyData.depthAll xs ≤ k
  | [], _ => ⟨by simp only [PyData.showableAll], by simp only [PyData.leavesShortAll], by simp only [PyData.bulkAll, Nat.zero_le], by simp only [PyData.depthAll, Nat.zero_le]⟩
  | x :: xs, h => by
    obtain ⟨h1, h2, h3, h4⟩ := ncb_all fun y hy => h y (List.mem_cons_of_mem _ hy)
    obtain ⟨g1, g2, g3, g4⟩ := h x List.mem_cons_self
    refine ⟨by simp only [PyData.showableAll, g1, h1, Bool.and_self], by simp only [PyData.leavesShortAll, g2, h2, Bool.and_self], ?_, ?_⟩
    · simp only [PyData.bulkAll, List.length_cons, Nat.add_mul, Nat.one_mul]
      omega
    · simp only [PyData.depthAll]
      omega
theorem ncb_tup {b k n : Nat} {xs : List PyData} (h : ∀ x ∈ xs, NcB b k x) (hn : xs.length * (b + 1) ≤ n) : NcB n (k + 1) (.tuple xs) := by
  obtain ⟨h1, h2, h3, h4⟩ := ncb_all h
  exact ⟨by simpa only [PyData.showable] using h1, by simpa only [PyData.leavesShort] using h2, by simp only [PyData.bulk]; omega, by simp only [PyData.depth]; omega⟩
theorem ncb_lst {b k n : Nat} {xs : List PyData} (h : ∀ x ∈ xs, NcB b k x) (hn : xs.length * (b + 1) ≤ n) : NcB n (k + 1) (.list xs) := by
  obtain ⟨h1, h2, h3, h4⟩ := ncb_all h
  exact ⟨by simpa only [PyData.showable] using h1, by simpa only [PyData.leavesShort] using h2, by simp only [PyData.bulk]; omega, by simp only [PyData.depth]; omega⟩
/-! ### enumerate of a tuple -/
section enumt
set_option maxHeartbeats 1000000 in
theorem meets_enum1 {v : Value} {o : Obj} {H : Heap → Prop} (B : Begins v o H) :
    Meets (Builtin.«enumerate.__new__» ⟨[.type "enumerate", v], []⟩) (fun _ R s => H s.heap ∧
      R (.ok (.ret (.ref (s.heap.push o).objs.size))) { s with heap := (s.heap.push o).push { cls := .type "enumerate", data := .fields #[.none, .bool false, .ref s.heap.objs.size, rawInt 0, .none, .none] } }) :=
  .of_wp fun prog w A R s h => by
    obtain ⟨hp, g, d, tk, os⟩ := s; obtain ⟨h1, h⟩ := h
    have hsub := sub_enumerate
    have q1 : ∀ {A' : Around} {E : Value → Shared → Prop} {Q : Value → Shared → Prop}, Q (.ref hp.objs.size) ⟨hp.push o, g, d, tk, os⟩ → wpAny (model prog w) A' (pyIter v) Q E ⟨hp, g, d, tk, os⟩ :=
      fun q => B.iter prog w _ _ ⟨hp, g, d, tk, os⟩ _ h1 q
    wp_walk using q1
    refine wpAny_stack_any fun st => wpAny_pure ?_
    split
    · rename_i c _ _ _ _ _
      cases (c == Value.type "enumerate")
      · wp_walk using q1
        exact ⟨_, rfl, h⟩
      · wp_walk using q1
        exact ⟨_, rfl, h⟩
    · wp_walk using q1
      exact ⟨_, rfl, h⟩
theorem enum1 {prog : Program} {w : World} {A : Around} {E : Value → Shared → Prop} {s : Shared} {v : Value} {o : Obj} {H : Heap → Prop} {Q : Value → Shared → Prop} (B : Begins v o H) (h1 : H s.heap)
    (h : ∀ h', IsEnum h' (s.heap.objs.size + 1) s.heap.objs.size 0 .none → h'.get? s.heap.objs.size = some o → h'.objs.size = s.heap.objs.size + 2 →
      (∀ b o, s.heap.get? b = some o → h'.get? b = some o) → Q (.ref (s.heap.objs.size + 1)) { s with heap := h' }) :
    wpAny (model prog w) A (call (.type "enumerate") [v]) Q E s := by
  refine callType_new F.called_enumerate (by decide) (F.typeCall_enumerate_1 _) (F.newCall_enumerate_1 _) (fun obj => F.args_object_init_2 obj _) F.entry_enumerate_new
    (meets_enum1 B) ⟨h1, ?_⟩
  have hz : (s.heap.push o).objs.size = s.heap.objs.size + 1 := Heap.size_push ..
  show _ ∧ _
  rw [hz]
  have he : IsEnum ((s.heap.push o).push { cls := .type "enumerate", data := .fields #[.none, .bool false, .ref s.heap.objs.size, rawInt 0, .none, .none] }) (s.heap.objs.size + 1) s.heap.objs.size 0 .none := by
    have := Heap.get?_push_size (s.heap.push o) (o := { cls := .type "enumerate", data := .fields #[.none, .bool false, .ref s.heap.objs.size, rawInt 0, .none, .none] }) rfl
    rw [hz] at this; exact this
  refine ⟨⟨_, he, rfl⟩, h _ he (Heap.get?_push_of_some _ (Heap.get?_push_size _ B.free)) (by rw [Heap.size_push, hz]) fun b o x => Heap.get?_push_of_some _ (Heap.get?_push_of_some _ x)⟩
def IteT (K : PySem.W.Frag) (a : Addr) : It :=
  ⟨fun i H => ∃ (xs : List V) (x : V), SqT K H a xs ∧ xs[i]? = some x, fun i H v H' => ∃ T x, v = .ref T ∧ H T = none ∧ H' = upd H T (.tup [.int (i : Nat), x]) ∧ ∀ xs, SqT K H a xs → xs[i]? = some x, fun i H => ∃ xs : List V, SqT K H a xs ∧ xs.length = i⟩
theorem turn_enumT {elts : List Expr} {kk : Nat} {tpos : Pos} (a e it : Addr) (na : a ≠ it) (ne : e ≠ a) :
    Turn P w K (.Tuple elts kk tpos) (IteT K a) [e, it] e (fun i h => (∃ old, IsEnum h e it ((i : Nat) : Int) old) ∧ h.IsTupleIter it a i ∧ e ≠ it) where
  mem := by simp
  obj := fun i h st b hb => by
    obtain ⟨⟨old, he⟩, ⟨o, ho, hc, hd⟩, _⟩ := st
    have e' : b = e ∨ b = it := by simpa using hb
    rcases e' with z | z
    · rw [z]; exact ⟨_, he, fun v q => nomatch q⟩
    · rw [z]; exact ⟨o, ho, fun v q => by rw [hd] at q; cases q⟩
  keep := fun i h h' st k => let ⟨⟨old, he⟩, hi, hne⟩ := st; ⟨⟨old, k e (by simp) _ he⟩, hi.at fun o q => k it (by simp) o q, hne⟩
  item := by
    intro X hP hw hK hc i pins s σ H E I hf st hg
    subst hP hw hK
    obtain ⟨⟨old, he⟩, hit, hne⟩ := st
    obtain ⟨xs, x, hq, hx⟩ := hg
    obtain ⟨its, rv, p, hz⟩ := I.tuple hq
    obtain ⟨u, hu, ru⟩ := rv.get hx
    have hel : e < s.heap.objs.size := Heap.lt_size he
    have hil : it < s.heap.objs.size := by obtain ⟨_, q, _⟩ := hit; exact Heap.lt_size q
    have hh : X.A.in1.handled = none := I.ok.hd hc
    have l1 : i < its.toArray.size := by
      have := (List.getElem?_eq_some_iff.mp hu).1
      simpa using this
    refine wpAny_pyNext_enum_itemD (Draws.tuple hh it a na its.toArray) he ⟨hit, p⟩ l1 hne (by simp [hne, ne]) fun v h' tk g ho hit' hT hsz hk => ?_
    have ev : v = u := by
      have g1' : its.toArray[i]? = some v := g
      have e : its[i]? = some v := by simpa using g1'
      rw [hu] at e
      exact (Option.some.inj e).symm
    subst ev
    refine ⟨_, rfl, wpAny_letOwnedTupleGo_enum (s := { s with heap := h', toks := tk + 1 }) ho fun h'' he' sb => ?_⟩
    have hT2 : h''.get? s.heap.objs.size = some { cls := .type "tuple", data := .seq #[.int i tk, v] } := (sb.2 _ (Nat.ne_of_gt hel)).trans hT
    have new : ObjOk X.prog X.w (upd H s.heap.objs.size (.tup [.int (i : Nat), x])) h'' s.heap.objs.size (.tup [.int (i : Nat), x]) :=
      ⟨by show 2 ≤ sizeLine; decide, [.int i tk, v], .cons ⟨_, rfl⟩ (.cons ru .nil), ⟨_, hT2, rfl, _, rfl⟩⟩
    have I1 : Inv X pins σ (upd H s.heap.objs.size (.tup [.int (i : Nat), x])) { s with heap := h'', toks := tk + 1 } :=
      I.turnedNew (ch := [e, it]) (fun b ob hb q => (sb.2 b (fun z => hb (by simp [z]))).trans (hk b ob (fun z => hb (by simp [z])) (fun z => hb (by simp [z])) q)) hf (Nat.le_refl _) new
    refine ⟨.ref s.heap.objs.size, _, I1, rfl, ⟨_, x, rfl, I.hok.fresh (Nat.le_refl _), rfl, fun ys hy => by rw [I.tuple_inj hy hq]; exact hx⟩, ⟨⟨v, ?_⟩, hit'.1.at fun o q => (sb.2 it (Ne.symm hne)).trans q, hne⟩, fun b hb => ?_⟩
    · have e1 : ((i + 1 : Nat) : Int) = (i : Int) + 1 := by omega
      rw [e1]; exact he'
    · have hb' : b < s.heap.objs.size := by
        have e' : b = e ∨ b = it := by simpa using hb
        rcases e' with z | z
        · rw [z]; exact hel
        · rw [z]; exact hil
      rw [upd_ne (Nat.ne_of_lt hb')]
      exact (hf b hb).1
  done := by
    intro X hP hw hK hc i pins s σ H E I hf st hg
    subst hP hw hK
    obtain ⟨⟨old, he⟩, hit, hne⟩ := st
    obtain ⟨xs, hq, hx⟩ := hg
    obtain ⟨its, rv, p, hz⟩ := I.tuple hq
    obtain ⟨f0, f1, f2, f3, f4, f5⟩ := hf it (by simp)
    have hl := rv.length
    have hh : X.A.in1.handled = none := I.ok.hd hc
    have ei : i = its.toArray.size := by rw [List.size_toArray]; omega
    exact wpAny_pyNext_enum_endD (Draws.tuple hh it a na its.toArray) he ⟨by rw [← ei]; exact hit, p⟩ fun h' eb => ⟨rfl, I.turned (t' := s.toks) (fun b o hb q => eb b o hb q) f0 f1 f3 f4 f5⟩
  self := fun A i s Q E st h => let ⟨⟨_, he⟩, _⟩ := st; wpAny_pyIter_enum he h
def iEnumT (K : PySem.W.Frag) (ta : TA) : TI := fun σ H R => ta σ H fun vs H1 => ∃ a xs, vs = [.ref a] ∧ SqT K H1 a xs ∧ R (IteT K a) H1
theorem pi_enumT {X : Cx} {e : Expr} {ta : TA} {p pos tpos : Pos} {elts : List Expr} {kk : Nat} (hg : Gl X "enumerate") (hm : X.mg "enumerate" = none) (ha : PA X [e] ta) (hs : starEach [e] X.env = [(false, eval e X.env)] := by rfl) :
    PI X (.Tuple elts kk tpos) (.Call (.Name "enumerate" p) [e] [] pos) (iEnumT X.K ta) := by
  refine ⟨fun pins s σ H R I h => ?_⟩
  refine Call_ (ld_blt I hg hm boot_enumerate (PyProof.Rows.callWith_type1 (thn (ha.run pos pins s σ H _ I h) fun us s1 ⟨vs, H1, I1, r1, q1⟩ => ?_) hs rfl))
  obtain ⟨a, xs, ex, hq, q⟩ := q1
  subst ex
  cases r1 with
  | cons r rr =>
    cases rr
    cases r
    obtain ⟨its, rv, p', hz⟩ := I1.tuple hq
    have lb : a < s1.heap.objs.size := by
      obtain ⟨o2, e2, _⟩ := id p'
      exact Heap.lt_size e2
    refine enum1 (begins_tuple a its.toArray) p' fun h' he hit hsz hk => wpAny_pyIter_enum he ?_
    have I2 : Inv X pins σ H1 { s1 with heap := h' } := I1.kept (t' := s1.toks) hk
    refine ⟨s1.heap.objs.size + 1, [s1.heap.objs.size + 1, s1.heap.objs.size], _, _, H1, rfl, I2, turn_enumT a (s1.heap.objs.size + 1) s1.heap.objs.size (Nat.ne_of_lt lb) (Nat.ne_of_gt (Nat.lt_succ_of_lt lb)), ⟨⟨.none, he⟩, ⟨_, hit, rfl, rfl⟩, Nat.succ_ne_self _⟩, fun b hb => ?_, q⟩
    have e' : b = s1.heap.objs.size + 1 ∨ b = s1.heap.objs.size := by simpa using hb
    have hle : s1.heap.objs.size ≤ b := by
      rcases e' with z | z
      · rw [z]; exact Nat.le_succ _
      · rw [z]; exact Nat.le_refl _
    exact I1.fpOk hle (I1.hok.fresh hle)
theorem walk_enumT {a : Addr} {xs : List V} : Walk (IteT K a) xs.length (fun H => SqT K H a xs) (YPair (fun i => some (.int (i : Nat))) (fun i => xs[i]?)) where
  goes := fun i H hi q => ⟨xs, xs[i], q, List.getElem?_eq_getElem hi⟩
  stops := fun H q => ⟨xs, q, rfl⟩
  yields := fun i H v H2 hi q y => by
    obtain ⟨T, x, h1, h2, h3, h4⟩ := y
    exact ⟨T, .int (i : Nat), x, h1, h2, h3, rfl, h4 xs q⟩
end enumt
/-! ### is_row of anything -/
theorem all_stay {N : Addr → Prop} {H H' : Hp} (s : ButN N H H') : ∀ {vs : List V} {ds : List PyData}, AnyAll N H vs ds → AnyAll N H' vs ds
  | _, _, .nil => .nil
  | _, _, .cons h t => .cons (any_stay s h) (all_stay s t)
theorem all_get {N : Addr → Prop} {H : Hp} : ∀ {vs : List V} {ds : List PyData} {i : Nat} {x : V}, AnyAll N H vs ds → vs[i]? = some x → ∃ d, ds[i]? = some d ∧ AnyAt N H x d
  | _, _, _, _, .nil, e => by simp at e
  | _, _, 0, _, .cons h _, e => by
    simp only [List.getElem?_cons_zero, Option.some.injEq] at e
    subst e
    exact ⟨_, rfl, h⟩
  | _, _, i + 1, x, .cons _ t, e => by
    simp only [List.getElem?_cons_succ] at e ⊢
    exact all_get t e
theorem all_len {N : Addr → Prop} {H : Hp} : ∀ {vs : List V} {ds : List PyData}, AnyAll N H vs ds → vs.length = ds.length
  | _, _, .nil => rfl
  | _, _, .cons _ t => congrArg (· + 1) (all_len t)
theorem all_of {N : Addr → Prop} {H : Hp} : ∀ {vs : List V} {ds : List PyData}, vs.length = ds.length → (∀ (i : Nat) x d, vs[i]? = some x → ds[i]? = some d → AnyAt N H x d) → AnyAll N H vs ds
  | [], [], _, _ => .nil
  | [], _ :: _, h, _ => by simp at h
  | _ :: _, [], h, _ => by simp at h
  | v :: vs, d :: ds, h, g => .cons (g 0 v d rfl rfl) (all_of (by simpa using h) fun i x e h1 h2 => g (i + 1) x e h1 h2)
theorem any_str {N : Addr → Prop} {H : Hp} {x : V} {t : Str} (h : AnyAt N H x (.str t)) : x = .str t := by cases h; rfl
theorem any_int {N : Addr → Prop} {H : Hp} {x : V} {i : Int} (h : AnyAt N H x (.int i)) : x = .int i := by cases h; rfl
theorem any_tup {N : Addr → Prop} {H : Hp} {x : V} {ds : List PyData} (h : AnyAt N H x (.tuple ds)) : ∃ a xs, x = .ref a ∧ ¬ N a ∧ H a = some (.tup xs) ∧ AnyAll N H xs ds := by
  cases h with
  | tup n e h => exact ⟨_, _, rfl, n, e, h⟩
def isTup : PyData → Bool
  | .tuple _ => true
  | _ => false
def isStrD : PyData → Bool
  | .str _ => true
  | _ => false
def isBl : PyData → Bool
  | .bool _ => true
  | _ => false
section isi
variable {N : Addr → Prop} {H : Hp} {x : V} {d : PyData} {Q : VK}
theorem isi_tup (hx : AnyAt N H x d) (q : Q (.bl (isTup d)) H) {σ : L2.St} : tCons (tC (V.ty "tuple")) tNil σ H (fun xs H2 => rIsi K (x :: xs) H2 Q) := ⟨x, .ty "tuple", tyD d, .type "tuple", isTup d, rfl, .ty "tuple", ty_any hx, by cases d <;> first | exact kit_ty (r := true) (by decide +kernel) | exact kit_ty (r := false) (by decide +kernel), q⟩
theorem isi_str (hx : AnyAt N H x d) (q : Q (.bl (isStrD d)) H) {σ : L2.St} : tCons (tC (V.ty "str")) tNil σ H (fun xs H2 => rIsi K (x :: xs) H2 Q) := ⟨x, .ty "str", tyD d, .type "str", isStrD d, rfl, .ty "str", ty_any hx, by cases d <;> first | exact kit_ty (r := true) (by decide +kernel) | exact kit_ty (r := false) (by decide +kernel), q⟩
theorem isi_bl (hx : AnyAt N H x d) (q : Q (.bl (isBl d)) H) {σ : L2.St} : tCons (tC (V.ty "bool")) tNil σ H (fun xs H2 => rIsi K (x :: xs) H2 Q) := ⟨x, .ty "bool", tyD d, .type "bool", isBl d, rfl, .ty "bool", ty_any hx, by cases d <;> first | exact kit_ty (r := true) (by decide +kernel) | exact kit_ty (r := false) (by decide +kernel), q⟩
theorem isi_int (hx : AnyAt N H x d) (q : Q (.bl (isInt d || isBl d)) H) {σ : L2.St} : tCons (tC (V.ty "int")) tNil σ H (fun xs H2 => rIsi K (x :: xs) H2 Q) := ⟨x, .ty "int", tyD d, .type "int", isInt d || isBl d, rfl, .ty "int", ty_any hx, by cases d <;> first | exact kit_ty (r := true) (by decide +kernel) | exact kit_ty (r := false) (by decide +kernel), q⟩
end isi
def belowD (m : Int) : PyData → Bool
  | .int i => decide (0 ≤ i) && decide (i < m)
  | _ => false
def numsA (m : Int) (x : Str) (ns : List PyData) : Bool := fwL.any fun q => decide (q.1 = x) && (decide (q.2 = (ns.length : Int)) && ns.all (belowD m))
def deedA (m : Int) : PyData → Bool
  | .tuple (.str x :: ns) => numsA m x ns
  | _ => false
def deedsA (m : Int) (l : List PyData) : List Bool := l.mapIdx fun i d => deedA (m + (i : Nat)) d
def rowA : PyData → Bool
  | .tuple [.int m, .tuple ds, o] => decide (1 ≤ m ∧ m ≤ 3) && (decide (ds.length ≤ 8) && ((deedsA m ds).all id && belowD (m + ds.length) o))
  | _ => false
def KeysFw : List DictEntry → Prop
  | [] => True
  | e :: r => (∃ q ∈ fwL, ∃ t, e.key = .str q.1 t) ∧ KeysFw r
theorem KeysFw.all : ∀ {l : List DictEntry}, KeysFw l → ∀ e ∈ l, ∃ q ∈ fwL, ∃ t, e.key = .str q.1 t
  | e :: r, h, x, hx => by
    rcases List.mem_cons.mp hx with rfl | hx
    · exact h.1
    · exact KeysFw.all h.2 x hx
theorem ns_no {pl : Addr} {es : Array DictEntry} {n : Nat} (pa : K.lookup pl = some ⟨.type "dict", none, .dict es n, #[]⟩) (pe : KeysFw es.toList) {z : Str} (hz : ∀ q ∈ fwL, ¬ q.1 = z) : PySem.W.nsIn K pl z = some none := by
  unfold PySem.W.nsIn
  rw [pa]
  have h1 : es.toList.find? (·.key.isStr z) = none := List.find?_eq_none.mpr fun e he => by
    obtain ⟨q, hq, t, ek⟩ := pe.all e he
    rw [ek]
    show ¬ (q.1 == z) = true
    simpa using hz q hq
  have h2 : es.toList.any (·.refKey) = false := List.any_eq_false.mpr fun e he => by
    obtain ⟨q, hq, t, ek⟩ := pe.all e he
    unfold DictEntry.refKey
    rw [ek]
    simp
  show (match es.toList.find? (·.key.isStr z) with | some e => some (some e.val) | none => if es.toList.any (·.refKey) then none else some none) = some none
  rw [h1, h2]
  rfl
theorem fw_uniq : ∀ p ∈ fwL, ∀ q ∈ fwL, p.1 = q.1 → p.2 = q.2 := by decide +kernel
theorem numsA_at {m n : Int} {x : Str} {ns : List PyData} (h : (x, n) ∈ fwL) : numsA m x ns = (decide (n = (ns.length : Int)) && ns.all (belowD m)) := by
  unfold numsA
  cases e : (decide (n = (ns.length : Int)) && ns.all (belowD m)) with
  | true => exact List.any_eq_true.mpr ⟨_, h, by rw [decide_eq_true rfl, Bool.true_and]; exact e⟩
  | false =>
    refine List.any_eq_false.mpr fun q hq => ?_
    by_cases hx : q.1 = x
    · have := fw_uniq q hq _ h hx
      rw [decide_eq_true hx, Bool.true_and, this]
      show ¬ (decide (n = (ns.length : Int)) && ns.all (belowD m)) = true
      rw [e]
      exact Bool.false_ne_true
    · rw [decide_eq_false hx, Bool.false_and]
      exact Bool.false_ne_true
theorem numsA_no {m : Int} {x : Str} {ns : List PyData} (h : ∀ q ∈ fwL, ¬ q.1 = x) : numsA m x ns = false := List.any_eq_false.mpr fun q hq => by
  rw [decide_eq_false (h q hq), Bool.false_and]
  exact Bool.false_ne_true
/-- no tuple within is long -/
structure PlOk (K : PySem.W.Frag) (w : World) (pl : Addr) (es : Array DictEntry) (n : Nat) : Prop where
  d : KDict K w pl es n
  at_ : ∀ p ∈ fwL, ∃ t, PySem.W.nsIn K pl p.1 = some (some (.int p.2 t))
  ks : KeysFw es.toList
def spNb : Sp := fun vs H Q _ => ∃ (N : Addr → Prop) (x : V) (d : PyData) (m : Int), vs = [x, .int m] ∧ AnyAt N H x d ∧ Q (.bl (belowD m d)) H
theorem ok_nb {f fW : Addr} {fd fdW : FuncData} {k : Nat} (F : Fun K "is_number_below" "is_number_below" s_is_number_below f fd) (GW : FnOk P w K mg base CX0 (k + 1) fW fdW ["thing"] spWhA) (kW : PySem.W.keepIn K (.ref fW) = true) (bW : Binds K fdW ["thing"] []) (gW : mg "is_whole" = some (.ref fW)) :
    FnOk P w K mg base CX0 (k + 2) f fd ["thing", "many"] spNb := by
  refine F.ok sc_is_number_below (fun vs H Q E h => ?_) (fun cdv A outer s H vs Q E hr h => ?_)
  · obtain ⟨N, x, d, m, rfl, _⟩ := h
    rfl
  · obtain ⟨N, x, d, m, rfl, hx, q⟩ := h
    refine ⟨_, pss_one (ps_ret (pe_and (pe_call GW hr (by rfl) gW kW bW .nil pass0 (pa_cons (pv 0) pa_nil)) (pe_one (pe_chain op_le op_lt pe_int (pv 0) (pv 1))))), ?_⟩
    refine ⟨x, rfl, N, x, d, rfl, hx, isInt d, rfl, ?_⟩
    cases hi : isInt d with
    | false =>
      have e : belowD m d = false := by
        cases d <;> first | rfl | exact Bool.noConfusion hi
      rw [e] at q
      exact iteF q
    | true =>
      obtain ⟨i, rfl⟩ : ∃ i, d = .int i := by
        cases d <;> first | exact ⟨_, rfl⟩ | exact Bool.noConfusion hi
      obtain rfl := any_int hx
      refine iteT ?_
      have q' : Q (.bl (decide (0 ≤ i) && decide (i < m))) H := q
      refine ⟨.int i, rfl, 0, i, rfl, rfl, _, rfl, ite2 (fun h0 => ?_) (fun h0 => ?_)⟩
      · rw [h0, Bool.true_and] at q'
        exact ⟨.int m, rfl, i, m, rfl, rfl, q'⟩
      · have h0' : decide (0 ≤ i) = false := by simpa using h0
        rw [h0', Bool.false_and] at q'
        exact q'
def spDe : Sp := fun vs H Q _ => ∃ (N : Addr → Prop) (x : V) (d : PyData) (m : Int) (b k : Nat), vs = [x, .int m] ∧ AnyAt N H x d ∧ NcB b k d ∧ b ≤ 30000 ∧ ∀ H', Same H H' → Q (.bl (deedA m d)) H'
theorem bulk_len : ∀ (xs : List PyData), xs.length ≤ PyData.bulkAll xs
  | [] => Nat.zero_le _
  | x :: xs => by
    have := bulk_len xs
    simp only [PyData.bulkAll, List.length_cons]
    omega
theorem tup_len {b k : Nat} {xs : List PyData} (h : NcB b k (.tuple xs)) : xs.length ≤ b := by
  have h1 := h.bk
  simp only [PyData.bulk] at h1
  exact Nat.le_trans (bulk_len xs) h1
theorem all_id (l : List Bool) : l.all id = l.all fun b => b := rfl
theorem ok_de {f fN pl : Addr} {es : Array DictEntry} {n : Nat} {fd fdN : FuncData} {k : Nat} (F : Fun K "is_deed" "is_deed" s_is_deed f fd) (GN : FnOk P w K mg base CX0 (k + 2) fN fdN ["thing", "many"] spNb) (kN : PySem.W.keepIn K (.ref fN) = true) (bN : Binds K fdN ["thing", "many"] []) (gN : mg "is_number_below" = some (.ref fN))
    (D : PlOk K w pl es n) (gP : mg "PLACES" = some (.ref pl)) (mi : mg "isinstance" = none) (mt : mg "tuple" = none) (mS : mg "str" = none) (mn : mg "len" = none) (ma : mg "all" = none) : FnOk P w K mg base CX0 (k + 3) f fd ["thing", "ahead"] spDe := by
  refine F.ok sc_is_deed (fun vs H Q E h => ?_) (fun cdv A outer s H vs Q E hr h => ?_)
  · obtain ⟨N, x, d, m, b, k, rfl, _⟩ := h
    rfl
  · obtain ⟨N, x, d, m, b, k, rfl, hx, nc, hb, q⟩ := h
    refine ⟨_, pss_cons (ps_if (PW.pt (pw_or (pt_not (pt_val (pe_callB call_isi (by rfl) mi (by decide +kernel) (pa_cons (pv 0) (pa_cons (pe_bltn (v := .ty "tuple") (by rfl) mt (by decide +kernel) rfl) pa_nil))))) (pw_or1 (pt_cmpR op_eq (pe_callB call_len_seq (by rfl) mn PySem.boot_len (pa_cons (pv 0) pa_nil)) pe_int (nomark _))))) (pss_one (ps_ret pe_bl)) pss_nil)
      (pss_cons (ps_set (i := 2) sc_is_deed.nd rfl (.inl rfl) (pe_ix ix_tup (pv 0) pe_int (fun _ _ => rfl)))
      (pss_cons (ps_if (PW.pt (pw_or (pt_not (pt_val (pe_callB call_isi (by rfl) mi (by decide +kernel) (pa_cons (pv 2) (pa_cons (pe_bltn (v := .ty "str") (by rfl) mS (by decide +kernel) rfl) pa_nil))))) (pw_or1 (pt_cmpR (op_notIn_kd D.d) (pv 2) (pe_glob (v := .ref pl) (by rfl) gP rfl) (by rfl))))) (pss_one (ps_ret pe_bl)) pss_nil)
      (pss_cons (ps_set (i := 3) sc_is_deed.nd rfl (.inl rfl) (pe_slice sl_tup (pv 0) (po_some pe_int) po_none))
      (pss_one (ps_ret (pe_and (pe_cmpR op_eq (pe_callB call_len_seq (by rfl) mn PySem.boot_len (pa_cons (pv 3) pa_nil)) (pe_ix ix_kdict (pe_glob (v := .ref pl) (by rfl) gP rfl) (pv 2) (fun _ _ => rfl)) (nomark _))
        (pe_one (pe_callB (cr_all rfl) (by rfl) ma (by decide +kernel) (pa_cons
          (pe_lc (own := [("number", 4)]) (g := gName 4) (by rfl) sc_is_deed.nd (pi_tup (pv 3)) (blkOk_by (own := [("number", 4)]) (N := N_is_deed) (sc := defScope s_is_deed) (by decide +kernel))
            (fun _ _ _ _ _ => pg_name (i := 4) sc_is_deed.nd rfl (Or.inl rfl)) (fun _ _ _ _ _ => pts_nil)
            (fun _ _ _ _ _ => pe_call GN hr (by rfl) gN kN bN .nil pass0 (pa_cons (pv 4) (pa_cons (pv 1) pa_nil)))) pa_nil))))))))), ?_⟩
    refine ⟨x, rfl, isi_tup hx ⟨_, rfl, ?_⟩⟩
    cases hi : isTup d with
    | false =>
      have e : deedA m d = false := by
        cases d <;> first | rfl | exact Bool.noConfusion hi
      rw [e] at q
      exact q H (Same.refl H)
    | true =>
    obtain ⟨ds, rfl⟩ : ∃ ds, d = .tuple ds := by
      cases d <;> first | exact ⟨_, rfl⟩ | exact Bool.noConfusion hi
    obtain ⟨r, xs, rfl, nr, er, hs⟩ := any_tup hx
    have hlen := tup_len nc
    refine ⟨.ref r, rfl, r, _, rfl, .inr (SqT.of er), ⟨rfl, _, rfl, ite2 (fun e => ?_) (fun e => ?_)⟩⟩
    · have e2 := intEq e
      have e3 : xs = [] := List.length_eq_zero_iff.mp (by omega)
      subst e3
      cases hs
      exact q H (Same.refl H)
    cases hs with
    | nil => exact absurd (decide_eq_true rfl) e
    | @cons x0 xr d0 dr h0 ht =>
    have lr := all_len ht
    refine ⟨.ref r, rfl, r, _, 0, x0, rfl, rfl, SqT.of er, atI_nat (j := 0) rfl, ?_⟩
    refine ⟨x0, rfl, isi_str h0 ⟨_, rfl, ?_⟩⟩
    cases hj : isStrD d0 with
    | false =>
      have e : deedA m (.tuple (d0 :: dr)) = false := by
        cases d0 <;> first | rfl | exact Bool.noConfusion hj
      rw [e] at q
      exact q H (Same.refl H)
    | true =>
    obtain ⟨t0, rfl⟩ : ∃ t0, d0 = .str t0 := by
      cases d0 <;> first | exact ⟨_, rfl⟩ | exact Bool.noConfusion hj
    obtain rfl := any_str h0
    have q : ∀ H', Same H H' → Q (.bl (numsA m t0 dr)) H' := q
    by_cases hw : ∃ c, (t0, c) ∈ fwL
    · obtain ⟨c, hc⟩ := hw
      rw [numsA_at hc] at q
      obtain ⟨t, ht2⟩ := D.at_ _ hc
      refine ⟨.str t0, rfl, t0, _, rfl, rfl, ht2, false, rfl, ?_⟩
      refine ⟨.ref r, rfl, 1, rfl, r, _, rfl, SqT.of er, notWhole _ _, fun T hT => ?_⟩
      rw [show cutV (V.str t0 :: xr) (some 1) none = xr from cutTail _ _]
      have sT := same_new (o := .tup xr) hT
      refine ⟨.ref T, rfl, T, _, rfl, .inr (SqT.of upd_same), .str t0, rfl, pl, t0, .int c, rfl, rfl, ⟨es, n, _, D.d.at_, D.d.lit, ht2, ⟨t, rfl⟩⟩, ⟨rfl, _, rfl, ite2 (fun he => ?_) (fun he => ?_)⟩⟩
      · have e3 := intEq he
        rw [lr] at e3
        rw [decide_eq_true e3.symm, Bool.true_and] at q
        refine ⟨.ref T, rfl, T, rfl, ⟨_, SqT.of upd_same⟩, fun C hC => ?_⟩
        have sC : ∀ o, Same (upd H T (.tup xr)) (upd (upd H T (.tup xr)) C o) := fun o => same_new hC
        refine lc_tup (K := K) (a := T) (xs := xr) (fun j H4 => H4 = upd (upd H T (.tup xr)) C (.lst (((dr.take j).map (belowD m)).map V.bl))) rfl (fun j H4 _ h4 => ?_) (fun j x H4 hx4 h4 => ?_) (fun H4 h4 => ?_)
        · rw [h4]
          exact SqT.of (sC _ _ _ upd_same)
        · subst h4
          have hj4 := (List.getElem?_eq_some_iff.mp hx4).1
          obtain ⟨z, hz, az⟩ := all_get ht hx4
          refine ⟨rfl, x, rfl, .int m, rfl, N, x, z, m, rfl, any_same (sT.trans (sC _)) az, _, upd_same, ?_, ?_⟩
          · rw [List.length_map, List.length_map, List.length_take, sizeLine_eq]
            simp only [List.length_cons] at hlen
            omega
          · rw [upd_upd, List.take_add_one, hz]
            simp
        · have eC : H4 C = some (.lst ((dr.map (belowD m)).map V.bl)) := by rw [h4, upd_same, lr, List.take_length]
          have s4 : Same (upd H T (.tup xr)) H4 := by rw [h4]; exact sC _
          refine ⟨C, _, rfl, .inl (.inl eC), ?_⟩
          have ea : (dr.map (belowD m)).all id = dr.all (belowD m) := by rw [List.all_map]; rfl
          rw [ea]
          exact q H4 (sT.trans s4)
      · have e3 := intNe he
        rw [lr] at e3
        rw [decide_eq_false (fun z => e3 z.symm), Bool.false_and] at q
        exact q _ sT
    · have hno : ∀ q ∈ fwL, ¬ q.1 = t0 := fun q' hq e => hw ⟨q'.2, by rw [← e]; exact hq⟩
      rw [numsA_no hno] at q
      refine ⟨.str t0, rfl, t0, _, rfl, rfl, ns_no D.d.at_ D.ks hno, true, rfl, ?_⟩
      exact q H (Same.refl H)
/-! ### are_deeds, is_row of anything -/
theorem ncl_mem {b k : Nat} : ∀ {xs : List PyData}, PyData.showableAll xs = true → PyData.leavesShortAll 62 xs = true → PyData.bulkAll xs ≤ b → PyData.depthAll xs ≤ k → ∀ x ∈ xs, NcB b k x
  | [], _, _, _, _, x, h => by cases h
  | y :: ys, h1, h2, h3, h4, x, h => by
    simp only [PyData.showableAll, Bool.and_eq_true] at h1
    simp only [PyData.leavesShortAll, Bool.and_eq_true] at h2
    simp only [PyData.bulkAll] at h3
    simp only [PyData.depthAll] at h4
    rcases List.mem_cons.mp h with rfl | h
    · exact ⟨h1.1, h2.1, by omega, by omega⟩
    · exact ncl_mem h1.2 h2.2 (by omega) (by omega) x h
theorem ncb_in {b k : Nat} {xs : List PyData} (h : NcB b k (.tuple xs)) : ∀ x ∈ xs, NcB b k x := by
  obtain ⟨h1, h2, h3, h4⟩ := h
  simp only [PyData.showable] at h1
  simp only [PyData.leavesShort] at h2
  simp only [PyData.bulk] at h3
  simp only [PyData.depth] at h4
  exact ncl_mem h1 h2 h3 (by omega)
def spAd : Sp := fun vs H Q _ => ∃ (N : Addr → Prop) (x : V) (d : PyData) (m : Int) (b k : Nat), vs = [x, .int m] ∧ AnyAt N H x d ∧ NcB b k d ∧ b ≤ 30000 ∧ ∀ H', Same H H' → Q (.bl (match d with | .tuple ds => decide (ds.length ≤ 8) && (deedsA m ds).all id | _ => false)) H'
theorem ok_ad {f fE : Addr} {t : Tok} {fd fdE : FuncData} {k : Nat} (F : Fun K "are_deeds" "are_deeds" s_are_deeds f fd) (GE : FnOk P w K mg base CX0 (k + 3) fE fdE ["thing", "ahead"] spDe) (kE : PySem.W.keepIn K (.ref fE) = true) (bE : Binds K fdE ["thing", "ahead"] []) (gE : mg "is_deed" = some (.ref fE))
    (gM : mg "MOST_DEEDS" = some (.int 8 t)) (mi : mg "isinstance" = none) (mt : mg "tuple" = none) (mn : mg "len" = none) (ma : mg "all" = none) (me : mg "enumerate" = none) : FnOk P w K mg base CX0 (k + 4) f fd ["thing", "many"] spAd := by
  refine F.ok sc_are_deeds (fun vs H Q E h => ?_) (fun cdv A outer s H vs Q E hr h => ?_)
  · obtain ⟨N, x, d, m, b, k, rfl, _⟩ := h
    rfl
  · obtain ⟨N, x, d, m, b, kk, rfl, hx, nc, hb, q⟩ := h
    refine ⟨_, pss_cons (ps_if (PW.pt (pw_or (pt_not (pt_val (pe_callB call_isi (by rfl) mi (by decide +kernel) (pa_cons (pv 0) (pa_cons (pe_bltn (v := .ty "tuple") (by rfl) mt (by decide +kernel) rfl) pa_nil))))) (pw_or1 (pt_cmpR op_gt (pe_callB call_len_seq (by rfl) mn PySem.boot_len (pa_cons (pv 0) pa_nil)) (pe_glob (v := .int 8) (by rfl) gM ⟨t, rfl⟩) (nomark _))))) (pss_one (ps_ret pe_bl)) pss_nil)
      (pss_one (ps_ret (pe_callB (cr_all rfl) (by rfl) ma (by decide +kernel) (pa_cons
        (pe_lc (own := [("at", 2), ("deed", 3)]) (g := gTup K 2 (gCons (gName 2) (gCons (gName 3) gNil))) (by rfl) sc_are_deeds.nd (pi_enumT (by rfl) me (pa_cons (pv 0) pa_nil)) (blkOk_by (own := [("at", 2), ("deed", 3)]) (N := N_are_deeds) (sc := defScope s_are_deeds) (by decide +kernel))
          (fun _ _ _ _ _ => pg_tup rfl (pgs_cons (pg_name (i := 2) sc_are_deeds.nd rfl (.inl rfl)) (pgs_cons (pg_name (i := 3) sc_are_deeds.nd rfl (.inl rfl)) pgs_nil))) (fun _ _ _ _ _ => pts_nil)
          (fun _ _ _ _ _ => pe_call GE hr (by rfl) gE kE bE .nil pass0 (pa_cons (pv 3) (pa_cons (pe_op op_add (pv 1) (pv 2)) pa_nil)))) pa_nil)))), ?_⟩
    refine ⟨x, rfl, isi_tup hx ⟨_, rfl, ?_⟩⟩
    cases hi : isTup d with
    | false =>
      cases d <;> first | exact q H (Same.refl H) | exact Bool.noConfusion hi
    | true =>
    obtain ⟨ds, rfl⟩ : ∃ ds, d = .tuple ds := by
      cases d <;> first | exact ⟨_, rfl⟩ | exact Bool.noConfusion hi
    obtain ⟨D, xs, rfl, nD, eD, hs⟩ := any_tup hx
    have q : ∀ H', Same H H' → Q (.bl (decide (ds.length ≤ 8) && (deedsA m ds).all id)) H' := q
    have lr := all_len hs
    refine ⟨.ref D, rfl, D, _, rfl, .inr (SqT.of eD), _, 8, rfl, rfl, _, rfl, ite2 (fun e => ?_) (fun e => ?_)⟩
    · have e2 := of_decide_eq_true e
      rw [lr] at e2
      rw [decide_eq_false (by omega), Bool.false_and] at q
      exact q H (Same.refl H)
    have h8 : ds.length ≤ 8 := by
      by_cases h : ds.length ≤ 8
      · exact h
      · exact absurd (decide_eq_true (by rw [lr]; omega)) e
    rw [decide_eq_true h8, Bool.true_and] at q
    refine ⟨.ref D, rfl, D, _, rfl, SqT.of eD, fun C hC => ?_⟩
    refine lc_it (walk_enumT (K := K) (a := D) (xs := xs)) (fun j H4 => H4 C = some (.lst ((deedsA m (ds.take j)).map V.bl)) ∧ Same H H4) ⟨upd_same, same_new hC⟩ (fun j H4 _ h4 => SqT.of (h4.2 _ _ eD)) (fun j x H4 H5 hj h4 hx => ?_) (fun H4 h4 => ?_)
    · obtain ⟨eC, s4⟩ := h4
      obtain ⟨U, x1, x2, rfl, hU, rfl, g1, g2⟩ := hx
      obtain rfl : x1 = .int (j : Nat) := (Option.some.inj g1).symm
      have g2 : xs[j]? = some x2 := g2
      obtain ⟨p, hd1, hd2⟩ := all_get hs g2
      have hj3 : j < ds.length := (List.getElem?_eq_some_iff.mp hd1).1
      have sU := same_new (o := .tup [.int (j : Nat), x2]) hU
      refine ⟨U, [.int (j : Nat), x2], rfl, .inl (.inl upd_same), rfl, .int (j : Nat), [x2], rfl, x2, [], rfl, rfl, rfl, x2, rfl, .int m, rfl, .int (j : Nat), rfl, m, (j : Nat), rfl, rfl, N, x2, p, m + (j : Nat), b, kk, rfl, any_same (s4.trans sU) hd2, ncb_in nc p (List.mem_of_getElem? hd1), hb, fun H6 s6 => ⟨_, s6 _ _ (sU _ _ eC), ?_, ?_, fun b u z => ?_⟩⟩
      · unfold deedsA
        rw [List.length_map, List.length_mapIdx, List.length_take]
        exact small1000 (by omega)
      · rw [upd_same, List.take_add_one, hd1]
        unfold deedsA
        rw [List.mapIdx_append, List.map_append, List.length_take, Nat.min_eq_left (by omega)]
        simp
      · rw [upd_ne (ne_of_none z hC)]
        exact s6 _ _ (sU _ _ (s4 b u z))
    · obtain ⟨eC, s4⟩ := h4
      rw [lr, List.take_length] at eC
      exact ⟨C, _, rfl, .inl (.inl eC), q H4 s4⟩
def spIr : Sp := fun vs H Q _ => ∃ (N : Addr → Prop) (x : V) (d : PyData) (b k : Nat), vs = [x] ∧ AnyAt N H x d ∧ NcB b k d ∧ b ≤ 30000 ∧ ∀ H', Same H H' → Q (.bl (rowA d)) H'
theorem ok_ir {f fW fA fN : Addr} {t : Tok} {fd fdW fdA fdN : FuncData} {k : Nat} (F : Fun K "is_row" "is_row" s_is_row f fd) (GW : FnOk P w K mg base CX0 (k + 1) fW fdW ["thing"] spWhA) (kW : PySem.W.keepIn K (.ref fW) = true) (bW : Binds K fdW ["thing"] []) (gW : mg "is_whole" = some (.ref fW))
    (GA : FnOk P w K mg base CX0 (k + 4) fA fdA ["thing", "many"] spAd) (kA : PySem.W.keepIn K (.ref fA) = true) (bA : Binds K fdA ["thing", "many"] []) (gA : mg "are_deeds" = some (.ref fA))
    (GN : FnOk P w K mg base CX0 (k + 2) fN fdN ["thing", "many"] spNb) (kN : PySem.W.keepIn K (.ref fN) = true) (bN : Binds K fdN ["thing", "many"] []) (gN : mg "is_number_below" = some (.ref fN))
    (gM : mg "MOST_INPUTS" = some (.int 3 t)) (mi : mg "isinstance" = none) (mt : mg "tuple" = none) (mn : mg "len" = none) : FnOk P w K mg base CX0 (k + 5) f fd ["thing"] spIr := by
  refine F.ok sc_is_row (fun vs H Q E h => ?_) (fun cdv A outer s H vs Q E hr h => ?_)
  · obtain ⟨N, x, d, b, k, rfl, _⟩ := h
    rfl
  · obtain ⟨N, x, d, b, kk, rfl, hx, nc, hb, q⟩ := h
    have r1 := hr.mono (show k + 1 ≤ k + 4 by omega)
    have r2 := hr.mono (show k + 2 ≤ k + 4 by omega)
    refine ⟨_, pss_cons (ps_if (PW.pt (pw_or (pt_not (pt_val (pe_callB call_isi (by rfl) mi (by decide +kernel) (pa_cons (pv 0) (pa_cons (pe_bltn (v := .ty "tuple") (by rfl) mt (by decide +kernel) rfl) pa_nil))))) (pw_or1 (pt_cmpR op_ne (pe_callB call_len_seq (by rfl) mn PySem.boot_len (pa_cons (pv 0) pa_nil)) pe_int (nomark _))))) (pss_one (ps_ret pe_bl)) pss_nil)
      (pss_cons (ps_asg (pv 0) (pg_tup rfl (pgs_cons (pg_name (i := 1) sc_is_row.nd rfl (.inl rfl)) (pgs_cons (pg_name (i := 2) sc_is_row.nd rfl (.inl rfl)) (pgs_cons (pg_name (i := 3) sc_is_row.nd rfl (.inl rfl)) pgs_nil)))))
      (pss_cons (ps_if (PW.pt (pw_or (pt_not (pt_val (pe_call GW r1 (by rfl) gW kW bW .nil pass0 (pa_cons (pv 1) pa_nil)))) (pw_or1 (pt_not (pt_chain op_le op_le pe_int (pv 1) (pe_glob (v := .int 3) (by rfl) gM ⟨t, rfl⟩)))))) (pss_one (ps_ret pe_bl)) pss_nil)
      (pss_one (ps_ret (pe_and (pe_call GA hr (by rfl) gA kA bA .nil pass0 (pa_cons (pv 2) (pa_cons (pv 1) pa_nil))) (pe_one (pe_call GN r2 (by rfl) gN kN bN .nil pass0 (pa_cons (pv 3) (pa_cons (pe_op op_add (pv 1) (pe_callB call_len_seq (by rfl) mn PySem.boot_len (pa_cons (pv 2) pa_nil))) pa_nil))))))))), ?_⟩
    refine ⟨x, rfl, isi_tup hx ⟨_, rfl, ?_⟩⟩
    cases hi : isTup d with
    | false =>
      cases d <;> first | exact q H (Same.refl H) | exact Bool.noConfusion hi
    | true =>
    obtain ⟨ds, rfl⟩ : ∃ ds, d = .tuple ds := by
      cases d <;> first | exact ⟨_, rfl⟩ | exact Bool.noConfusion hi
    obtain ⟨R, xs, rfl, nR, eR, hs⟩ := any_tup hx
    have lr := all_len hs
    refine ⟨.ref R, rfl, R, _, rfl, .inr (SqT.of eR), ⟨rfl, _, rfl, ite2 (fun e => ?_) (fun e => ?_)⟩⟩
    · have e3 : ¬ ds.length = 3 := by
        intro z
        rw [lr, z] at e
        exact absurd e (by decide)
      have : rowA (.tuple ds) = false := by
        match ds, e3 with
        | [], _ => rfl
        | [x], _ => cases x <;> rfl
        | [x, y], _ => cases x <;> first | rfl | (cases y <;> rfl)
        | [_, _, _], e => exact absurd rfl e
        | x :: y :: _ :: _ :: _, _ => cases x <;> first | rfl | (cases y <;> rfl)
      rw [this] at q
      exact q H (Same.refl H)
    have e3 : ds.length = 3 := by
      by_cases z : ds.length = 3
      · exact z
      · exfalso
        apply e
        rw [lr]
        simp only [ne_eq, decide_not, Bool.not_eq_true', decide_eq_false_iff_not, V.int.injEq]
        omega
    match ds, e3, xs, hs with
    | [d1, d2, d3], _, [x1, x2, x3], .cons h1 (.cons h2 (.cons h3 .nil)) => ?_
    refine ⟨.ref R, rfl, R, _, rfl, SqT.of eR, rfl, _, _, rfl, _, _, rfl, _, _, rfl, rfl, ?_⟩
    refine ⟨x1, rfl, N, x1, d1, rfl, h1, isInt d1, rfl, ?_⟩
    cases hi : isInt d1 with
    | false =>
      have : rowA (.tuple [d1, d2, d3]) = false := by
        cases d1 <;> first | rfl | exact Bool.noConfusion hi
      rw [this] at q
      exact q H (Same.refl H)
    | true =>
    obtain ⟨m, rfl⟩ : ∃ m, d1 = .int m := by
      cases d1 <;> first | exact ⟨_, rfl⟩ | exact Bool.noConfusion hi
    obtain rfl := any_int h1
    have no13 : ¬ (1 ≤ m ∧ m ≤ 3) → ∀ H', Same H H' → Q (.bl false) H' := fun hn H' s' => by
      have q2 := q H' s'
      have : rowA (.tuple [.int m, d2, d3]) = false := by
        cases d2 <;> first | rfl | (show (decide (1 ≤ m ∧ m ≤ 3) && _) = false; rw [decide_eq_false hn, Bool.false_and])
      rw [this] at q2
      exact q2
    refine ⟨.int m, rfl, 1, m, rfl, rfl, _, rfl, ?_⟩
    by_cases g1 : 1 ≤ m
    · rw [decide_eq_true g1]
      refine ⟨m, 3, rfl, rfl, _, rfl, ?_⟩
      by_cases g3 : m ≤ 3
      · rw [decide_eq_true g3]
        refine ⟨x2, rfl, .int m, rfl, N, x2, d2, m, b, kk, rfl, h2, ncb_in nc d2 (by simp), hb, fun H2 s2 => ⟨_, rfl, ?_⟩⟩
        have q2 := q H2 s2
        cases hj : isTup d2 with
        | false =>
          have e1 : rowA (.tuple [.int m, d2, d3]) = false := by
            cases d2 <;> first | rfl | exact Bool.noConfusion hj
          rw [e1] at q2
          cases d2 <;> first | exact q2 | exact Bool.noConfusion hj
        | true =>
        obtain ⟨es, rfl⟩ : ∃ es, d2 = .tuple es := by
          cases d2 <;> first | exact ⟨_, rfl⟩ | exact Bool.noConfusion hj
        obtain ⟨D, ys, rfl, nD, eD, hys⟩ := any_tup h2
        have q2 : Q (.bl (decide (1 ≤ m ∧ m ≤ 3) && (decide (es.length ≤ 8) && ((deedsA m es).all id && belowD (m + es.length) d3)))) H2 := q2
        rw [decide_eq_true ⟨g1, g3⟩, Bool.true_and, ← Bool.and_assoc] at q2
        refine ite2 (fun hb => ?_) (fun hb => ?_)
        · have hb : (decide (es.length ≤ 8) && (deedsA m es).all id) = true := hb
          rw [hb, Bool.true_and] at q2
          refine ⟨x3, rfl, .int m, rfl, .ref D, rfl, D, _, rfl, .inr (SqT.of (s2 _ _ eD)), m, _, rfl, rfl, N, x3, d3, m + ((ys.length : Nat) : Int), rfl, any_same s2 h3, ?_⟩
          rw [all_len hys]
          exact q2
        · have hb' : (decide (es.length ≤ 8) && (deedsA m es).all id) = false := by simpa using hb
          rw [hb', Bool.false_and] at q2
          exact q2
      · rw [decide_eq_false g3]
        exact no13 (fun z => g3 z.2) H (Same.refl H)
    · rw [decide_eq_false g1]
      exact ⟨false, rfl, no13 (fun z => g1 z.1) H (Same.refl H)⟩
/-! ### dicts whose keys are nested tuples of ints -/
mutual
inductive NkAt (H : Hp) : NestedKey → V → Prop
  | num (i : Int) : NkAt H (.num i) (.int i)
  | str (x : Str) : NkAt H (.text x) (.str x)
  | tup {a : Addr} {xs : List V} {ks : List NestedKey} : H a = some (.tup xs) → NkAll H ks xs → NkAt H (.tup ks) (.ref a)
inductive NkAll (H : Hp) : List NestedKey → List V → Prop
  | nil : NkAll H [] []
  | cons {k : NestedKey} {v : V} {ks : List NestedKey} {vs : List V} : NkAt H k v → NkAll H ks vs → NkAll H (k :: ks) (v :: vs)
end
section nds
variable {X : Cx}
mutual
theorem nk_is {pins : List (Addr × Obj)} {σ : L2.St} {H : Hp} {s : Shared} (I : Inv X pins σ H s) : ∀ (k : NestedKey) (v : V) (u : Value), NkAt H k v → RelV v u → NestedIs s.heap k u
  | .none, _, _, h, _ => nomatch h
  | .text x, _, _, h, r => by
    cases h
    obtain ⟨t, rfl⟩ := r
    exact .text _ _
  | .num i, _, _, h, r => by
    cases h
    obtain ⟨t, rfl⟩ := r
    exact .int _ _
  | .tup ks, _, _, h, r => by
    cases h with
    | tup e hs =>
      cases r
      obtain ⟨_, its, rv, o, ho, hc, n, hd⟩ := I.hok _ _ e
      exact .tup ho hc hd (by simpa using nks_is I ks _ _ hs rv)
theorem nks_is {pins : List (Addr × Obj)} {σ : L2.St} {H : Hp} {s : Shared} (I : Inv X pins σ H s) : ∀ (ks : List NestedKey) (vs : List V) (us : List Value), NkAll H ks vs → Vals vs us → NestedAll s.heap ks us
  | [], _, _, h, r => by
    cases h
    cases r
    exact .nil
  | k :: ks, _, _, h, r => by
    cases h with
    | cons h1 h2 =>
      cases r with
      | cons r1 r2 => exact .cons (nk_is I k _ _ h1 r1) (nks_is I ks _ _ h2 r2)
end
mutual
theorem nk_stay {H H' : Hp} (t : TupsStay H H') : ∀ (k : NestedKey) (v : V), NkAt H k v → NkAt H' k v
  | .none, _, h => nomatch h
  | .text x, _, h => by
    cases h
    exact .str x
  | .num i, _, h => by
    cases h
    exact .num i
  | .tup ks, _, h => by
    cases h with
    | tup e hs => exact .tup (t _ _ e) (nks_stay t ks _ hs)
theorem nks_stay {H H' : Hp} (t : TupsStay H H') : ∀ (ks : List NestedKey) (vs : List V), NkAll H ks vs → NkAll H' ks vs
  | [], _, h => by
    cases h
    exact .nil
  | k :: ks, _, h => by
    cases h with
    | cons h1 h2 => exact .cons (nk_stay t k _ h1) (nks_stay t ks _ h2)
end
abbrev NE := NestedKey × Addr × V
abbrev NRel : List NE → List (NestedKey × Addr × Value) → Prop := Paired fun p q => p.1 = q.1 ∧ p.2.1 = q.2.1 ∧ RelV p.2.2 q.2.2
def NDO (P : Program) (w : World) (a : Addr) (xs : List NE) : HO := .ext fun h => xs.length ≤ sizeLine ∧ (a == sysModules) = false ∧ ∃ ys, NRel xs ys ∧ ∃ o es ep, h.get? a = some o ∧ o.ExactDict ∧ o.data = .dict es ep ∧ es.toList = ys.map (entryOfKey (nestedKind P w)) ∧ (ys.map (·.1)).Nodup
theorem ndo_ok {P : Program} {w : World} {H : Hp} {h : Heap} {a : Addr} {xs : List NE} {ys : List (NestedKey × Addr × Value)} (hz : xs.length ≤ sizeLine) (hd : (a == sysModules) = false) (r : NRel xs ys) (dd : h.DictOfH (nestedKind P w) a ys) : ObjOk P w H h a (NDO P w a xs) := by
  obtain ⟨o, es, ep, h1, h2, h3, h4, _, h5⟩ := dd
  refine ⟨⟨hz, hd, ys, r, o, es, ep, h1, h2, h3, h4, h5⟩, ⟨o, h1⟩, ?_⟩
  rintro g1 g2 ⟨z1, z2, ys, z3, o, es, ep, z4, z5⟩ k
  exact ⟨z1, z2, ys, z3, o, es, ep, k o z4, z5⟩
structure ND (P : Program) (w : World) (H : Hp) (a : Addr) (xs : List NE) : Prop where
  ob : H a = some (NDO P w a xs)
  ks : ∀ p ∈ xs, NkAt H p.1 (.ref p.2.1) ∧ p.1.depth ≤ 8
theorem ND.full {pins : List (Addr × Obj)} {σ : L2.St} {H : Hp} {s : Shared} {a : Addr} {xs : List NE} (I : Inv X pins σ H s) (h : ND X.prog X.w H a xs) : xs.length ≤ sizeLine ∧ (a == sysModules) = false ∧ ∃ ys, NRel xs ys ∧ s.heap.DictOfH (nestedKind X.prog X.w) a ys := by
  obtain ⟨⟨z1, z2, ys, z3, o, es, ep, z4, z5, z6, z7, z8⟩, _⟩ := I.hok a _ h.ob
  refine ⟨z1, z2, ys, z3, o, es, ep, z4, z5, z6, z7, fun y hy => ?_, z8⟩
  obtain ⟨i, hi⟩ := List.mem_iff_getElem?.mp hy
  obtain ⟨p, hp, e1, e2, _⟩ := awGet2 z3 hi
  obtain ⟨k1, k2⟩ := h.ks p (List.mem_of_getElem? hp)
  rw [e1, e2] at k1
  rw [e1] at k2
  exact ⟨nk_is I _ _ _ k1 rfl, k2⟩
def getN (xs : List NE) (k : NestedKey) : Option V := (xs.find? fun x => decide (x.1 = k)).map (·.2.2)
theorem getN_rel {k : NestedKey} : ∀ {xs : List NE} {ys : List (NestedKey × Addr × Value)}, NRel xs ys → RelO (getN xs k) ((atKey ys k).map (·.2))
  | _, _, .nil => trivial
  | x :: _, y :: _, .cons ⟨e1, _, e3⟩ t => by
    have ih := getN_rel (k := k) t
    unfold getN atKey at *
    rw [List.find?_cons, List.find?_cons, ← e1]
    by_cases h : x.1 = k
    · rw [decide_eq_true h]
      exact e3
    · rw [decide_eq_false h]
      exact ih
theorem getN_none {k : NestedKey} {xs : List NE} : getN xs k = none ↔ ∀ p ∈ xs, p.1 ≠ k := by
  unfold getN
  rw [Option.map_eq_none_iff, List.find?_eq_none]
  simp
theorem getN_some {k : NestedKey} {xs : List NE} {v : V} (h : getN xs k = some v) : ∃ b, (k, b, v) ∈ xs := by
  unfold getN at h
  cases e : xs.find? fun x => decide (x.1 = k) with
  | none => rw [e] at h; cases h
  | some p =>
    rw [e] at h
    have h2 : p.1 = k := of_decide_eq_true (List.find?_some (p := fun x : NE => decide (x.1 = k)) e)
    obtain rfl : p.2.2 = v := Option.some.inj h
    exact ⟨p.2.1, h2 ▸ List.mem_of_find?_eq_some e⟩
theorem getN_snoc {k j : NestedKey} {b : Addr} {v : V} {xs : List NE} (hn : getN xs k = none) : getN (xs ++ [(k, b, v)]) j = if j = k then some v else getN xs j := by
  unfold getN at *
  rw [List.find?_append]
  by_cases h : j = k
  · subst h
    rw [if_pos rfl, Option.map_eq_none_iff.mp hn]
    simp
  · rw [if_neg h]
    have hk : ¬ k = j := fun z => h z.symm
    cases xs.find? fun x => decide (x.1 = j) with
    | none => simp [hk]
    | some p => rfl
theorem nd_stay {P : Program} {w : World} {H H' : Hp} {a : Addr} {xs : List NE} (h : ND P w H a xs) (e : H' a = some (NDO P w a xs)) (t : TupsStay H H') : ND P w H' a xs := ⟨e, fun p hp => ⟨nk_stay t _ _ (h.ks p hp).1, (h.ks p hp).2⟩⟩
theorem nd_same {P : Program} {w : World} {H H' : Hp} {a : Addr} {xs : List NE} (h : ND P w H a xs) (s : Same H H') : ND P w H' a xs := nd_stay h (s _ _ h.ob) (Same.tups s)
/-- {} -/
theorem pe_ndnew {P : Program} {w : World} (hP : X.prog = P) (hw : X.w = w) {pos : Pos} : PE X (.Dict [] [] pos) (fun _ H Q => ∀ p, H p = none → Q (.ref p) (upd H p (NDO P w p []))) := by
  subst hP hw
  constructor
  intro pins s σ H Q I h
  have ok : ObjOk X.prog X.w (upd H s.heap.objs.size (NDO X.prog X.w s.heap.objs.size [])) (s.heap.push { cls := .type "dict", data := .dict #[] }) s.heap.objs.size (NDO X.prog X.w s.heap.objs.size []) :=
    ndo_ok (Nat.zero_le _) (beq_eq_false_iff_ne.mpr (Ne.symm (Nat.ne_of_lt I.big))) .nil (Heap.DictOfH.new s.heap)
  exact wpAny_Dict_empty ⟨.ref _, _, I.laid (t' := s.toks) (fun _ _ z => Heap.get?_push_of_some _ z) (Nat.le_refl _) ok, rfl, h _ (I.hok.fresh (Nat.le_refl _))⟩
theorem nd_nil {P : Program} {w : World} {H : Hp} {a : Addr} : ND P w (upd H a (NDO P w a [])) a [] := ⟨upd_same, (fun _ z => nomatch z)⟩
/-- what is asked of a key -/
def KeyN (H : Hp) (y : V) (k : NestedKey) : Prop := NkAt H k y ∧ k.depth ≤ 8 ∧ ∃ b, y = .ref b
def tNGet (P : Program) (w : World) (td ty : TE) : TE := fun σ H Q => td σ H fun x H1 => ty σ H1 fun y H2 => ∃ a xs k v, x = .ref a ∧ ND P w H2 a xs ∧ KeyN H2 y k ∧ getN xs k = some v ∧ Q v H2
def tNNotIn (P : Program) (w : World) (ty td : TE) : TE := fun σ H Q => ty σ H fun y H1 => td σ H1 fun x H2 => ∃ a xs k, x = .ref a ∧ ND P w H2 a xs ∧ KeyN H2 y k ∧ Q (.bl (!(getN xs k).isSome)) H2
def sNPut (P : Program) (w : World) (td ty tv : TE) : TS := fun D σ H => tv σ H fun v H1 => td σ H1 fun x H2 => ty σ H2 fun y H3 => ∃ a xs k b, x = .ref a ∧ ND P w H3 a xs ∧ y = .ref b ∧ KeyN H3 y k ∧ getN xs k = none ∧ xs.length < sizeLine ∧ D.nx σ (upd H3 a (NDO P w a (xs ++ [(k, b, v)])))
theorem nd_put {P : Program} {w : World} {H : Hp} {a b : Addr} {xs : List NE} {k : NestedKey} {v : V} (h : ND P w H a xs) (hk : KeyN H (.ref b) k) : ND P w (upd H a (NDO P w a (xs ++ [(k, b, v)]))) a (xs ++ [(k, b, v)]) := by
  have t : TupsStay H (upd H a (NDO P w a (xs ++ [(k, b, v)]))) := fun c ys e => by
    rw [upd_ne (ne_of e h.ob (fun z => nomatch z))]
    exact e
  refine ⟨upd_same, fun p hp => ?_⟩
  rcases List.mem_append.mp hp with hp | hp
  · exact ⟨nk_stay t _ _ (h.ks p hp).1, (h.ks p hp).2⟩
  · rw [List.mem_singleton.mp hp]
    exact ⟨nk_stay t _ _ hk.1, hk.2.1⟩
theorem nd_at {pins : List (Addr × Obj)} {σ : L2.St} {H : Hp} {s : Shared} {y : V} {k : NestedKey} {u : Value} (I : Inv X pins σ H s) (hk : KeyN H y k) (r : RelV y u) : ∃ b, u = .ref b ∧ y = .ref b ∧ (nestedKind X.prog X.w).is s.heap k b := by
  obtain ⟨h1, h2, b, rfl⟩ := hk
  obtain rfl : u = Value.ref b := r
  exact ⟨b, rfl, rfl, nk_is I _ _ _ h1 rfl, h2⟩
theorem nrel_none {k : NestedKey} {xs : List NE} {ys : List (NestedKey × Addr × Value)} (r : NRel xs ys) (h : getN xs k = none) : atKey ys k = none := by
  have z := getN_rel (k := k) r
  rw [h] at z
  cases e : atKey ys k with
  | none => rfl
  | some p => rw [e] at z; exact z.elim
theorem pe_ndget {P : Program} {w : World} (hP : X.prog = P) (hw : X.w = w) {o i : Expr} {td ty : TE} {pos : Pos} (hu : X.A.units + 64 < cLine) (ho : PE X o td) (hi : PE X i ty) (hs : NoSl i) : PE X (.Subscript o i pos) (tNGet P w td ty) := by
  subst hP hw
  constructor
  intro pins s σ H Q I h
  refine subD_of PySem.F.slot_dict_getitem.lookup hs (thn (ho.run pins s σ H _ I h) ?_)
  rintro u s1 ⟨x, H1, I1, rx, q1⟩
  refine thn (hi.run pins s1 σ H1 _ I1 q1) ?_
  rintro iv s2 ⟨y, H2, I2, ry, a, xs, k, v, rfl, hn, hk, hv, q2⟩
  obtain rfl : u = Value.ref a := rx
  obtain ⟨b, rfl, rfl, hb⟩ := nd_at I2 hk ry
  obtain ⟨_, hd, ys, r, dd⟩ := hn.full I2
  have z := getN_rel (k := k) r
  rw [hv] at z
  cases e : atKey ys k with
  | none => rw [e] at z; exact z.elim
  | some p =>
    rw [e] at z
    exact ⟨dd.typeIs, wpAny_getItem_heap (knd := nestedKind X.prog X.w) (show X.A.in1.units + 8 < cLine by show X.A.units + 1 + 8 < cLine; omega) hb dd e ⟨v, H2, I2.tok _, z, q2⟩⟩
theorem pc_ndnotin {P : Program} {w : World} (hP : X.prog = P) (hw : X.w = w) {o i : Expr} {td ty : TE} (hu : X.A.units + 64 < cLine) (hi : PE X i ty) (ho : PE X o td) : PC X .NotIn i o (tNNotIn P w ty td) := by
  subst hP hw
  constructor
  intro pins s σ H Q I h
  refine thn (hi.run pins s σ H _ I h) ?_
  rintro iv s1 ⟨y, H1, I1, ry, q1⟩
  refine thn (ho.run pins s1 σ H1 _ I1 q1) ?_
  rintro u s2 ⟨x, H2, I2, rx, a, xs, k, rfl, hn, hk, q2⟩
  obtain rfl : u = Value.ref a := rx
  obtain ⟨b, rfl, rfl, hb⟩ := nd_at I2 hk ry
  obtain ⟨_, hd, ys, r, dd⟩ := hn.full I2
  have z := (getN_rel (k := k) r).isSome_eq
  rw [Option.isSome_map] at z
  refine notIn_keyed (knd := nestedKind X.prog X.w) (show X.A.in1.units + 8 < cLine by show X.A.units + 1 + 8 < cLine; omega) hb hd ⟨ys, dd, rfl⟩ ⟨.bl (!(getN xs k).isSome), H2, I2.tok _, ?_, q2⟩
  rw [valueAt_pairsH, Option.isSome_map, ← z]
  rfl
theorem nd_write {pins : List (Addr × Obj)} {σ : L2.St} {H : Hp} {s : Shared} {a b : Addr} {xs : List NE} {ys : List (NestedKey × Addr × Value)} {k : NestedKey} {v : V} {r : Value} {h' : Heap} {tk : Nat} (I : Inv X pins σ H s) (hn : ND X.prog X.w H a xs) (hl : xs.length < sizeLine) (rel : NRel xs ys) (hd : (a == sysModules) = false)
    (h0 : atKey ys k = none) (rv : RelV v r) (dd : h'.DictOfH (nestedKind X.prog X.w) a (storedH ys k b r)) (hs : Heap.SameBut a s.heap h') : Inv X pins σ (upd H a (NDO X.prog X.w a (xs ++ [(k, b, v)]))) { s with heap := h', toks := tk } := by
  rw [storedH_new h0] at dd
  have he : ∃ o, h'.get? a = some o := dd.elim fun o z => ⟨o, z.choose_spec.choose_spec.1⟩
  refine d_write I (by rw [hn.ob]; exact True.intro) hs he (ndo_ok ?_ hd (awSnoc (F := fun (p : NE) (q : NestedKey × Addr × Value) => p.1 = q.1 ∧ p.2.1 = q.2.1 ∧ RelV p.2.2 q.2.2) ⟨rfl, rfl, rv⟩ rel) dd)
  rw [List.length_append]
  exact hl
theorem ps_ndput {P : Program} {w : World} (hP : X.prog = P) (hw : X.w = w) {o i value : Expr} {td ty tv : TE} {pos pos' : Pos} (hu : X.A.units + 64 < cLine) (ho : PE X o td) (hi : PE X i ty) (hv : PE X value tv) (hs : swapsWith value (some (.Subscript o i pos')) pos.line X.env = pure false) :
    PS X (.Assign [.Subscript o i pos'] value pos) (sNPut P w td ty tv) := by
  subst hP hw
  constructor
  intro pins s σ H D I h
  refine wpAny_Assign_Subscript (thn (hv.run pins s σ H _ I h) ?_) hs
  rintro r s1 ⟨v, H1, I1, rv, q1⟩
  refine thn (ho.run pins s1 σ H1 _ I1 q1) ?_
  rintro u s2 ⟨x, H2, I2, rx, q2⟩
  refine thn (hi.run pins s2 σ H2 _ I2 q2) ?_
  rintro iv s3 ⟨y, H3, I3, ry, a, xs, k, b, rfl, hn, rfl, hk, hg, hl, q3⟩
  obtain rfl : u = Value.ref a := rx
  obtain ⟨b', rfl, eb, hb⟩ := nd_at I3 hk ry
  obtain rfl : b = b' := V.ref.inj eb
  obtain ⟨_, hd, ys, rel, dd⟩ := hn.full I3
  have hz : ys.length ≤ sizeLine := by
    have := awLen rel
    omega
  exact wpAny_setItem_heap (knd := nestedKind X.prog X.w) (hsz := hz) (show X.A.in1.units + 8 < cLine by show X.A.units + 1 + 8 < cLine; omega) hb dd fun h' dd' hs' => ⟨σ, _, nd_write I3 hn hl rel hd (nrel_none rel hg) rv dd' hs', q3⟩
/-- {t: v} -/
def tNDisp (P : Program) (w : World) (tk tv : TE) : TE := fun σ H Q => ∀ p, H p = none → tk σ (upd H p (NDO P w p [])) fun x H1 => tv σ H1 fun v H2 => ∃ b k, x = .ref b ∧ KeyN H2 x k ∧ H2 p = some (NDO P w p []) ∧ Q (.ref p) (upd H2 p (NDO P w p [(k, b, v)]))
theorem pe_ndisp {P : Program} {w : World} (hP : X.prog = P) (hw : X.w = w) {ek ev : Expr} {tk tv : TE} {pos : Pos} (hu : X.A.units + 64 < cLine) (hk : PE X ek tk) (hv : PE X ev tv) : PE X (.Dict [some ek] [ev] pos) (tNDisp P w tk tv) := by
  subst hP hw
  constructor
  intro pins s σ H Q I q
  have hn := I.hok.fresh (Nat.le_refl s.heap.objs.size)
  have ok : ObjOk X.prog X.w (upd H s.heap.objs.size (NDO X.prog X.w s.heap.objs.size [])) (s.heap.push { cls := .type "dict", data := .dict #[] }) s.heap.objs.size (NDO X.prog X.w s.heap.objs.size []) :=
    ndo_ok (Nat.zero_le _) (beq_eq_false_iff_ne.mpr (Ne.symm (Nat.ne_of_lt I.big))) .nil (Heap.DictOfH.new s.heap)
  have I1 := I.laid (t' := s.toks) (fun _ _ z => Heap.get?_push_of_some _ z) (Nat.le_refl _) ok
  rw [arm_eval_Dict, zip_pairTrees [some ek] [ev] X.env pos rfl rfl, dictDisplay_pairs (pairTrees [some ek] [ev] X.env pos) (by simp [pairTrees]) (by simp [pairTrees])]
  apply wpAny_bind
  apply wpAny_standAt
  apply wpAny_bind
  refine wpAny_subDictH (knd := nestedKind X.prog X.w) (show X.A.units + 8 < cLine by omega) (by show 1 ≤ 15; decide) ?_
  refine thn ((pps_cons (pos := pos) hk hv pps_nil).run pins _ σ _ (fun ps H2 => match ps with | [(x, v)] => ∃ b k, x = .ref b ∧ KeyN H2 x k ∧ H2 s.heap.objs.size = some (NDO X.prog X.w s.heap.objs.size []) ∧ Q (.ref s.heap.objs.size) (upd H2 s.heap.objs.size (NDO X.prog X.w s.heap.objs.size [(k, b, v)])) | _ => False) I1 (q _ hn)) ?_
  rintro ws s2 ⟨ps, H2, I2, rel, hq⟩
  match ps, ws, rel, hq with
  | [(x, v)], [(u1, u2)], .cons ⟨r1, r2⟩ .nil, ⟨b, k, e, hk2, hp, q2⟩ =>
    subst e
    obtain ⟨b', rfl, eb, hb⟩ := nd_at I2 hk2 r1
    obtain rfl : b = b' := V.ref.inj eb
    have hN : ND X.prog X.w H2 s.heap.objs.size [] := ⟨hp, (fun _ z => nomatch z)⟩
    obtain ⟨_, hd, ys, r0, dd⟩ := hN.full I2
    cases r0
    refine ⟨[(k, b, u2)], ⟨rfl, rfl, hb, trivial⟩, dd, fun h' tk dd' hs => ?_⟩
    exact wpAny_pure ⟨.ref s.heap.objs.size, _, nd_write I2 hN (by show 0 < sizeLine; decide) .nil hd rfl r2 dd' hs, rfl, q2⟩
/-- len(d) -/
theorem call_lenN {P : Program} {w : World} (hP : X.prog = P) (hw : X.w = w) : CallR X (.builtin "len") (fun vs H Q => ∃ p xs, vs = [.ref p] ∧ ND P w H p xs ∧ Q (.int ((xs.length : Nat) : Int)) H) := by
  subst hP hw
  intro pins s σ H vs us Q I r h
  obtain ⟨p, xs, rfl, hn, q⟩ := h
  obtain ⟨u, rfl, ru⟩ := vals1 r
  obtain rfl : u = Value.ref p := ru
  obtain ⟨z, hd, ys, rel, dd⟩ := hn.full I
  have hl : xs.length = ys.length := awLen rel
  refine call_len_dictH hd dd (by rw [← hl]; rw [sizeLine_eq] at z; omega) ?_
  rw [← hl]
  exact ⟨.int _, H, I.tok _, ⟨_, rfl⟩, q⟩
/-- d.setdefault(k, v) -/
def rNSetd (P : Program) (w : World) : V → List V → Hp → VK → Prop := fun x vs H Q => ∃ a xs k b v, x = .ref a ∧ vs = [.ref b, v] ∧ ND P w H a xs ∧ KeyN H (.ref b) k ∧ xs.length < sizeLine ∧ (∀ y, getN xs k = some y → Q y H) ∧ (getN xs k = none → Q v (upd H a (NDO P w a (xs ++ [(k, b, v)]))))
theorem mt_nsetd (hu : X.A.units + 64 < cLine) : MtR X "dict.setdefault" (rNSetd X.prog X.w) := by
  intro pins s σ H x vs v us Q I rx rxs h
  obtain ⟨a, xs, k, b, v0, rfl, rfl, hn, hk, hl, q1, q2⟩ := h
  cases rx
  obtain ⟨u1, u2, rfl, r1, r2⟩ := vals2 rxs
  obtain ⟨b', rfl, eb, hb⟩ := nd_at I hk r1
  obtain rfl : b = b' := V.ref.inj eb
  obtain ⟨_, hd, ys, rel, dd⟩ := hn.full I
  have hz : ys.length ≤ sizeLine := by
    have := awLen rel
    omega
  have z := getN_rel (k := k) rel
  refine call_setdefault_heap (knd := nestedKind X.prog X.w) (hsz := hz) (show X.A.in1.units + 8 < cLine by show X.A.units + 1 + 8 < cLine; omega) hb hd dd (fun p hp => ?_) (fun h0 h' dd' hs => ?_)
  · rw [hp] at z
    cases e : getN xs k with
    | none => rw [e] at z; exact z.elim
    | some y =>
      rw [e] at z
      exact ⟨y, H, I.tok _, z, q1 y e⟩
  · rw [h0] at z
    cases e : getN xs k with
    | some y => rw [e] at z; exact z.elim
    | none => exact ⟨v0, _, nd_write I hn hl rel hd h0 r2 dd' hs, r2, q2 e⟩
def tNSetd (P : Program) (w : World) (to : TE) (t : TA) : TE := fun σ H Q => to σ H fun x H1 => (∃ a xs, x = V.ref a ∧ ND P w H1 a xs) ∧ t σ H1 fun vs H2 => rNSetd P w x vs H2 Q
theorem pe_nsetd {P : Program} {w : World} (hP : X.prog = P) (hw : X.w = w) {o e : Expr} {es : List Expr} {to : TE} {t : TA} {apos cpos : Pos} (hu : X.A.units + 64 < cLine) (ho : PE X o to) (ha : PA X (e :: es) t)
    (c1 : attributeBase o "setdefault" X.env (eval o X.env) = eval o X.env := by rfl)
    (c2 : ((backTo cpos (starEach (e :: es) X.env)).all (fun x => !x.1) && (backToKw cpos (keywordEach [] X.env)).all (fun x => x.1.isSome) && decide ((e :: es).length + ([] : List Keyword).length + (if ([] : List Keyword).isEmpty then 0 else 1) < 30)) = true := by rfl)
    (c3 : (apos.endLine == cpos.line) = true := by rfl) (c4 : starEach (e :: es) X.env = (false, eval e X.env) :: starEach es X.env := by rfl) (c5 : (backTo cpos (starEach es X.env)).any (·.1) = false := by rfl) :
    PE X (.Call (.Attribute o "setdefault" apos) (e :: es) [] cpos) (tNSetd P w to t) := by
  subst hP hw
  constructor
  intro pins s σ H Q I h
  refine wpAny_Call_method_late c1 c2 c3 rfl (thn (ho.run pins s σ H _ I h) ?_)
  rintro v s1 ⟨x, H1, I1, r1, ⟨a, xs, rfl, hn⟩, q1⟩
  cases r1
  obtain ⟨_, hd, ys, rel, dd⟩ := hn.full I1
  obtain ⟨ob, es', ep, g1, g2, _⟩ := id dd
  refine ⟨"dict", "dict.setdefault", F.plainAttrs_dict, F.slot_dict_setdefault, F.type_dict_setdefault, dd.typeIs, (fun z e => ⟨ob, by injection e with e; rw [← e]; exact g1, g2.2.1⟩), ?_⟩
  have hA := ha.run cpos pins s1 σ H1 _ I1 q1
  rw [c4] at hA ⊢
  refine Calls.callWith_builtin (by show (false || (backTo cpos (starEach es X.env)).any (·.1)) = false; rw [c5]; rfl) (Calls.evalArgs_plain ?_)
  exact thn hA fun us s2 ⟨vs, H2, I2, r2, q2⟩ => mt_nsetd hu pins s2 σ H2 (.ref a) vs (.ref a) us Q I2 rfl r2 q2
end nds
/-! ### dicts by nested keys: read while locked, got with a default, put anew, walked, summed -/
section nd2
variable {X : Cx}
structure NDR (P : Program) (w : World) (H : Hp) (a : Addr) (xs : List NE) : Prop where
  ob : Rd H a (NDO P w a xs)
  ks : ∀ p ∈ xs, NkAt H p.1 (.ref p.2.1) ∧ p.1.depth ≤ 8
theorem ND.r {P : Program} {w : World} {H : Hp} {a : Addr} {xs : List NE} (h : ND P w H a xs) : NDR P w H a xs := ⟨.inl h.ob, h.ks⟩
theorem NDR.full {pins : List (Addr × Obj)} {σ : L2.St} {H : Hp} {s : Shared} {a : Addr} {xs : List NE} (I : Inv X pins σ H s) (h : NDR X.prog X.w H a xs) : xs.length ≤ sizeLine ∧ (a == sysModules) = false ∧ ∃ ys, NRel xs ys ∧ s.heap.DictOfH (nestedKind X.prog X.w) a ys := by
  obtain ⟨⟨z1, z2, ys, z3, o, es, ep, z4, z5, z6, z7, z8⟩, _⟩ := h.ob.ok I.hok
  refine ⟨z1, z2, ys, z3, o, es, ep, z4, z5, z6, z7, fun y hy => ?_, z8⟩
  obtain ⟨i, hi⟩ := List.mem_iff_getElem?.mp hy
  obtain ⟨p, hp, e1, e2, _⟩ := awGet2 z3 hi
  obtain ⟨k1, k2⟩ := h.ks p (List.mem_of_getElem? hp)
  rw [e1, e2] at k1
  rw [e1] at k2
  exact ⟨nk_is I _ _ _ k1 rfl, k2⟩
def tNGetR (P : Program) (w : World) (td ty : TE) : TE := fun σ H Q => td σ H fun x H1 => ty σ H1 fun y H2 => ∃ a xs k v, x = .ref a ∧ NDR P w H2 a xs ∧ KeyN H2 y k ∧ getN xs k = some v ∧ Q v H2
theorem pe_ndgetR {P : Program} {w : World} (hP : X.prog = P) (hw : X.w = w) {o i : Expr} {td ty : TE} {pos : Pos} (hu : X.A.units + 64 < cLine) (ho : PE X o td) (hi : PE X i ty) (hs : NoSl i) : PE X (.Subscript o i pos) (tNGetR P w td ty) := by
  subst hP hw
  constructor
  intro pins s σ H Q I h
  refine subD_of PySem.F.slot_dict_getitem.lookup hs (thn (ho.run pins s σ H _ I h) ?_)
  rintro u s1 ⟨x, H1, I1, rx, q1⟩
  refine thn (hi.run pins s1 σ H1 _ I1 q1) ?_
  rintro iv s2 ⟨y, H2, I2, ry, a, xs, k, v, rfl, hn, hk, hv, q2⟩
  obtain rfl : u = Value.ref a := rx
  obtain ⟨b, rfl, rfl, hb⟩ := nd_at I2 hk ry
  obtain ⟨_, hd, ys, r, dd⟩ := hn.full I2
  have z := getN_rel (k := k) r
  rw [hv] at z
  cases e : atKey ys k with
  | none => rw [e] at z; exact z.elim
  | some p =>
    rw [e] at z
    exact ⟨dd.typeIs, wpAny_getItem_heap (knd := nestedKind X.prog X.w) (show X.A.in1.units + 8 < cLine by show X.A.units + 1 + 8 < cLine; omega) hb dd e ⟨v, H2, I2.tok _, z, q2⟩⟩
def tNGet2 (P : Program) (w : World) (td ty tx : TE) : TE := fun σ H Q => td σ H fun x H1 => ∃ a xs0, x = .ref a ∧ ND P w H1 a xs0 ∧ ty σ H1 fun y H2 => tx σ H2 fun z H3 => ∃ xs k, ND P w H3 a xs ∧ KeyN H3 y k ∧ Q ((getN xs k).getD z) H3
theorem pe_ndget2 {P : Program} {w : World} (hP : X.prog = P) (hw : X.w = w) {o e f : Expr} {td ty tx : TE} {apos cpos : Pos} (hu : X.A.units + 64 < cLine) (ho : PE X o td) (he : PE X e ty) (hf : PE X f tx) (m : M2 X o "get" apos e f cpos) : PE X (.Call (.Attribute o "get" apos) [e, f] [] cpos) (tNGet2 P w td ty tx) := by
  subst hP hw
  constructor
  intro pins s σ H Q I h
  refine wpAny_Call_method m.base m.few m.line PySem.F.plainAttrs_dict PySem.F.slot_dict_get PySem.F.type_dict_get (thn (ho.run pins s σ H _ I h) ?_)
  rintro u s1 ⟨x, H1, I1, rx, a, xs0, rfl, hn1, q1⟩
  obtain rfl : u = Value.ref a := rx
  obtain ⟨_, hd1, ys1, rel1, dd1⟩ := hn1.full I1
  obtain ⟨ob, es', ep, g1, g2, _⟩ := id dd1
  refine ⟨dd1.typeIs, (fun z e => ⟨ob, by injection e with e; rw [← e]; exact g1, g2.2.1⟩), ?_⟩
  rw [m.trees]
  refine Calls.callWith_builtin rfl (Calls.evalArgs_plain (Calls.spliced_cons (thn (he.run pins s1 σ H1 _ I1 q1) ?_)))
  rintro iv s2 ⟨y, H2, I2, ry, q2⟩
  refine Calls.spliced_cons (thn (hf.run pins s2 σ H2 _ I2 q2) ?_)
  rintro fv s3 ⟨z, H3, I3, rz, xs, k, hn, hk, q3⟩
  refine Calls.spliced_nil ?_
  obtain ⟨b, rfl, rfl, hb⟩ := nd_at I3 hk ry
  obtain ⟨_, hd, ys, rel, dd⟩ := hn.full I3
  refine call_meetsIn PySem.F.slot_dict_get dd.typeIs PySem.F.entry_dict_get (PySem.F.args_dict_get_3 _ _ _) (meetsH_dict_get_default (nestedKind X.prog X.w) a b hd fv) ⟨(show X.A.in1.units + 8 < cLine by show X.A.units + 1 + 8 < cLine; omega), k, ys, hb, dd, (getN xs k).getD z, H3, I3.tok _, ?_, q3⟩
  exact (getN_rel (k := k) rel).getD rz
def putN (xs : List NE) (k : NestedKey) (b : Addr) (v : V) : List NE := if (getN xs k).isSome = true then xs.map (fun x => if x.1 = k then (x.1, x.2.1, v) else x) else xs ++ [(k, b, v)]
theorem putN_len (xs : List NE) (k : NestedKey) (b : Addr) (v : V) : (putN xs k b v).length ≤ xs.length + 1 := by
  unfold putN
  split
  · rw [List.length_map]
    omega
  · rw [List.length_append]
    exact Nat.le_refl _
theorem nrel_map {k : NestedKey} {v : V} {r : Value} (rv : RelV v r) : ∀ {xs : List NE} {ys : List (NestedKey × Addr × Value)}, NRel xs ys → NRel (xs.map fun x => if x.1 = k then (x.1, x.2.1, v) else x) (ys.map (putAt k r))
  | _, _, .nil => .nil
  | _, _, .cons (a := x) (b := y) h t => by
    refine .cons ?_ (nrel_map rv t)
    obtain ⟨h1, h2, h3⟩ := h
    unfold putAt
    dsimp only
    by_cases e : x.1 = k
    · rw [if_pos e, if_pos (h1 ▸ e)]
      exact ⟨h1, h2, rv⟩
    · rw [if_neg e, if_neg (h1 ▸ e)]
      exact ⟨h1, h2, h3⟩
theorem nd_writeA {pins : List (Addr × Obj)} {σ : L2.St} {H : Hp} {s : Shared} {a b : Addr} {xs : List NE} {ys : List (NestedKey × Addr × Value)} {k : NestedKey} {v : V} {r : Value} {h' : Heap} {tk : Nat} (I : Inv X pins σ H s) (hn : ND X.prog X.w H a xs) (hl : xs.length < sizeLine) (rel : NRel xs ys) (hd : (a == sysModules) = false)
    (rv : RelV v r) (dd : h'.DictOfH (nestedKind X.prog X.w) a (storedH ys k b r)) (hs : Heap.SameBut a s.heap h') : Inv X pins σ (upd H a (NDO X.prog X.w a (putN xs k b v))) { s with heap := h', toks := tk } := by
  have he : ∃ o, h'.get? a = some o := dd.elim fun o z => ⟨o, z.choose_spec.choose_spec.1⟩
  have lp := putN_len xs k b v
  refine d_write I (by rw [hn.ob]; exact True.intro) hs he (ndo_ok (by omega) hd ?_ dd)
  have z := getN_rel (k := k) rel
  unfold putN
  cases e : getN xs k with
  | none =>
    rw [storedH_new (nrel_none rel e), if_neg (by simp)]
    exact awSnoc (F := fun (p : NE) (q : NestedKey × Addr × Value) => p.1 = q.1 ∧ p.2.1 = q.2.1 ∧ RelV p.2.2 q.2.2) ⟨rfl, rfl, rv⟩ rel
  | some y =>
    rw [e] at z
    cases e2 : atKey ys k with
    | none => rw [e2] at z; exact z.elim
    | some p =>
      rw [storedH_old e2, if_pos (by simp)]
      exact nrel_map rv rel
def sNPutA (P : Program) (w : World) (td ty tv : TE) : TS := fun D σ H => tv σ H fun v H1 => td σ H1 fun x H2 => ty σ H2 fun y H3 => ∃ a xs k b, x = .ref a ∧ ND P w H3 a xs ∧ y = .ref b ∧ KeyN H3 y k ∧ xs.length < sizeLine ∧ D.nx σ (upd H3 a (NDO P w a (putN xs k b v)))
theorem ps_ndputA {P : Program} {w : World} (hP : X.prog = P) (hw : X.w = w) {o i value : Expr} {td ty tv : TE} {pos pos' : Pos} (hu : X.A.units + 64 < cLine) (ho : PE X o td) (hi : PE X i ty) (hv : PE X value tv) (hs : swapsWith value (some (.Subscript o i pos')) pos.line X.env = pure false) :
    PS X (.Assign [.Subscript o i pos'] value pos) (sNPutA P w td ty tv) := by
  subst hP hw
  constructor
  intro pins s σ H D I h
  refine wpAny_Assign_Subscript (thn (hv.run pins s σ H _ I h) ?_) hs
  rintro r s1 ⟨v, H1, I1, rv, q1⟩
  refine thn (ho.run pins s1 σ H1 _ I1 q1) ?_
  rintro u s2 ⟨x, H2, I2, rx, q2⟩
  refine thn (hi.run pins s2 σ H2 _ I2 q2) ?_
  rintro iv s3 ⟨y, H3, I3, ry, a, xs, k, b, rfl, hn, rfl, hk, hl, q3⟩
  obtain rfl : u = Value.ref a := rx
  obtain ⟨b', rfl, eb, hb⟩ := nd_at I3 hk ry
  obtain rfl : b = b' := V.ref.inj eb
  obtain ⟨_, hd, ys, rel, dd⟩ := hn.full I3
  have hz : ys.length ≤ sizeLine := by
    have := awLen rel
    omega
  exact wpAny_setItem_heap (knd := nestedKind X.prog X.w) (hsz := hz) (show X.A.in1.units + 8 < cLine by show X.A.units + 1 + 8 < cLine; omega) hb dd fun h' dd' hs' => ⟨σ, _, nd_writeA I3 hn hl rel hd rv dd' hs', q3⟩
theorem nd_putA {P : Program} {w : World} {H : Hp} {a b : Addr} {xs : List NE} {k : NestedKey} {v : V} (h : ND P w H a xs) (hk : KeyN H (.ref b) k) : ND P w (upd H a (NDO P w a (putN xs k b v))) a (putN xs k b v) := by
  have tt : TupsStay H (upd H a (NDO P w a (putN xs k b v))) := fun c ys e => by
    rw [upd_ne (ne_of e h.ob (fun z => nomatch z))]
    exact e
  refine ⟨upd_same, fun p hp => ?_⟩
  unfold putN at hp
  split at hp
  · obtain ⟨x, hx, rfl⟩ := List.mem_map.mp hp
    split
    · exact ⟨nk_stay tt _ _ (h.ks x hx).1, (h.ks x hx).2⟩
    · exact ⟨nk_stay tt _ _ (h.ks x hx).1, (h.ks x hx).2⟩
  · rcases List.mem_append.mp hp with hp | hp
    · exact ⟨nk_stay tt _ _ (h.ks p hp).1, (h.ks p hp).2⟩
    · rw [List.mem_singleton.mp hp]
      exact ⟨nk_stay tt _ _ hk.1, hk.2.1⟩
/-! the keys, walked while the dict is locked -/
theorem nd_frz {pins : List (Addr × Obj)} {σ : L2.St} {H : Hp} {s : Shared} {d : Addr} {o : Obj} {xs : List NE} (I : Inv X pins σ H s) (h : H d = some (.frz o (NDO X.prog X.w d xs))) :
    (d == sysModules) = false ∧ s.heap.get? d = some o ∧ o.ExactDict ∧ ∃ (es : Array DictEntry) (ep : Nat), o.data = .dict es ep ∧ es.size = xs.length ∧ ∀ (i : Nat) (p : NE), xs[i]? = some p → ∃ en : DictEntry, es[i]? = some en ∧ en.key = .ref p.2.1 ∧ RelV p.2.2 en.val := by
  obtain ⟨hg, ⟨z1, z2, ys, z3, o', es, ep, z4, z5, z6, z7, z8⟩, _⟩ := I.hok d _ h
  obtain rfl : o' = o := Option.some.inj (z4.symm.trans hg)
  have l1 : es.size = ys.length := size_of_entries z7
  refine ⟨z2, hg, z5, es, ep, z6, l1.trans (awLen z3).symm, fun i p hp => ?_⟩
  obtain ⟨y, hy, e1, e2, e3⟩ := awGet z3 hp
  have e : es.toList[i]? = some (entryOfKey (nestedKind X.prog X.w) y) := by
    rw [z7, List.getElem?_map, hy]
    rfl
  rw [Array.getElem?_toList] at e
  refine ⟨_, e, ?_, e3⟩
  rw [e2]
  rfl
def ItN (P : Program) (w : World) (d : Addr) (o : Obj) (xs : List NE) : It :=
  ⟨fun i H => H d = some (.frz o (NDO P w d xs)) ∧ i < xs.length, fun i H x H' => H' = H ∧ ∃ p, xs[i]? = some p ∧ x = .ref p.2.1, fun i H => H d = some (.frz o (NDO P w d xs)) ∧ xs.length ≤ i⟩
theorem turn_N {d : Addr} {o : Obj} {xs : List NE} {tg : Expr} (it : Addr) {ep : Nat} {es : Array DictEntry} (hod : o.data = .dict es ep) : Turn P w K tg (ItN P w d o xs) [it] it (fun i h => h.IsKeyIter it d i xs.length ep) where
  mem := by simp
  obj := fun i h st b hb => by
    have e : b = it := by simpa using hb
    subst e
    obtain ⟨oi, e, c, dd⟩ := st
    exact ⟨oi, e, fun v z => by rw [dd] at z; cases z⟩
  keep := fun i h h' st k => st.at fun oi e => k it (by simp) oi e
  item := by
    intro X hP hw hK hc i pins s σ H E I hf st hg
    subst hP hw hK
    obtain ⟨hd, hi⟩ := hg
    obtain ⟨f0, f1, f2, f3, f4, f5⟩ := hf it (by simp)
    obtain ⟨hs, hgd, hx, es', ep', hdt, hsz, ent⟩ := nd_frz I hd
    obtain ⟨rfl, rfl⟩ := dict_ep hod hdt
    obtain ⟨p, hkv⟩ : ∃ p, xs[i]? = some p := ⟨xs[i], List.getElem?_eq_getElem hi⟩
    obtain ⟨en, hen, hkey, _⟩ := ent i p hkv
    refine next_key_item st hgd hdt hsz hen fun h' st' sb => ?_
    have I1 : Inv X pins σ H { s with heap := h' } := I.turned (t' := s.toks) (fun b ob hb e => (sb.2 b hb).trans e) f0 f1 f3 f4 f5
    obtain ⟨oi, e, c, dd⟩ := id st'
    exact ⟨en.key, rfl, go_of (s := { s with heap := h' }) e c dd (by decide) ⟨.ref p.2.1, H, I1, hkey, ⟨rfl, p, hkv, rfl⟩, st', fun b hb => (hf b hb).1⟩⟩
  done := by
    intro X hP hw hK hc i pins s σ H E I hf st hg
    subst hP hw hK
    obtain ⟨hd, hi⟩ := hg
    obtain ⟨f0, f1, f2, f3, f4, f5⟩ := hf it (by simp)
    obtain ⟨hs, hgd, hx, es', ep', hdt, hsz, ent⟩ := nd_frz I hd
    obtain ⟨rfl, rfl⟩ := dict_ep hod hdt
    exact next_key_end (I.ok.hd hc) st hgd hdt hsz hi fun h' eb => ⟨rfl, I.turned (t' := s.toks) (fun b ob hb e => eb b ob hb e) f0 f1 f3 f4 f5⟩
  self := fun A i s Q E st h => by
    refine wpAny_pyIter_slot st.typeIs F.slot_dict_keyiterator_iter (wpAny_call_entry F.slot_dict_keyiterator_iter st.typeIs F.entry_dict_keyiterator_iter ?_ (F.args_dict_keyiterator_iter_1 _))
    show wpAny _ _ (ret (.ref it)) _ _ s
    exact wpAny_pure ⟨_, rfl, "dict_keyiterator", _, st.typeIs, F.slot_dict_keyiterator_next.lookup, h⟩
def iKeysN (P : Program) (w : World) (td : TE) : TI := fun σ H R => td σ H fun x H1 => ∃ d o xs, x = .ref d ∧ H1 d = some (.frz o (NDO P w d xs)) ∧ R (ItN P w d o xs) H1
theorem pi_keysN {P : Program} {w : World} (hP : X.prog = P) (hw : X.w = w) {tg e : Expr} {td : TE} (he : PE X e td) : PI X tg e (iKeysN P w td) := by
  subst hP hw
  refine ⟨fun pins s σ H R I h => ?_⟩
  refine thn (he.run pins s σ H _ I h) ?_
  rintro u s1 ⟨x, H1, I1, rx, d, o, xs, rfl, hd, q⟩
  obtain rfl : u = Value.ref d := rx
  obtain ⟨hs, hgd, hx, es, ep, hdt, hsz, ent⟩ := nd_frz I1 hd
  refine iter_keys hs hgd hx hdt (pi_one (tk := s1.toks) I1 _ (turn_N _ hdt) ⟨_, Heap.get?_push_size _ rfl, rfl, ?_⟩ q)
  rw [hsz] <;> rfl
theorem walk_N {P : Program} {w : World} {d : Addr} {o : Obj} {xs : List NE} : Walk (ItN P w d o xs) xs.length (fun H => H d = some (.frz o (NDO P w d xs))) (fun i H x H' => H' = H ∧ ∃ p, xs[i]? = some p ∧ x = .ref p.2.1) :=
  ⟨fun _ _ hi q => ⟨q, hi⟩, fun _ q => ⟨q, Nat.le_refl _⟩, fun _ _ _ _ _ _ y => y⟩
/-! d.values(), and their sum -/
theorem nd_raw {pins : List (Addr × Obj)} {σ : L2.St} {H : Hp} {s : Shared} {d : Addr} {xs : List NE} (I : Inv X pins σ H s) (h : H d = some (NDO X.prog X.w d xs)) :
    (d == sysModules) = false ∧ ∃ es ep, s.heap.DictRaw d es ep ∧ es.size = xs.length ∧ ∀ (i : Nat) (hi : i < es.size), ∃ p, xs[i]? = some p ∧ RelV p.2.2 es[i].val := by
  obtain ⟨⟨z1, z2, ys, z3, o, es, ep, z4, z5, z6, z7, z8⟩, _⟩ := I.hok d _ h
  have l1 : es.size = ys.length := size_of_entries z7
  refine ⟨z2, es, ep, ⟨o, z4, z5, z6⟩, l1.trans (awLen z3).symm, fun i hi => ?_⟩
  have hi2 : i < ys.length := by omega
  obtain ⟨p, h1, _, _, h4⟩ := awGet2 z3 (List.getElem?_eq_getElem hi2)
  have e : es.toList[i]? = some (entryOfKey (nestedKind X.prog X.w) ys[i]) := by
    rw [z7, List.getElem?_map, List.getElem?_eq_getElem hi2]
    rfl
  have e2 : es[i] = entryOfKey (nestedKind X.prog X.w) ys[i] := by
    rw [Array.getElem?_toList, Array.getElem?_eq_getElem hi] at e
    exact Option.some.inj e
  refine ⟨p, h1, ?_⟩
  rw [e2]
  exact h4
def tNVals (P : Program) (w : World) (td : TE) : TE := fun σ H Q => td σ H fun x H1 => ∃ a xs, x = .ref a ∧ H1 a = some (NDO P w a xs) ∧ ∀ p, H1 p = none → Q (.ref p) (upd H1 p (valsO p a))
theorem pe_nvals {P : Program} {w : World} (hP : X.prog = P) (hw : X.w = w) {o : Expr} {td : TE} {apos cpos : Pos} (ho : PE X o td) (hbase : attributeBase o "values" X.env (eval o X.env) = eval o X.env := by rfl) (hline : (apos.endLine == cpos.line) = true := by rfl) : PE X (.Call (.Attribute o "values" apos) [] [] cpos) (tNVals P w td) := by
  subst hP hw
  refine ⟨fun pins s σ H Q I h => ?_⟩
  refine wpAny_Call_method0_late hbase hline (thn (ho.run pins s σ H _ I h) ?_)
  rintro v s1 ⟨x, H1, I1, r1, a, xs, rfl, ha, q1⟩
  obtain rfl : v = Value.ref a := r1
  obtain ⟨hs, es, ep, raw, _⟩ := nd_raw I1 ha
  have raw' := raw
  obtain ⟨o', ho', hx', hdt'⟩ := raw'
  refine ⟨"dict", "dict.values", F.plainAttrs_dict, F.slot_dict_values, F.type_dict_values, raw.typeIs, fun b z => ⟨o', by cases z; exact ho', hx'.2.1⟩, Calls.callWith_builtin rfl (PySem.evalArgs_none ?_)⟩
  refine call_meetsIn F.slot_dict_values raw.typeIs F.entry_dict_values (F.args_dict_values_1 _) (meets_dict_values_raw a hs) ⟨⟨es, ep, raw⟩, ?_⟩
  have I2 := I1.laid (o := valsO s1.heap.objs.size a) (t' := s1.toks) (fun b u z => Heap.get?_push_of_some _ z) (Nat.le_refl _) (valsO_ok (H := upd H1 s1.heap.objs.size (valsO s1.heap.objs.size a)) (Heap.get?_push_size _ rfl))
  exact ⟨.ref _, _, I2, rfl, q1 _ (I1.hok.fresh (Nat.le_refl _))⟩
theorem preSumN {val : Nat → Int} (zs : List Int) (h : ∀ i, i < zs.length → val i = zs.getD i 0) : preSum val zs.length = zs.sum := by
  have key : ∀ n, n ≤ zs.length → preSum val n = (zs.take n).sum := by
    intro n
    induction n with
    | zero => intro _; simp [preSum]
    | succ n ih =>
      intro hn
      have hl : n < zs.length := by omega
      rw [show preSum val (n + 1) = preSum val n + val n from rfl, ih (by omega), h n hl, List.take_add_one, List.getElem?_eq_getElem hl, List.getD_eq_getElem?_getD, List.getElem?_eq_getElem hl]
      show _ + zs[n] = (List.take n zs ++ [zs[n]]).sum
      rw [List.sum_append]
      simp only [List.sum_cons, List.sum_nil, Int.add_zero]
  rw [key _ (Nat.le_refl _), List.take_length]
def rSumN (P : Program) (w : World) : List V → Hp → VK → Prop := fun vs H Q => ∃ (p a : Addr) (xs : List NE) (zs : List Int), vs = [.ref p] ∧ H p = some (valsO p a) ∧ H a = some (NDO P w a xs) ∧ xs.map (·.2.2) = zs.map V.int ∧ Q (.int zs.sum) H
theorem call_sumN {P : Program} {w : World} (hP : X.prog = P) (hw : X.w = w) (hc : X.calm = true) : CallR X (.builtin "sum") (rSumN P w) := by
  subst hP hw
  intro pins s σ H vs us Q I r h
  obtain ⟨p, a, xs, zs, rfl, hp, ha, hz, q⟩ := h
  obtain ⟨u, rfl, ru⟩ := vals1 r
  obtain rfl : u = Value.ref p := ru
  obtain ⟨hs, es, ep, raw, sz, ent⟩ := nd_raw I ha
  have hv : s.heap.IsValuesView p a := (I.hok p _ hp).1
  have zl : zs.length = es.size := by
    have := congrArg List.length hz
    rw [List.length_map, List.length_map] at this
    omega
  have la : a < s.heap.objs.size := raw.elim fun o z => Heap.lt_size z.1
  refine call_sum_walkAnyS (wpAny_pyIter_values_raw hv raw ?_)
  have rel : ∀ i v, (∃ hi : i < es.size, v = es[i].val) → ∃ t, v = .int (zs.getD i 0) t := by
    rintro i v ⟨hi, rfl⟩
    obtain ⟨x, hkv, rv⟩ := ent i hi
    have e : (xs.map (·.2.2))[i]? = some x.2.2 := by rw [List.getElem?_map, hkv]; rfl
    rw [hz, List.getElem?_map] at e
    cases e2 : zs[i]? with
    | none => rw [e2] at e; cases e
    | some z =>
      rw [e2] at e
      have e3 : V.int z = x.2.2 := Option.some.inj e
      rw [← e3] at rv
      rw [List.getD_eq_getElem?_getD, e2]
      exact rv
  refine ⟨s.heap.objs.size, [s.heap.objs.size, a], [s.heap.objs.size], _, es.size, _, _, fun i => zs.getD i 0, rfl, (Walks.rawValues (A := X.A.in1) (I.ok.hd hc) _ a (Nat.ne_of_lt la) es ep).toS, ?_, ?_, rel, ?_⟩
  · exact ⟨⟨_, Heap.get?_push_size _ rfl, rfl, rfl⟩, raw.at fun o z => Heap.get?_push_of_some _ z⟩
  · intro b hb
    show b < (s.heap.push _).objs.size
    rw [Heap.size_push]
    simp only [List.mem_cons, List.not_mem_nil, or_false] at hb
    rcases hb with rfl | rfl
    · exact Nat.lt_succ_self _
    · exact Nat.lt_succ_of_lt la
  · intro s' t' hm
    have hk : ∀ b o, s.heap.get? b = some o → s'.heap.get? b = some o := fun b o e =>
      hm.heap b o (fun hI => absurd (Heap.lt_size e) (by rw [List.mem_singleton.mp hI]; exact Nat.lt_irrefl _)) (Heap.get?_push_of_some _ e)
    rw [Moved.eq_with hm]
    refine ⟨.int zs.sum, H, I.kept (t' := s'.toks) hk, ⟨t', ?_⟩, q⟩
    rw [← zl, preSumN zs fun i _ => rfl]
end nd2
/-! ### names in order, and in groups -/
abbrev sLt (x y : Str) : Prop := x.cps.toList < y.cps.toList
abbrev Up (ns : List Str) : Prop := ns.Pairwise sLt
theorem cps_inj {x y : Str} (h : x.cps.toList = y.cps.toList) : x = y := by
  have e := Array.toList_inj.mp h
  cases x
  cases y
  subst e
  rfl
theorem sLt_irr (x : Str) : ¬ sLt x x := List.lt_irrefl _
theorem sLt_trans {x y z : Str} (h : sLt x y) (k : sLt y z) : sLt x z := List.lt_trans h k
theorem sLt_of {x y : Str} (h : ¬ sLt y x) (n : x ≠ y) : sLt x y := by
  by_cases g : sLt x y
  · exact g
  · exact absurd (cps_inj (List.le_antisymm (List.not_lt.mp h) (List.not_lt.mp g))) n
theorem up_rising : ∀ {r : List Str} {p : Str}, risingS p r = true → (p :: r).Nodup → Up (p :: r)
  | [], p, _, _ => List.pairwise_singleton _ _
  | x :: r, p, h, nd => by
    unfold risingS at h
    rw [Bool.and_eq_true, ltCps_eq] at h
    obtain ⟨h1, h2⟩ := h
    obtain ⟨n1, n2⟩ := List.nodup_cons.mp nd
    have ih := up_rising h2 n2
    have px : sLt p x := sLt_of (by simpa using h1) fun e => n1 (e ▸ List.mem_cons_self)
    refine List.pairwise_cons.mpr ⟨fun y hy => ?_, ih⟩
    rcases List.mem_cons.mp hy with rfl | hy
    · exact px
    · exact sLt_trans px ((List.pairwise_cons.mp ih).1 y hy)
theorem up_sorted {ys : List Str} (h : sortedS ys = true) (nd : ys.Nodup) : Up ys := by
  cases ys with
  | nil => exact .nil
  | cons p r => exact up_rising h nd
theorem up_uniq {ys zs : List Str} (h : ys.Perm zs) (hy : Up ys) (hz : Up zs) : ys = zs :=
  List.Perm.eq_of_pairwise (le := fun x y => sLt x y) (fun a b _ _ h1 h2 => absurd (sLt_trans h1 h2) (sLt_irr _)) hy hz h
theorem up_nodup {ys : List Str} (h : Up ys) : ys.Nodup := by
  refine List.Pairwise.imp (fun {a b} hab e => ?_) h
  subst e
  exact sLt_irr _ hab
section grp
variable {κ κ' : Type} [DecidableEq κ] [DecidableEq κ']
abbrev Gs (κ : Type) := List (κ × List Str)
def addG (gs : Gs κ) (k : κ) (t : Str) : Gs κ := if (gs.any fun g => decide (g.1 = k)) = true then gs.map (fun g => if g.1 = k then (g.1, g.2 ++ [t]) else g) else gs ++ [(k, [t])]
def grpL (lab : Str → κ) (ns : List Str) : Gs κ := ns.foldl (fun gs t => addG gs (lab t) t) []
theorem grpL_snoc (lab : Str → κ) (ns : List Str) (t : Str) : grpL lab (ns ++ [t]) = addG (grpL lab ns) (lab t) t := by
  unfold grpL
  rw [List.foldl_append]
  rfl
/-- what groups are made of -/
structure GrpOk (lab : Str → κ) (ns : List Str) (gs : Gs κ) : Prop where
  full : ∀ g ∈ gs, g.2 ≠ []
  has : ∀ g ∈ gs, ∀ t ∈ g.2, t ∈ ns ∧ lab t = g.1
  firsts : (gs.map (·.2)).Pairwise fun g h => ∃ x r y s, g = x :: r ∧ h = y :: s ∧ sLt x y
  nd : (gs.map (·.1)).Nodup
theorem addG_any {gs : Gs κ} {k : κ} : (gs.any fun g => decide (g.1 = k)) = true ↔ k ∈ gs.map (·.1) := by
  rw [List.any_eq_true, List.mem_map]
  constructor
  · rintro ⟨g, h1, h2⟩
    exact ⟨g, h1, of_decide_eq_true h2⟩
  · rintro ⟨g, h1, h2⟩
    exact ⟨g, h1, decide_eq_true h2⟩
theorem firsts_map {gs : Gs κ} {k : κ} {t : Str} (h : (gs.map (·.2)).Pairwise fun g h => ∃ x r y s, g = x :: r ∧ h = y :: s ∧ sLt x y) (_ : ∀ g ∈ gs, g.2 ≠ []) :
    ((gs.map fun g => if g.1 = k then (g.1, g.2 ++ [t]) else g).map (·.2)).Pairwise fun g h => ∃ x r y s, g = x :: r ∧ h = y :: s ∧ sLt x y := by
  rw [List.pairwise_map] at h
  rw [List.pairwise_map, List.pairwise_map]
  refine h.imp fun {g g'} e => ?_
  obtain ⟨x, r, y, s, e1, e2, lt⟩ := e
  by_cases a : g.1 = k
  · by_cases b : g'.1 = k
    · rw [if_pos a, if_pos b]
      exact ⟨x, r ++ [t], y, s ++ [t], by simp [e1], by simp [e2], lt⟩
    · rw [if_pos a, if_neg b]
      exact ⟨x, r ++ [t], y, s, by simp [e1], e2, lt⟩
  · by_cases b : g'.1 = k
    · rw [if_neg a, if_pos b]
      exact ⟨x, r, y, s ++ [t], e1, by simp [e2], lt⟩
    · rw [if_neg a, if_neg b]
      exact ⟨x, r, y, s, e1, e2, lt⟩
theorem grp_ok (lab : Str → κ) : ∀ {ns : List Str}, Up ns → GrpOk lab ns (grpL lab ns) := by
  intro ns h
  have key : ∀ i, i ≤ ns.length → GrpOk lab (ns.take i) (grpL lab (ns.take i)) := by
    intro i
    induction i with
    | zero =>
      intro _
      rw [List.take_zero]
      exact ⟨(fun _ z => nomatch z), (fun _ z => nomatch z), .nil, .nil⟩
    | succ i ih =>
      intro hi
      have ok := ih (by omega)
      have hg := List.getElem?_eq_getElem (show i < ns.length by omega)
      rw [List.take_add_one, hg]
      generalize ht : ns[i] = t at hg
      show GrpOk lab (ns.take i ++ [t]) (grpL lab (ns.take i ++ [t]))
      rw [grpL_snoc]
      unfold addG
      have later : ∀ s ∈ ns.take i, sLt s t := fun s hs => by
        obtain ⟨j, hj, e⟩ := List.mem_take_iff_getElem.mp hs
        have := List.pairwise_iff_getElem.mp h j i (by omega) (by omega) (by omega)
        rw [e, ht] at this
        exact this
      by_cases a : (((grpL lab (ns.take i)).any fun g => decide (g.1 = lab t)) = true)
      · rw [if_pos a]
        refine ⟨fun g hg => ?_, fun g hg s hs => ?_, firsts_map ok.firsts ok.full, ?_⟩
        · obtain ⟨g0, h0, rfl⟩ := List.mem_map.mp hg
          by_cases b : g0.1 = lab t
          · rw [if_pos b]
            simp
          · rw [if_neg b]
            exact ok.full _ h0
        · obtain ⟨g0, h0, rfl⟩ := List.mem_map.mp hg
          by_cases b : g0.1 = lab t
          · rw [if_pos b] at hs ⊢
            rcases List.mem_append.mp hs with hs | hs
            · exact ⟨List.mem_append_left _ (ok.has _ h0 s hs).1, (ok.has _ h0 s hs).2⟩
            · rw [List.mem_singleton.mp hs]
              exact ⟨by simp, b.symm⟩
          · rw [if_neg b] at hs ⊢
            exact ⟨List.mem_append_left _ (ok.has _ h0 s hs).1, (ok.has _ h0 s hs).2⟩
        · have : ((grpL lab (ns.take i)).map fun g => if g.1 = lab t then (g.1, g.2 ++ [t]) else g).map (·.1) = (grpL lab (ns.take i)).map (·.1) := by
            rw [List.map_map]
            refine List.map_congr_left fun g _ => ?_
            show (if g.1 = lab t then (g.1, g.2 ++ [t]) else g).1 = g.1
            by_cases b : g.1 = lab t
            · rw [if_pos b]
            · rw [if_neg b]
          rw [this]
          exact ok.nd
      · rw [if_neg a]
        refine ⟨fun g hg => ?_, fun g hg s hs => ?_, ?_, ?_⟩
        · rcases List.mem_append.mp hg with hg | hg
          · exact ok.full _ hg
          · rw [List.mem_singleton.mp hg]
            simp
        · rcases List.mem_append.mp hg with hg | hg
          · exact ⟨List.mem_append_left _ (ok.has _ hg s hs).1, (ok.has _ hg s hs).2⟩
          · rw [List.mem_singleton.mp hg] at hs ⊢
            rw [List.mem_singleton.mp hs]
            exact ⟨by simp, rfl⟩
        · rw [List.map_append, List.pairwise_append]
          refine ⟨ok.firsts, List.pairwise_singleton _ _, fun g hg g' hg' => ?_⟩
          rw [List.mem_singleton.mp hg']
          obtain ⟨g0, h0, rfl⟩ := List.mem_map.mp hg
          have hf := ok.full _ h0
          cases e : g0.2 with
          | nil => exact absurd e hf
          | cons x r => exact ⟨x, r, t, [], rfl, rfl, later x (ok.has _ h0 x (by rw [e]; exact List.mem_cons_self)).1⟩
        · rw [List.map_append, List.nodup_append]
          refine ⟨ok.nd, by simp, fun x hx y hy e => ?_⟩
          rw [List.map_singleton, List.mem_singleton] at hy
          subst e
          rw [hy] at hx
          exact a (addG_any.mpr hx)
  have := key ns.length (Nat.le_refl _)
  rw [List.take_length] at this
  exact this
theorem addG_len (gs : Gs κ) (k : κ) (t : Str) : (addG gs k t).length ≤ gs.length + 1 := by
  unfold addG
  split
  · rw [List.length_map]; omega
  · rw [List.length_append]; exact Nat.le_refl _
theorem grpL_len (lab : Str → κ) (ns : List Str) : (grpL lab ns).length ≤ ns.length := by
  have key : ∀ i, i ≤ ns.length → (grpL lab (ns.take i)).length ≤ i := by
    intro i
    induction i with
    | zero => intro _; rw [List.take_zero]; exact Nat.le_refl _
    | succ i ih =>
      intro hi
      have hg := List.getElem?_eq_getElem (show i < ns.length by omega)
      rw [List.take_add_one, hg]
      show (grpL lab (ns.take i ++ [ns[i]])).length ≤ _
      rw [grpL_snoc]
      have := addG_len (grpL lab (ns.take i)) (lab ns[i]) ns[i]
      have := ih (by omega)
      omega
  have := key ns.length (Nat.le_refl _)
  rw [List.take_length] at this
  exact this
/-- groups know of the names' labels only which are one -/
inductive GSim (lab : Str → κ) (lab' : Str → κ') (ns : List Str) : Gs κ → Gs κ' → Prop
  | nil : GSim lab lab' ns [] []
  | cons {g : κ × List Str} {g' : κ' × List Str} {gs : Gs κ} {gs' : Gs κ'} : g.2 = g'.2 → (∃ t ∈ ns, t ∈ g.2) → (∀ t ∈ g.2, t ∈ ns ∧ lab t = g.1 ∧ lab' t = g'.1) → GSim lab lab' ns gs gs' → GSim lab lab' ns (g :: gs) (g' :: gs')
theorem gsim_any {lab : Str → κ} {lab' : Str → κ'} {ns : List Str} (same : ∀ s ∈ ns, ∀ t ∈ ns, lab s = lab t ↔ lab' s = lab' t) {t : Str} (ht : t ∈ ns) : ∀ {gs : Gs κ} {gs' : Gs κ'}, GSim lab lab' ns gs gs' → (gs.any fun g => decide (g.1 = lab t)) = (gs'.any fun g => decide (g.1 = lab' t))
  | _, _, .nil => rfl
  | _, _, .cons (g := g) (g' := g') e1 e2 e3 h => by
    rw [List.any_cons, List.any_cons, gsim_any same ht h]
    congr 1
    obtain ⟨s, hs, hg⟩ := e2
    obtain ⟨_, a, b⟩ := e3 s hg
    rw [← a, ← b]
    by_cases c : lab s = lab t
    · rw [decide_eq_true c, decide_eq_true ((same s hs t ht).mp c)]
    · rw [decide_eq_false c, decide_eq_false fun z => c ((same s hs t ht).mpr z)]
theorem gsim_map {lab : Str → κ} {lab' : Str → κ'} {ns : List Str} (same : ∀ s ∈ ns, ∀ t ∈ ns, lab s = lab t ↔ lab' s = lab' t) {t : Str} (ht : t ∈ ns) : ∀ {gs : Gs κ} {gs' : Gs κ'}, GSim lab lab' ns gs gs' →
    GSim lab lab' ns (gs.map fun g => if g.1 = lab t then (g.1, g.2 ++ [t]) else g) (gs'.map fun g => if g.1 = lab' t then (g.1, g.2 ++ [t]) else g)
  | _, _, .nil => .nil
  | _, _, .cons (g := g) (g' := g') e1 e2 e3 h => by
    rw [List.map_cons, List.map_cons]
    have e2' := e2
    obtain ⟨s, hs, hg⟩ := e2
    obtain ⟨_, a, b⟩ := e3 s hg
    by_cases c : g.1 = lab t
    · have c' : g'.1 = lab' t := by
        rw [← b]
        exact (same s hs t ht).mp (a.trans c)
      rw [if_pos c, if_pos c']
      refine .cons (by show g.2 ++ [t] = g'.2 ++ [t]; rw [e1]) ⟨s, hs, List.mem_append_left _ hg⟩ (fun x hx => ?_) (gsim_map same ht h)
      rcases List.mem_append.mp hx with hx | hx
      · exact e3 x hx
      · rw [List.mem_singleton.mp hx]
        exact ⟨ht, c.symm, c'.symm⟩
    · have c' : ¬ g'.1 = lab' t := fun z => c (by
        rw [← a]
        exact (same s hs t ht).mpr (b.trans z))
      rw [if_neg c, if_neg c']
      exact .cons e1 e2' e3 (gsim_map same ht h)
theorem gsim_snoc {lab : Str → κ} {lab' : Str → κ'} {ns : List Str} {t : Str} (ht : t ∈ ns) : ∀ {gs : Gs κ} {gs' : Gs κ'}, GSim lab lab' ns gs gs' → GSim lab lab' ns (gs ++ [(lab t, [t])]) (gs' ++ [(lab' t, [t])])
  | _, _, .nil => .cons rfl ⟨t, ht, by simp⟩ (fun x hx => by rw [List.mem_singleton.mp hx]; exact ⟨ht, rfl, rfl⟩) .nil
  | _, _, .cons e1 e2 e3 h => .cons e1 e2 e3 (gsim_snoc ht h)
theorem grp_same {lab : Str → κ} {lab' : Str → κ'} {ns : List Str} (same : ∀ s ∈ ns, ∀ t ∈ ns, lab s = lab t ↔ lab' s = lab' t) : (grpL lab ns).map (·.2) = (grpL lab' ns).map (·.2) := by
  have key : ∀ i, i ≤ ns.length → GSim lab lab' ns (grpL lab (ns.take i)) (grpL lab' (ns.take i)) := by
    intro i
    induction i with
    | zero => intro _; rw [List.take_zero]; exact .nil
    | succ i ih =>
      intro hi
      have hg := List.getElem?_eq_getElem (show i < ns.length by omega)
      rw [List.take_add_one, hg]
      show GSim lab lab' ns (grpL lab (ns.take i ++ [ns[i]])) (grpL lab' (ns.take i ++ [ns[i]]))
      rw [grpL_snoc, grpL_snoc]
      have z := ih (by omega)
      have ht : ns[i] ∈ ns := List.getElem_mem _
      have e := gsim_any same ht z
      unfold addG
      by_cases a : ((grpL lab (ns.take i)).any fun g => decide (g.1 = lab ns[i])) = true
      · rw [if_pos a, if_pos (e ▸ a)]
        exact gsim_map same ht z
      · rw [if_neg a, if_neg (e ▸ a)]
        exact gsim_snoc ht z
  have := key ns.length (Nat.le_refl _)
  rw [List.take_length] at this
  clear key same
  generalize grpL lab ns = gs at this
  generalize grpL lab' ns = gs' at this
  induction this with
  | nil => rfl
  | cons e1 _ _ _ ih => rw [List.map_cons, List.map_cons, e1, ih]
end grp
/-! ### dict comprehensions with nested keys, d.get(k), sorted(d.values()) of lists of texts that stand in order -/
section ndc
variable {X : Cx}
def tNGet1 (P : Program) (w : World) (td ty : TE) : TE := fun σ H Q => td σ H fun x H1 => ∃ a xs0, x = .ref a ∧ ND P w H1 a xs0 ∧ ty σ H1 fun y H2 => ∃ xs k, ND P w H2 a xs ∧ KeyN H2 y k ∧ Q ((getN xs k).getD .non) H2
theorem pe_ndget1 {P : Program} {w : World} (hP : X.prog = P) (hw : X.w = w) {o e : Expr} {td ty : TE} {apos cpos : Pos} (hu : X.A.units + 64 < cLine) (ho : PE X o td) (he : PE X e ty) (m : M1 X o "get" apos e cpos) : PE X (.Call (.Attribute o "get" apos) [e] [] cpos) (tNGet1 P w td ty) := by
  subst hP hw
  constructor
  intro pins s σ H Q I h
  refine wpAny_Call_method m.base m.few m.line PySem.F.plainAttrs_dict PySem.F.slot_dict_get PySem.F.type_dict_get (thn (ho.run pins s σ H _ I h) ?_)
  rintro u s1 ⟨x, H1, I1, rx, a, xs0, rfl, hn1, q1⟩
  obtain rfl : u = Value.ref a := rx
  obtain ⟨_, hd1, ys1, rel1, dd1⟩ := hn1.full I1
  obtain ⟨ob, es', ep, g1, g2, _⟩ := id dd1
  refine ⟨dd1.typeIs, (fun z e => ⟨ob, by injection e with e; rw [← e]; exact g1, g2.2.1⟩), ?_⟩
  rw [m.trees]
  refine Calls.callWith_builtin rfl (Calls.evalArgs_plain (Calls.spliced_cons (thn (he.run pins s1 σ H1 _ I1 q1) ?_)))
  rintro iv s2 ⟨y, H2, I2, ry, xs, k, hn, hk, q2⟩
  refine Calls.spliced_nil ?_
  obtain ⟨b, rfl, rfl, hb⟩ := nd_at I2 hk ry
  obtain ⟨_, hd, ys, rel, dd⟩ := hn.full I2
  refine call_meetsIn PySem.F.slot_dict_get dd.typeIs PySem.F.entry_dict_get (PySem.F.args_dict_get_2 _ _) (meetsH_dict_get (nestedKind X.prog X.w) a b hd) ⟨(show X.A.in1.units + 8 < cLine by show X.A.units + 1 + 8 < cLine; omega), k, ys, hb, dd, (getN xs k).getD .non, H2, I2.tok _, ?_, q2⟩
  exact (getN_rel (k := k) rel).getD (d := V.non) (d' := Value.none) (show RelV .non .none from rfl)
/-- d[k] = v by a comprehension -/
theorem nd_dictSet {pins : List (Addr × Obj)} {σ : L2.St} {H : Hp} {s : Shared} {E : Value → Shared → Prop} {D b : Addr} {xs : List NE} {k : NestedKey} {v : V} {u r : Value} {Q : Unit → Shared → Prop} (hu : X.A.units + 64 < cLine) (I : Inv X pins σ H s) (hD : ND X.prog X.w H D xs) (hz : xs.length < sizeLine)
    (hk : KeyN H (.ref b) k) (ry : RelV (.ref b) u) (rv : RelV v r) (h : ∀ s', Inv X pins σ (upd H D (NDO X.prog X.w D (putN xs k b v))) s' → Q () s') : wpAny (model X.prog X.w) X.A (dictSet D u r) Q E s := by
  obtain ⟨_, hd, ys, rel, dd⟩ := hD.full I
  obtain ⟨b', rfl, eb, hb⟩ := nd_at I hk ry
  obtain rfl : b = b' := V.ref.inj eb
  have hzv : ys.length ≤ sizeLine := by
    have := awLen rel
    omega
  exact wpAny_dictSet_heap (knd := nestedKind X.prog X.w) (hsz := hzv) (show X.A.units + 8 < cLine by omega) hb dd fun h' dd' hs => h _ (nd_writeA I hD hz rel hd rv dd' hs)
/-- {k: v for target in iter if ..}, keys nested tuples: D the new dict -/
def tDcN (P : Program) (w : World) (wi : TI) (g : TG) (tt : TT) (tk tv : TE) (vs : List Nat) : TE := fun σ H Q => wi σ H fun J H1 => ∀ D, H1 D = none → ∃ W : Nat → Nat → Hp → Prop, (∃ m, W 0 m (upd H1 D (NDO P w D []))) ∧ ∀ i m H, W i m H →
  (J.stop i H ∧ Q (.ref D) H) ∨ (J.go i H ∧ ∃ Nx : Hp → Prop, (∀ H', Nx H' → ∃ m', m' < m ∧ W (i + 1) m' H') ∧ ∀ x H', J.yld i H x H' → g x (wipe σ vs) H' fun σ2 H2 => wipe σ2 vs = wipe σ vs ∧ tt σ2 H2 fun b H3 =>
    if b = true then tk σ2 H3 fun y H4 => tv σ2 H4 fun z H5 => ∃ xs k b, y = .ref b ∧ ND P w H5 D xs ∧ KeyN H5 (.ref b) k ∧ xs.length < sizeLine ∧ Nx (upd H5 D (NDO P w D (putN xs k b z))) else Nx H3)
theorem dcn_core {pins : List (Addr × Obj)} {s : Shared} {σ : L2.St} {H : Hp} {Q : VK} {kx vx tg iter : Expr} {ifs : List Expr} {scope : Scope} {own : List (Str × Nat)} {pos pos' : Pos} {wi : TI} {g : TG} {tt : TT} {tk tv : TE} {use : Option (Value → Sem Unit)} {Qf : Value → Shared → Prop}
    (hu : X.A.units + 64 < cLine) (hc : X.calm = true) (hN : X.N.Nodup) (I : Inv X pins σ H s) (hi : PI X tg iter wi) (ok : BlkOk X.N X.env.scope scope own)
    (hg : ∀ (s : Shared) (H : Hp) (C : Addr) (cl : List (Str × Addr)) (fp : List Addr), PG (X.blk s H scope (compEnvC scope cl C X.env) fp) tg g) (ht : ∀ (s : Shared) (H : Hp) (C : Addr) (cl : List (Str × Addr)) (fp : List Addr), PTs (X.blk s H scope (compEnvC scope cl C X.env) fp) ifs tt)
    (hk : ∀ (s : Shared) (H : Hp) (C : Addr) (cl : List (Str × Addr)) (fp : List Addr), PE (X.blk s H scope (compEnvC scope cl C X.env) fp) kx tk)
    (he : ∀ (s : Shared) (H : Hp) (C : Addr) (cl : List (Str × Addr)) (fp : List Addr), PE (X.blk s H scope (compEnvC scope cl C X.env) fp) vx tv) (hs : ∀ x, foldedSetIterable iter X.env x = pure x)
    (h : tDcN X.prog X.w wi g tt tk tv (own.map (·.2)) σ H Q)
    (hRR : ∀ D C s' m H', Inv X pins σ H' s' → Q (.ref D) H' → s'.heap.Ns C m → FpOk X pins H' C → compPost (model X.prog X.w) X.A X.xe use Qf (.ref D) C (.ok .next) s') :
    wpAny (model X.prog X.w) X.A (comprehension (.DictComp kx vx [⟨tg, iter, ifs, 0⟩] scope pos) scope X.env pos' newDict false (eval iter X.env) use) Qf X.xe s := by
  have hfree : ∀ y ∈ scope.names, y.2 = .free → ∃ c, X.env.cells.lookup y.1 = some c := fun y hy e => by
    rcases ok.free y hy e with k | k
    · exact I.ok.has _ (.inl k)
    · exact I.ok.has _ (.inr k)
  refine wpAny_comprehension_free (use := use) rfl hs (closure_ok hfree) ok.kind (fun y hy e => by rw [ok.uniq y hy, e])
    (thn (hi.run pins s σ H _ I h) fun xv s1 hx => thn hx fun itv s2 h2 => ?_)
  obtain ⟨it, fp, tn, J, H2, e, I2, T, st2, f2, q⟩ := h2
  subst e
  refine wpAny_newObj_type (newEnv_comp ?_)
  generalize hD : s2.heap.objs.size = D
  have hDn : H2 D = none := I2.hok.fresh (Nat.le_of_eq hD)
  obtain ⟨W, ⟨m0, w0⟩, turn⟩ := q D hDn
  generalize hs3 : ({ s2 with heap := s2.heap.push { cls := .type "dict", data := .dict #[] } } : Shared) = s3
  have I3 : Inv X pins σ (upd H2 D (NDO X.prog X.w D [])) s3 := by
    rw [← hs3]
    refine I2.laid (t' := s2.toks) (fun b o e => Heap.get?_push_of_some _ e) (Nat.le_of_eq hD) ?_
    rw [← hD]
    exact ndo_ok (Nat.zero_le _) (beq_eq_false_iff_ne.mpr (Ne.symm (Nat.ne_of_lt I2.big))) .nil (Heap.DictOfH.new s2.heap)
  have h3 : s3.heap = s2.heap.push { cls := .type "dict", data := .dict #[] } := by rw [← hs3]
  have sz : ∀ b ∈ fp, b < s2.heap.objs.size := fun b hb => by
    obtain ⟨o, e, _⟩ := T.obj _ _ st2 b hb
    exact Heap.lt_size e
  have f3 : ∀ b ∈ fp, FpOk X pins (upd H2 D (NDO X.prog X.w D [])) b ∧ b < s3.heap.objs.size := fun b hb => by
    have hlt := sz b hb
    refine ⟨⟨?_, (f2 b hb).2⟩, by rw [h3, Heap.size_push]; exact Nat.lt_succ_of_lt hlt⟩
    rw [upd_ne (by rw [← hD]; exact Nat.ne_of_lt hlt)]
    exact (f2 b hb).1
  have st3 : tn 0 s3.heap := T.keep _ _ _ st2 fun b _ o e => by rw [h3]; exact Heap.get?_push_of_some _ e
  have I4 := block_start I3 ok hN f3
  have pg := hg s3 (upd H2 D (NDO X.prog X.w D [])) s3.heap.objs.size (cellsFrom (s3.heap.objs.size + 1) scope.names (cloFrom X.env.cells scope.names [])) fp
  have pt := ht s3 (upd H2 D (NDO X.prog X.w D [])) s3.heap.objs.size (cellsFrom (s3.heap.objs.size + 1) scope.names (cloFrom X.env.cells scope.names [])) fp
  have pk := hk s3 (upd H2 D (NDO X.prog X.w D [])) s3.heap.objs.size (cellsFrom (s3.heap.objs.size + 1) scope.names (cloFrom X.env.cells scope.names [])) fp
  have pe := he s3 (upd H2 D (NDO X.prog X.w D [])) s3.heap.objs.size (cellsFrom (s3.heap.objs.size + 1) scope.names (cloFrom X.env.cells scope.names [])) fp
  show codeAny _ _ (.compStart (.DictComp kx vx [⟨tg, iter, ifs, 0⟩] scope pos) 0 (.ref it) (.ref D) (compEnvC scope (cellsFrom (s3.heap.objs.size + 1) scope.names (cloFrom X.env.cells scope.names [])) s3.heap.objs.size X.env)) (compPost (model X.prog X.w) X.A X.xe use Qf (.ref D) s3.heap.objs.size) { s3 with heap := pushCells (s3.heap.push { cls := .type "dict", data := .dict #[] }) scope.names }
  have nfp : ∀ b ∈ fp, (upd H2 D (NDO X.prog X.w D [])) b = none := fun b hb => (f3 b hb).1.1
  generalize hce : compEnvC scope (cellsFrom (s3.heap.objs.size + 1) scope.names (cloFrom X.env.cells scope.names [])) s3.heap.objs.size X.env = ce at I4 pg pt pk pe ⊢
  have cL : ce.locals = s3.heap.objs.size := by subst hce; rfl
  generalize hH3 : upd H2 D (NDO X.prog X.w D []) = H3 at I3 I4 pg pt pk pe w0 nfp f3
  generalize hs4 : ({ s3 with heap := pushCells (s3.heap.push { cls := .type "dict", data := .dict #[] }) scope.names } : Shared) = s4 at I4 ⊢
  have st4 : tn 0 s4.heap := T.keep _ _ _ st3 fun b _ o e => by rw [← hs4]; exact pushCells_keeps _ _ _ _ (Heap.get?_push_of_some _ e)
  have stat : ∀ {σ' : L2.St} {H' : Hp} {s' : Shared}, Inv (X.blk s3 H3 scope ce fp) [] σ' H' s' → (∀ b ∈ fp, H' b = none) → ∀ b ∈ fp, FpOk (X.blk s3 H3 scope ce fp) [] H' b := fun {σ' H' s'} I' hn b hb =>
    ⟨hn b hb, (I'.ok.exf b hb).1, I'.ok.exfs b hb, .inl hb, fun x c e => (I'.ok.exf b hb).2 x c e, fun p hp => absurd (show p ∈ ([] : List (Addr × Obj)) ++ [] from hp) (by simp)⟩
  have loop : codeAny (model X.prog X.w) X.A (.compLoop (.DictComp kx vx [⟨tg, iter, ifs, 0⟩] scope pos) 0 (.ref it) (.ref D) ce) (compPost (model X.prog X.w) X.A X.xe use Qf (.ref D) s3.heap.objs.size) s4 := by
    refine compLoop_anyD (fun n s' => ∃ i H', Inv (X.blk s3 H3 scope ce fp) [] (wipe σ (own.map (·.2))) H' s' ∧ tn i s'.heap ∧ (∀ b ∈ fp, H' b = none) ∧ W i n H') ?_ m0 ⟨0, H3, I4, st4, nfp, w0⟩
    rintro n s5 ⟨i, H5, I5, st5, n5, w5⟩
    rcases turn i n H5 w5 with ⟨stop, qq⟩ | ⟨go, Nx, hNx, step⟩
    · have td := T.done (X.blk s3 H3 scope ce fp) rfl rfl rfl hc i [] s5 _ H5 (fun _ _ => False) I5 (stat I5 n5) st5 stop
      refine thnF td fun r s6 ⟨hr, I6⟩ => ?_
      subst hr
      have I7 : Inv X pins σ H5 s6 := I3.call' (ch := fp) I6.os I6.base I6.hok I6.bare fun b hb => ⟨(f3 b hb).1.2.2.2.1, (f3 b hb).1.2.1, (f3 b hb).1.2.2.2.2.1, (f3 b hb).1.2.2.2.2.2⟩
      have nC : H5 s3.heap.objs.size = none := by
        have z : H5 ce.locals = none := I6.free
        rw [cL] at z
        exact z
      obtain ⟨m, hn, _⟩ := I6.loc
      have hn : s6.heap.Ns ce.locals m := hn
      rw [cL] at hn
      exact hRR D s3.heap.objs.size s6 m H5 I7 qq hn (I3.fpOk (Nat.le_refl _) nC)
    · have ti := T.item (X.blk s3 H3 scope ce fp) rfl rfl rfl hc i [] s5 _ H5 (fun _ _ => False) I5 (stat I5 n5) st5 go
      refine thnF ti fun r s6 ⟨u, hr, h6⟩ => ?_
      subst hr
      refine thnF h6 fun _ s7 ⟨x, H7, I7, r7, y7, st7, n7⟩ => ?_
      have I7' := I7.pinned (stat I7 n7) (T.obj _ _ st7)
      refine thnF (pg.run _ s7 _ H7 x u _ I7' r7 (step x H7 y7)) fun _ s8 ⟨σ8, H8, I8, hw8, q8⟩ => ?_
      refine thnF (pt.run _ s8 σ8 H8 _ I8 q8) fun b s9 ⟨H9, I9, q9⟩ => ?_
      have fin : ∀ {s' : Shared} {H' : Hp}, Inv (X.blk s3 H3 scope ce fp) ([] ++ pinsAt fp s7.heap) σ8 H' s' → Nx H' → ∃ m, m < n ∧ ∃ i H', Inv (X.blk s3 H3 scope ce fp) [] (wipe σ (own.map (·.2))) H' s' ∧ tn i s'.heap ∧ (∀ b ∈ fp, H' b = none) ∧ W i m H' := fun {s' H'} I' nx => by
        obtain ⟨m', hm, w'⟩ := hNx H' nx
        have pin' : ∀ b ∈ fp, ∀ o, s7.heap.get? b = some o → s'.heap.get? b = some o ∧ H' b = none := fun b hb o e =>
          let z := I'.pin (b, o) (List.mem_append_right _ (List.mem_append_right _ (mem_pinsAt hb e)))
          ⟨z.1, z.2.1⟩
        have hl : (wipe σ (own.map (·.2))).length = σ8.length := by rw [← hw8, wipe_length]
        refine ⟨m', hm, i + 1, H', (I'.unpinned (pins := [])).weak hl (fun j v e => ?_), T.keep _ _ _ st7 fun b hb o e => (pin' b hb o e).1, fun b hb => ?_, w'⟩
        · rw [← hw8] at e
          exact (wipe_some e).1
        · obtain ⟨o, e, _⟩ := T.obj _ _ st7 b hb
          exact (pin' b hb o e).2
      cases b with
      | false =>
        simp only [Bool.false_eq_true, if_false] at q9 ⊢
        exact fin I9 q9
      | true =>
        simp only [if_true] at q9 ⊢
        refine thnF (pk.run _ s9 σ8 H9 _ I9 q9) fun z s10 ⟨yk, H10, I10, r10, q10⟩ => ?_
        refine thnF (pe.run _ s10 σ8 H10 _ I10 q10) fun z2 s11 ⟨yv, H11, I11, r11, xs, k, b, ek, hD11, hk11, hz11, nx⟩ => ?_
        subst ek
        exact nd_dictSet (X := X.blk s3 H3 scope ce fp) hu I11 hD11 hz11 hk11 r10 r11 fun s12 I12 => fin I12 nx
  exact codeAny_compStart_dict loop (T.self X.A 0 _ _ _ st4 loop)
/-- as a value -/
theorem pe_dcN {P : Program} {w : World} (hP : X.prog = P) (hw : X.w = w) {kx vx tg iter : Expr} {ifs : List Expr} {scope : Scope} {own : List (Str × Nat)} {pos : Pos} {wi : TI} {g : TG} {tt : TT} {tk tv : TE} (hu : X.A.units + 64 < cLine) (hc : X.calm = true) (hN : X.N.Nodup) (hi : PI X tg iter wi) (ok : BlkOk X.N X.env.scope scope own)
    (hg : ∀ (s : Shared) (H : Hp) (C : Addr) (cl : List (Str × Addr)) (fp : List Addr), PG (X.blk s H scope (compEnvC scope cl C X.env) fp) tg g) (ht : ∀ (s : Shared) (H : Hp) (C : Addr) (cl : List (Str × Addr)) (fp : List Addr), PTs (X.blk s H scope (compEnvC scope cl C X.env) fp) ifs tt)
    (hk : ∀ (s : Shared) (H : Hp) (C : Addr) (cl : List (Str × Addr)) (fp : List Addr), PE (X.blk s H scope (compEnvC scope cl C X.env) fp) kx tk)
    (he : ∀ (s : Shared) (H : Hp) (C : Addr) (cl : List (Str × Addr)) (fp : List Addr), PE (X.blk s H scope (compEnvC scope cl C X.env) fp) vx tv) (hs : ∀ x, foldedSetIterable iter X.env x = pure x := by intro _; rfl) :
    PE X (.DictComp kx vx [⟨tg, iter, ifs, 0⟩] scope pos) (tDcN P w wi g tt tk tv (own.map (·.2))) := by
  subst hP hw
  refine ⟨fun pins s σ H Q I h => ?_⟩
  rw [arm_eval_DictComp]
  refine dcn_core hu hc hN I hi ok hg ht hk he hs h fun D C s' m H' I' q hn f => ⟨m, hn, fun h'' sb => ?_⟩
  obtain ⟨f0, f1, f2, f3, f4, f5⟩ := f
  exact ⟨.ref D, H', I'.turned (t' := s'.toks) (fun b o hb e => (sb.2 b hb).trans e) f0 f1 f3 f4 f5, rfl, q⟩
/-! sorted(d.values()) -/
theorem prOf {α β : Type} {F : α → β → Prop} : ∀ {l : List α} {k : List β}, l.length = k.length → (∀ (i : Nat) (x : α) (y : β), l[i]? = some x → k[i]? = some y → F x y) → Paired F l k
  | [], [], _, _ => .nil
  | x :: l, y :: k, h, f => .cons (f 0 x y rfl rfl) (prOf (by simpa using h) fun i x y h1 h2 => f (i + 1) x y (by simpa using h1) (by simpa using h2))
  | [], _ :: _, h, _ => by simp at h
  | _ :: _, [], h, _ => by simp at h
abbrev Firsts (gs : List (List Str)) : Prop := gs.Pairwise fun g h => ∃ x r y s, g = x :: r ∧ h = y :: s ∧ sLt x y
theorem alike_strs : ∀ xs ys : List Str, PySem.W.alikeAll (xs.map .str) (ys.map .str) = true
  | [], _ => by simp [PySem.W.alikeAll]
  | _ :: _, [] => by simp [PySem.W.alikeAll]
  | x :: xs, y :: ys => by
    show PySem.W.alikeAll (.str x :: xs.map .str) (.str y :: ys.map .str) = true
    rw [PySem.W.alikeAll, alike_strs xs ys]
    simp [PySem.W.alike]
theorem depth_strs : ∀ xs : List Str, PyData.depthAll (xs.map .str) = 0
  | [] => by simp [PyData.depthAll]
  | x :: xs => by
    show PyData.depthAll (.str x :: xs.map .str) = 0
    rw [PyData.depthAll, depth_strs xs]
    simp [PyData.depth]
theorem firsts_lt {g h : List Str} (e : ∃ x r y s, g = x :: r ∧ h = y :: s ∧ sLt x y) : PySem.W.dataLt (.list (h.map .str)) (.list (g.map .str)) = false := by
  obtain ⟨x, r, y, s, rfl, rfl, lt⟩ := e
  rw [PySem.W.dataLt_list, List.map_cons, List.map_cons, PySem.W.dataLt_cons (by simp [PySem.W.alike]), PySem.W.dataLt_str]
  have ne : ¬ y = x := fun z => by
    subst z
    exact sLt_irr _ lt
  rw [if_neg (by simp [PyData.eqv, ne])]
  exact decide_eq_false fun z => sLt_irr _ (sLt_trans lt z)
theorem strs_reads {prog : Program} {w : World} {h : Heap} : ∀ {us : List Value} {g : List Str}, Vals (g.map V.str) us → ReadsAll h us (g.map .str) []
  | _, [], .nil => .nil
  | _, x :: g, .cons r t => by
    obtain ⟨tk, rfl⟩ := r
    exact ReadsAll.cons (as := []) (Reads.str x tk) (strs_reads (prog := prog) (w := w) t)
def rSortedVN (P : Program) (w : World) : List V → Hp → VK → Prop := fun vs H Q => ∃ (p a : Addr) (xs : List NE) (gs : List (List Str)), vs = [.ref p] ∧ H p = some (valsO p a) ∧ H a = some (NDO P w a xs) ∧
  Paired (fun (e : NE) (g : List Str) => ∃ q, e.2.2 = .ref q ∧ H q = some (.lst (g.map V.str))) xs gs ∧ Firsts gs ∧ gs.length ≤ 100000 ∧ ∀ L, H L = none → Q (.ref L) (upd H L (.lst (xs.map (·.2.2))))
theorem each_zip {α β : Type} {R : α → β → Prop} : ∀ {l : List α} {k : List β}, Paired R l k → PySem.W.EachIs (fun a (b : β × α) => a = b.2 ∧ R a b.1) l (k.zip l)
  | _, _, .nil => .nil
  | _, _, .cons h t => .cons ⟨rfl, h⟩ (each_zip t)
theorem each_imp {α β : Type} {R S : α → β → Prop} (f : ∀ a b, R a b → S a b) : ∀ {l : List α} {k : List β}, PySem.W.EachIs R l k → PySem.W.EachIs S l k
  | _, _, .nil => .nil
  | _, _, .cons h t => .cons (f _ _ h) (each_imp f t)
theorem each_snd {α β : Type} : ∀ {l : List α} {k : List (β × α)}, PySem.W.EachIs (fun a (b : β × α) => a = b.2) l k → l = k.map (·.2)
  | _, _, .nil => rfl
  | _, _, .cons h t => by rw [List.map_cons, ← h, ← each_snd t]
theorem call_sortedVN {P : Program} {w : World} (hP : X.prog = P) (hw : X.w = w) (hc : X.calm = true) (hu : X.A.units + 64 < cLine) : CallR X (.builtin "sorted") (rSortedVN P w) := by
  subst hP hw
  intro pins s σ H vs us Q I r h
  obtain ⟨p, a, xs, gs, rfl, hp, ha, hg, ho, h1000, q⟩ := h
  obtain ⟨u, rfl, ru⟩ := vals1 r
  obtain rfl : u = Value.ref p := ru
  obtain ⟨hs, es, ep, raw, sz, ent⟩ := nd_raw I ha
  have hv : s.heap.IsValuesView p a := (I.hok p _ hp).1
  have lg := awLen hg
  have hz : es.size ≤ sizeLine := by rw [sizeLine_eq]; omega
  refine Calls.call_function_entry PyProof.Rows.kind_sorted PyProof.Rows.plain_sorted PyProof.Rows.entry_sorted (PyProof.Rows.args_sorted1 _) ?_
  unfold Builtin.«sorted»
  refine wpAny_bind (m := checkCount "sorted" 1 1 _) (wpAny_pure ?_)
  refine wpAny_bind (PySem.W.kdu_collect (A := X.A.in1) (PySem.KdlSrc.rawValues (es := es) (ep := ep)) (I.ok.hd hc) ⟨hv, raw⟩ hz fun h' tk acc hk hacc => ?_)
  have hal : acc.toList.length = es.size := by rw [Array.length_toList, hacc.1]
  have I1 : Inv X pins σ H { s with heap := h', toks := tk } := I.kept hk
  -- the values, each with what it is
  have rvs : Paired RelV (xs.map (·.2.2)) acc.toList := by
    refine prOf (by rw [List.length_map]; omega) fun i x u hx hu => ?_
    obtain ⟨hi, rfl⟩ := hacc.2 i u (by rw [← Array.getElem?_toList]; exact hu)
    obtain ⟨e, he, re⟩ := ent i hi
    rw [List.getElem?_map, he] at hx
    obtain rfl := Option.some.inj hx
    exact re
  have pr : Paired (fun (u : Value) (g : List Str) => ∃ q, u = .ref q ∧ H q = some (.lst (g.map V.str))) acc.toList gs := by
    refine prOf (by omega) fun i u g hu hgi => ?_
    obtain ⟨e, he, q', e1, e2⟩ := awGet2 hg hgi
    obtain ⟨u', hu', ru'⟩ := awGet rvs (show (xs.map (·.2.2))[i]? = some e.2.2 by rw [List.getElem?_map, he]; rfl)
    rw [hu] at hu'
    obtain rfl := Option.some.inj hu'
    rw [e1] at ru'
    exact ⟨q', ru', e2⟩
  refine wpAny_bind (wpAny_newList ?_ (by rw [hal]; exact hz))
  generalize hh2 : h'.push (seqObj "list" acc.toList.toArray 0) = h2
  have hoL : h2.get? h'.objs.size = some (seqObj "list" acc.toList.toArray 0) := by rw [← hh2]; exact Heap.get?_push_size _ rfl
  have k2 : ∀ b o, h'.get? b = some o → h2.get? b = some o := fun b o e => by rw [← hh2]; exact Heap.get?_push_of_some _ e
  show wpAny _ _ _ _ _ { s with heap := h2, toks := tk }
  have ez := each_zip pr
  have el : (gs.zip acc.toList).length = es.size := by rw [List.length_zip]; omega
  have srt : (gs.zip acc.toList).mergeSort (PySem.W.dataLe false fun b : List Str × Value => .list (b.1.map .str)) = gs.zip acc.toList := by
    refine List.mergeSort_of_pairwise ?_
    rw [PySem.W.dataLe_eq]
    have hf : (gs.zip acc.toList).map (·.1) = gs := List.map_fst_zip (by omega)
    have ho' : ((gs.zip acc.toList).map (·.1)).Pairwise fun g h => ∃ x r y s, g = x :: r ∧ h = y :: s ∧ sLt x y := by rw [hf]; exact ho
    rw [List.pairwise_map] at ho'
    refine ho'.imp fun {b b'} e => ?_
    show (!PySem.W.dataLt _ _) = true
    rw [firsts_lt e]
    rfl
  refine wpAny_bind (wpAny_holding (PySem.W.list_sort_data (s := { s with heap := h2, toks := tk }) (enc := fun b : List Str × Value => .list (b.1.map .str)) (bs := gs.zip acc.toList) (R := fun v b => v = b.2) hoL (each_imp (fun _ _ e => e.1) ez) (each_imp (fun u b e => ?_) ez) (.of fun b b' => ?_) (.others fun b => ⟨(fun z => nomatch z), (fun _ z => nomatch z)⟩) (by rw [el]; exact hz) (fun b _ => ?_) fun out hl eo => ?_))
  · obtain ⟨_, q', e1, e2⟩ := e
    subst e1
    obtain ⟨_, its, n, rv, hob⟩ := (show ObjOk X.prog X.w H _ q' (.lst (b.1.map V.str)) from I1.hok q' _ e2)
    refine ⟨_, Reads.list (k2 _ _ hob) rfl rfl (by simpa using strs_reads (prog := X.prog) (w := X.w) (h := h2) rv), ?_⟩
    rw [List.mem_singleton]
    exact (Nat.ne_of_lt (Heap.lt_size hob)).symm
  · show PySem.W.alike (.list _) (.list _) = true
    rw [PySem.W.alike]
    exact alike_strs _ _
  · show X.A.in1.units + 1 + PyData.depth (.list _) < cLine
    rw [PyData.depth, depth_strs]
    show X.A.units + 1 + 1 + _ < cLine
    omega
  · rw [srt] at eo
    have eout : out = acc.toList := by
      rw [each_snd eo]
      exact List.map_snd_zip (by omega)
    subst eout
    obtain ⟨e', he'⟩ := PyProof.Rows.sortedHeap_at (vs := acc.toList) (out := acc.toList.toArray) hoL
    have hlen : (xs.map (·.2.2)).length ≤ sizeLine := by rw [List.length_map, sizeLine_eq]; omega
    refine wpAny_pure ⟨_, rfl, .ref h'.objs.size, upd H h'.objs.size (.lst (xs.map (·.2.2))), I1.laid (t' := tk) (fun b u e => ?_) (Nat.le_refl _)
      (show ObjOk X.prog X.w _ _ _ (.lst (xs.map (·.2.2))) from ⟨hlen, acc.toList, e', rvs, he'⟩), rfl, q _ (I1.hok.fresh (Nat.le_refl _))⟩
    have hb : b < h'.objs.size := Heap.lt_size e
    rw [PyProof.Rows.sortedHeap_old (Nat.ne_of_lt hb) (by rw [← hh2, size_push']; exact Nat.lt_succ_of_lt hb)]
    exact k2 _ _ e
end ndc
/-! ### the class Walk -/
abbrev sWalk___init__ : Stmt := inClass c_Walk 0
abbrev sWalk_meet : Stmt := inClass c_Walk 1
theorem scWi : FnScope ["self", "first"] ["self", "first"] (defScope sWalk___init__) := ⟨rfl, rfl, rfl, by decide +kernel, rfl, by decide +kernel, by decide +kernel⟩
theorem scWm : FnScope ["self", "thing", "ahead", "bits"] ["self", "thing", "ahead", "bits"] (defScope sWalk_meet) := ⟨rfl, rfl, rfl, by decide +kernel, rfl, by decide +kernel, by decide +kernel⟩
theorem w_mn : ¬ ("met" : Str) = "numbers" := by decide +kernel
theorem w_mw : ¬ ("met" : Str) = "ways" := by decide +kernel
theorem w_nw : ¬ ("numbers" : Str) = "ways" := by decide +kernel
def wF (M N W : Addr) : List (Str × V) := putF "ways" (.ref W) (putF "numbers" (.ref N) (putF "met" (.ref M) []))
theorem wF_met (M N W : Addr) : (wF M N W).lookup ("met" : Str) = some (.ref M) := by
  unfold wF
  rw [lookup_putF, if_neg w_mw, lookup_putF, if_neg w_mn, lookup_putF, if_pos rfl]
theorem wF_num (M N W : Addr) : (wF M N W).lookup ("numbers" : Str) = some (.ref N) := by
  unfold wF
  rw [lookup_putF, if_neg w_nw, lookup_putF, if_pos rfl]
theorem wF_ways (M N W : Addr) : (wF M N W).lookup ("ways" : Str) = some (.ref W) := by
  unfold wF
  rw [lookup_putF, if_pos rfl]
theorem wF_no (M N W : Addr) {m : Str} (h1 : ¬ m = "ways") (h2 : ¬ m = "numbers") (h3 : ¬ m = "met") : (wF M N W).lookup m = none := by
  unfold wF
  rw [lookup_putF, if_neg h1, lookup_putF, if_neg h2, lookup_putF, if_neg h3]
  rfl
theorem wF_meet (M N W : Addr) : (wF M N W).lookup ("meet" : Str) = none := wF_no M N W (by decide +kernel) (by decide +kernel) (by decide +kernel)
structure WCls (K : PySem.W.Frag) (mg : Str → Option Value) (C : Addr) : Prop where
  cl : Cls K C
  nM : NoAttr K C "met"
  nN : NoAttr K C "numbers"
  nW : NoAttr K C "ways"
  mgC : mg "Walk" = some (.ref C)
abbrev WT := NestedKey × Addr
def numE (ts : List WT) : List NE := ts.mapIdx fun i t => (t.1, t.2, .int (i : Nat))
theorem numE_snoc (ts : List WT) (t : WT) : numE (ts ++ [t]) = numE ts ++ [(t.1, t.2, .int (ts.length : Nat))] := by
  unfold numE
  rw [List.mapIdx_append]
  simp
theorem numE_len (ts : List WT) : (numE ts).length = ts.length := List.length_mapIdx ..
theorem numE_mem {ts : List WT} {e : NE} (h : e ∈ numE ts) : ∃ i t, ts[i]? = some t ∧ e = (t.1, t.2, .int (i : Nat)) := by
  obtain ⟨i, hi, rfl⟩ := List.mem_mapIdx.mp h
  exact ⟨i, ts[i], List.getElem?_eq_getElem hi, rfl⟩
theorem numE_none {ts : List WT} {k : NestedKey} (h : ∀ t ∈ ts, t.1 ≠ k) : getN (numE ts) k = none := by
  rw [getN_none]
  intro e he
  obtain ⟨i, t, ht, rfl⟩ := numE_mem he
  exact h t (List.mem_of_getElem? ht)
theorem numE_some {ts : List WT} {i : Nat} {k : NestedKey} {b : Addr} (nd : (ts.map (·.1)).Nodup) (h : ts[i]? = some (k, b)) : getN (numE ts) k = some (.int (i : Nat)) := by
  cases e : getN (numE ts) k with
  | none =>
    exfalso
    have hi := (List.getElem?_eq_some_iff.mp h).1
    have := getN_none.mp e (k, b, .int (i : Nat)) (List.mem_mapIdx.mpr ⟨i, hi, by rw [List.getElem?_eq_getElem hi] at h; rw [Option.some.inj h]⟩)
    exact this rfl
  | some v =>
    obtain ⟨c, hc⟩ := getN_some e
    obtain ⟨j, t, ht, he⟩ := numE_mem hc
    have e1 : t.1 = k := (Prod.mk.inj he).1.symm
    have e2 : v = .int (j : Nat) := (Prod.mk.inj (Prod.mk.inj he).2).2
    have ij : i = j := by
      have a1 : (ts.map (·.1))[i]? = some k := by rw [List.getElem?_map, h]; rfl
      have a2 : (ts.map (·.1))[j]? = some k := by rw [List.getElem?_map, ht, ← e1]; rfl
      exact (List.getElem?_inj (List.getElem?_eq_some_iff.mp a1).1 nd).mp (a1.trans a2.symm)
    rw [e2, ij]
abbrev WayAt (H : Hp) : List Addr → List (Int × List Int) → Prop := Paired fun q e => ∃ bb, H q = some (.tup [.int e.1, .ref bb]) ∧ H bb = some (.tup (e.2.map V.int))
structure WalkAt (P : Program) (w : World) (C : Addr) (H : Hp) (p M N W : Addr) (ts : List WT) (wy : List (Int × List Int)) : Prop where
  ob : ∃ dx, H p = some (.ins C dx (wF M N W))
  met : H M = some (.lst (ts.map fun t => V.ref t.2))
  num : ND P w H N (numE ts)
  ways : ∃ ws, H W = some (.lst (ws.map V.ref)) ∧ WayAt H ws wy
  nd : (ts.map (·.1)).Nodup
  keys : ∀ t ∈ ts, KeyN H (.ref t.2) t.1
  len : wy.length = ts.length
  nMW : M ≠ W
theorem keyn_stay {H H' : Hp} (t : TupsStay H H') {y : V} {k : NestedKey} (h : KeyN H y k) : KeyN H' y k := ⟨nk_stay t _ _ h.1, h.2⟩
theorem WalkAt.stay {C : Addr} {H H' : Hp} {p M N W : Addr} {ts : List WT} {wy : List (Int × List Int)} (h : WalkAt P w C H p M N W ts wy) (t : TupsStay H H') (k : ∀ c o, (c = p ∨ c = M ∨ c = N ∨ c = W) → H c = some o → H' c = some o) : WalkAt P w C H' p M N W ts wy := by
  obtain ⟨⟨dx, ob⟩, met, num, ⟨ws, e1, e2⟩, nd, keys, len, ne⟩ := h
  exact ⟨⟨dx, k _ _ (.inl rfl) ob⟩, k _ _ (.inr (.inl rfl)) met, nd_stay num (k _ _ (.inr (.inr (.inl rfl))) num.ob) t, ⟨ws, k _ _ (.inr (.inr (.inr rfl))) e1, awMap (fun q e z => z.elim fun bb y => ⟨bb, t _ _ y.1, t _ _ y.2⟩) e2⟩, nd, fun x hx => keyn_stay t (keys x hx), len, ne⟩
theorem WalkAt.same {C : Addr} {H H' : Hp} {p M N W : Addr} {ts : List WT} {wy : List (Int × List Int)} (h : WalkAt P w C H p M N W ts wy) (s : Same H H') : WalkAt P w C H' p M N W ts wy := h.stay (Same.tups s) fun c o _ e => s c o e
def spWi (P : Program) (w : World) (C : Addr) : Sp := fun vs H Q _ => ∃ (p dx b : Addr) (k : NestedKey), vs = [.ref p, .ref b] ∧ H p = some (.ins C dx []) ∧ KeyN H (.ref b) k ∧
  ∀ H' M N W, WalkAt P w C H' p M N W [(k, b)] [(0, [])] → H M = none → H N = none → H W = none → (∀ c o, c ≠ p → H c = some o → H' c = some o) → Q .non H'
theorem ok_wi {f C : Addr} {fd : FuncData} {k : Nat} (F : Fun K "__init__" "Walk.__init__" sWalk___init__ f fd) (T : WCls K mg C) : FnOk P w K mg base CX0 (k + 1) f fd ["self", "first"] (spWi P w C) := by
  refine F.ok scWi (fun vs H Q E h => ?_) (fun cdv A outer s H vs Q E hr h => ?_)
  · obtain ⟨p, dx, b, k, rfl, _⟩ := h
    rfl
  · obtain ⟨p, dx, b, key, rfl, hp, hk, q⟩ := h
    refine ⟨_, pss_cons (ps_fld (pv 0) (pe_lst (pa_cons (pv 1) pa_nil)) rfl)
      (pss_cons (ps_fld (pv 0) (pe_ndisp (P := P) (w := w) rfl rfl hr.units (pv 1) pe_int) rfl)
      (pss_one (ps_fld (pv 0) (pe_lst (pa_cons (pe_tup (pa_cons pe_int (pa_cons (pe_tup pa_nil) pa_nil))) pa_nil)) rfl))), ?_⟩
    refine ⟨.ref b, rfl, by show 1 ≤ sizeLine; decide, fun M hM => ?_⟩
    have sM := same_new (o := .lst [.ref b]) hM
    have npM : p ≠ M := ne_of_none hp hM
    refine ⟨.ref p, rfl, p, C, dx, [], rfl, sM _ _ hp, T.cl, T.nM, (by show 0 < 1000; decide), ?_⟩
    -- the heap with met
    have t1 : TupsStay H (upd (upd H M (.lst [.ref b])) p (.ins C dx (putF "met" (.ref M) []))) := fun c xs e => by
      rw [upd_ne (ne_of e hp (fun z => nomatch z))]
      exact sM _ _ e
    have k1 : ∀ c o, c ≠ p → H c = some o → upd (upd H M (.lst [.ref b])) p (.ins C dx (putF "met" (.ref M) [])) c = some o := fun c o n e => by
      rw [upd_ne n]
      exact sM _ _ e
    have ep1 : upd (upd H M (.lst [.ref b])) p (.ins C dx (putF "met" (.ref M) [])) p = some (.ins C dx (putF "met" (.ref M) [])) := upd_same
    have eM1 : upd (upd H M (.lst [.ref b])) p (.ins C dx (putF "met" (.ref M) [])) M = some (.lst [.ref b]) := by
      rw [upd_ne npM.symm]
      exact upd_same
    generalize upd (upd H M (.lst [.ref b])) p (.ins C dx (putF "met" (.ref M) [])) = H1 at t1 k1 ep1 eM1
    intro N hN
    have sN := same_new (o := NDO P w N []) hN
    have npN : p ≠ N := ne_of_none ep1 hN
    have nMN : M ≠ N := ne_of_none eM1 hN
    refine ⟨.ref b, rfl, b, key, rfl, keyn_stay (t1.trans (Same.tups sN)) hk, upd_same, ?_⟩
    rw [upd_upd]
    have sN2 := same_new (o := NDO P w N [(key, b, .int 0)]) hN
    refine ⟨.ref p, rfl, p, C, dx, _, rfl, sN2 _ _ ep1, T.cl, T.nN, (by show 1 < 1000; decide), ?_⟩
    have k2 : ∀ c o, c ≠ p → H1 c = some o → upd (upd H1 N (NDO P w N [(key, b, .int 0)])) p (.ins C dx (putF "numbers" (.ref N) (putF "met" (.ref M) []))) c = some o := fun c o n e => by
      rw [upd_ne n]
      exact sN2 _ _ e
    have t2 : TupsStay H1 (upd (upd H1 N (NDO P w N [(key, b, .int 0)])) p (.ins C dx (putF "numbers" (.ref N) (putF "met" (.ref M) [])))) := fun c xs e => k2 c _ (ne_of e ep1 (fun z => nomatch z)) e
    have ep2 : upd (upd H1 N (NDO P w N [(key, b, .int 0)])) p (.ins C dx (putF "numbers" (.ref N) (putF "met" (.ref M) []))) p = some (.ins C dx (putF "numbers" (.ref N) (putF "met" (.ref M) []))) := upd_same
    have eN2 : upd (upd H1 N (NDO P w N [(key, b, .int 0)])) p (.ins C dx (putF "numbers" (.ref N) (putF "met" (.ref M) []))) N = some (NDO P w N [(key, b, .int 0)]) := by
      rw [upd_ne npN.symm]
      exact upd_same
    generalize upd (upd H1 N (NDO P w N [(key, b, .int 0)])) p (.ins C dx (putF "numbers" (.ref N) (putF "met" (.ref M) []))) = H2 at k2 t2 ep2 eN2
    have eM2 := k2 _ _ npM.symm eM1
    refine ⟨by show 0 ≤ sizeLine; decide, fun E0 hE0 => ⟨by show 2 ≤ sizeLine; decide, fun T0 hT0 => ⟨by show 1 ≤ sizeLine; decide, fun W hW => ?_⟩⟩⟩
    have s1 := same_new (o := .tup []) hE0
    have s2 := same_new (o := .tup [.int 0, .ref E0]) hT0
    have s3 := same_new (o := .lst [.ref T0]) hW
    have s123 := (s1.trans s2).trans s3
    have npW : p ≠ W := ne_of_none ((s1.trans s2) _ _ ep2) hW
    have nMW : M ≠ W := ne_of_none ((s1.trans s2) _ _ eM2) hW
    have nNW : N ≠ W := ne_of_none ((s1.trans s2) _ _ eN2) hW
    refine ⟨.ref p, rfl, p, C, dx, _, rfl, s123 _ _ ep2, T.cl, T.nW, (by show 2 < 1000; decide), ?_⟩
    have k3 : ∀ c o, c ≠ p → H2 c = some o → upd (upd (upd (upd H2 E0 (.tup [])) T0 (.tup [.int 0, .ref E0])) W (.lst [.ref T0])) p (.ins C dx (putF "ways" (.ref W) (putF "numbers" (.ref N) (putF "met" (.ref M) [])))) c = some o := fun c o n e => by
      rw [upd_ne n]
      exact s123 _ _ e
    have t3 : TupsStay H2 (upd (upd (upd (upd H2 E0 (.tup [])) T0 (.tup [.int 0, .ref E0])) W (.lst [.ref T0])) p (.ins C dx (putF "ways" (.ref W) (putF "numbers" (.ref N) (putF "met" (.ref M) []))))) := fun c xs e => k3 c _ (ne_of e ep2 (fun z => nomatch z)) e
    have tA := (t1.trans t2).trans t3
    refine q _ M N W ⟨⟨dx, upd_same⟩, k3 _ _ npM.symm eM2, ⟨k3 _ _ npN.symm eN2, fun e he => ?_⟩, ⟨[T0], ?_, .cons ⟨E0, ?_, ?_⟩ .nil⟩, by simp, fun x hx => ?_, rfl, nMW⟩ hM ?_ ?_ fun c o n e => k3 c o n (k2 c o n (k1 c o n e))
    · rw [List.mem_singleton.mp he]
      exact ⟨nk_stay tA _ _ hk.1, hk.2.1⟩
    · rw [upd_ne npW.symm]
      exact upd_same
    · have : T0 ≠ p := fun z => by rw [z] at hT0; rw [s1 _ _ ep2] at hT0; cases hT0
      rw [upd_ne this]
      exact s3 _ _ upd_same
    · have : E0 ≠ p := fun z => by rw [z, ep2] at hE0; cases hE0
      rw [upd_ne this]
      exact s3 _ _ (s2 _ _ upd_same)
    · rw [List.mem_singleton.mp hx]
      exact keyn_stay tA hk
    · cases e : H N with
      | none => rfl
      | some o =>
        by_cases z : N = p
        · exact absurd z npN.symm
        · rw [k1 _ _ z e] at hN
          cases hN
    · cases e : H W with
      | none => rfl
      | some o =>
        by_cases z : W = p
        · exact absurd z npW.symm
        · rw [(s1.trans s2) _ _ (k2 _ _ z (k1 _ _ z e))] at hW
          cases hW
def spWm (P : Program) (w : World) (C : Addr) : Sp := fun vs H Q _ => ∃ (p M N W b bb : Addr) (ts : List WT) (wy : List (Int × List Int)) (k : NestedKey) (ah : Int) (bs : List Int), vs = [.ref p, .ref b, .int ah, .ref bb] ∧ WalkAt P w C H p M N W ts wy ∧ KeyN H (.ref b) k ∧ H bb = some (.tup (bs.map V.int)) ∧ ts.length ≤ 1000000 ∧
  ∀ H' ts' wy' i, WalkAt P w C H' p M N W ts' wy' → (∃ b', ts'[i]? = some (k, b')) → ((ts' = ts ∧ wy' = wy) ∨ (ts' = ts ++ [(k, b)] ∧ wy' = wy ++ [(ah, bs)] ∧ i = ts.length ∧ ∀ t ∈ ts, t.1 ≠ k)) → (∀ c o, c ≠ M → c ≠ N → c ≠ W → H c = some o → H' c = some o) → Q (.int (i : Nat)) H'
theorem ok_wm {f C : Addr} {fd : FuncData} {k : Nat} (F : Fun K "meet" "Walk.meet" sWalk_meet f fd) (T : WCls K mg C) (mn : mg "len" = none) : FnOk P w K mg base CX0 (k + 1) f fd ["self", "thing", "ahead", "bits"] (spWm P w C) := by
  refine F.ok scWm (fun vs H Q E h => ?_) (fun cdv A outer s H vs Q E hr h => ?_)
  · obtain ⟨p, M, N, W, b, bb, ts, wy, k, ah, bs, rfl, _⟩ := h
    rfl
  · obtain ⟨p, M, N, W, b, bb, ts, wy, key, ah, bs, rfl, hw, hk, hbb, hl, q⟩ := h
    refine ⟨_, pss_mid (ps_if (pt_cmp (pc_ndnotin (P := P) (w := w) rfl rfl hr.units (pv 1) (pe_fld (pv 0) rfl)))
        (pss_cons (ps_ndput (P := P) (w := w) rfl rfl hr.units (pe_fld (pv 0) rfl) (pv 1) (pe_callB call_len_seq (by rfl) mn PySem.boot_len (pa_cons (pe_fld (pv 0) rfl) pa_nil)) rfl)
        (pss_cons (ps_expr (pe_bm PySem.F.plainAttrs_list PySem.F.slot_list_append PySem.F.type_list_append mt_append (pe_fld (pv 0) rfl) (pa_cons (pv 1) pa_nil)))
        (pss_one (ps_expr (pe_bm PySem.F.plainAttrs_list PySem.F.slot_list_append PySem.F.type_list_append mt_append (pe_fld (pv 0) rfl) (pa_cons (pe_tup (pa_cons (pv 2) (pa_cons (pv 3) pa_nil))) pa_nil)))))) pss_nil)
      (pss_one (ps_ret (pe_ndget (P := P) (w := w) rfl rfl hr.units (pe_fld (pv 0) rfl) (pv 1) (fun _ _ => rfl)))), ?_⟩
    obtain ⟨⟨dx, ob⟩, met, num, ⟨ws, ways, wat⟩, nd, keys, len, nMW⟩ := id hw
    have npM : p ≠ M := ne_of ob met (fun z => nomatch z)
    have npN : p ≠ N := ne_of ob num.ob (fun z => nomatch z)
    have npW : p ≠ W := ne_of ob ways (fun z => nomatch z)
    have nMN : M ≠ N := ne_of met num.ob (fun z => nomatch z)
    have nNW : N ≠ W := ne_of num.ob ways (fun z => nomatch z)
    have sl : (1000000 : Nat) < sizeLine := by rw [sizeLine_eq]; decide
    refine ⟨fun σ2 H2 => ∃ ts' wy' i, σ2 = [some (.ref p), some (.ref b), some (.int ah), some (.ref bb)] ∧ WalkAt P w C H2 p M N W ts' wy' ∧ (∃ b', ts'[i]? = some (key, b')) ∧ ((ts' = ts ∧ wy' = wy) ∨ (ts' = ts ++ [(key, b)] ∧ wy' = wy ++ [(ah, bs)] ∧ i = ts.length ∧ ∀ t ∈ ts, t.1 ≠ key)) ∧ (∀ c o, c ≠ M → c ≠ N → c ≠ W → H c = some o → H2 c = some o), ?_, ?_⟩
    · refine ⟨.ref b, rfl, .ref p, rfl, p, C, dx, _, _, rfl, ob, T.cl, T.nN, wF_num _ _ _, N, _, key, rfl, num, hk, _, rfl, ?_⟩
      cases e : getN (numE ts) key with
      | some v =>
        refine iteF ?_
        obtain ⟨c, hc⟩ := getN_some e
        obtain ⟨i, t, ht, he⟩ := numE_mem hc
        have e1 : t.1 = key := (Prod.mk.inj he).1.symm
        exact ⟨ts, wy, i, rfl, hw, ⟨t.2, by rw [ht, ← e1]⟩, .inl ⟨rfl, rfl⟩, fun c o _ _ _ z => z⟩
      | none =>
        refine iteT ?_
        have fresh : ∀ t ∈ ts, t.1 ≠ key := fun t ht z => by
          obtain ⟨i, hi⟩ := List.mem_iff_getElem?.mp ht
          have : ts[i]? = some (key, t.2) := by rw [hi, ← z]
          rw [numE_some nd this] at e
          cases e
        have nl : (numE ts).length < sizeLine := by rw [numE_len]; omega
        refine ⟨.ref p, rfl, p, C, dx, _, _, rfl, ob, T.cl, T.nM, wF_met _ _ _, M, _, rfl, .inl (.inl (.inl met)), .ref p, rfl, p, C, dx, _, _, rfl, ob, T.cl, T.nN, wF_num _ _ _, .ref b, rfl, N, _, key, b, rfl, num, rfl, hk, e, nl, ?_⟩
        have ml : ((ts.map fun t => V.ref t.2).length : Int) = ((ts.length : Nat) : Int) := by rw [List.length_map]
        rw [ml]
        have num1 := nd_put (v := .int ((ts.length : Nat) : Int)) num hk
        rw [← numE_snoc ts (key, b)] at num1 ⊢
        have k1 : ∀ c o, c ≠ N → H c = some o → upd H N (NDO P w N (numE (ts ++ [(key, b)]))) c = some o := fun c o n z => by
          rw [upd_ne n]
          exact z
        have t1 : TupsStay H (upd H N (NDO P w N (numE (ts ++ [(key, b)])))) := fun c xs z => k1 c _ (ne_of z num.ob (fun y => nomatch y)) z
        generalize upd H N (NDO P w N (numE (ts ++ [(key, b)]))) = H1 at num1 k1 t1
        have ob1 := k1 _ _ npN ob
        have met1 := k1 _ _ nMN met
        refine ⟨.ref p, rfl, p, C, dx, _, _, rfl, ob1, T.cl, T.nM, wF_met _ _ _, .inl ⟨rfl, _, .inl (.inl met1)⟩, .ref b, rfl, M, _, _, rfl, rfl, met1, ?_, ?_⟩
        · rw [List.length_map]
          omega
        have e2 : (ts.map fun t => V.ref t.2) ++ [V.ref b] = (ts ++ [(key, b)]).map fun t => V.ref t.2 := by rw [List.map_append]; rfl
        rw [e2]
        have k2 : ∀ c o, c ≠ M → H1 c = some o → upd H1 M (.lst ((ts ++ [(key, b)]).map fun t => V.ref t.2)) c = some o := fun c o n z => by
          rw [upd_ne n]
          exact z
        have t2 : TupsStay H1 (upd H1 M (.lst ((ts ++ [(key, b)]).map fun t => V.ref t.2))) := fun c xs z => k2 c _ (ne_of z met1 (fun y => nomatch y)) z
        have met2 : upd H1 M (.lst ((ts ++ [(key, b)]).map fun t => V.ref t.2)) M = some (.lst ((ts ++ [(key, b)]).map fun t => V.ref t.2)) := upd_same
        generalize upd H1 M (.lst ((ts ++ [(key, b)]).map fun t => V.ref t.2)) = H2 at k2 t2 met2
        have ob2 := k2 _ _ npM ob1
        have ways2 := k2 _ _ nMW.symm (k1 _ _ nNW.symm ways)
        refine ⟨.ref p, rfl, p, C, dx, _, _, rfl, ob2, T.cl, T.nW, wF_ways _ _ _, .inl ⟨rfl, _, .inl (.inl ways2)⟩, .int ah, rfl, .ref bb, rfl, by show 2 ≤ sizeLine; decide, fun U hU => ?_⟩
        have sU := same_new (o := .tup [.int ah, .ref bb]) hU
        have wl := awLen wat
        refine ⟨W, _, _, rfl, rfl, sU _ _ ways2, ?_, ?_⟩
        · rw [List.length_map]
          omega
        have e3 : ws.map V.ref ++ [V.ref U] = (ws ++ [U]).map V.ref := by rw [List.map_append]; rfl
        rw [e3]
        have k3 : ∀ c o, c ≠ W → H2 c = some o → upd (upd H2 U (.tup [.int ah, .ref bb])) W (.lst ((ws ++ [U]).map V.ref)) c = some o := fun c o n z => by
          rw [upd_ne n]
          exact sU _ _ z
        have t3 : TupsStay H2 (upd (upd H2 U (.tup [.int ah, .ref bb])) W (.lst ((ws ++ [U]).map V.ref))) := fun c xs z => k3 c _ (ne_of z ways2 (fun y => nomatch y)) z
        have tA := (t1.trans t2).trans t3
        have nUW : U ≠ W := fun z => by rw [z, ways2] at hU; cases hU
        have eU3 : upd (upd H2 U (.tup [.int ah, .ref bb])) W (.lst ((ws ++ [U]).map V.ref)) U = some (.tup [.int ah, .ref bb]) := by
          rw [upd_ne nUW]
          exact upd_same
        have eW3 : upd (upd H2 U (.tup [.int ah, .ref bb])) W (.lst ((ws ++ [U]).map V.ref)) W = some (.lst ((ws ++ [U]).map V.ref)) := upd_same
        generalize upd (upd H2 U (.tup [.int ah, .ref bb])) W (.lst ((ws ++ [U]).map V.ref)) = H3 at k3 t3 tA eU3 eW3
        refine ⟨ts ++ [(key, b)], wy ++ [(ah, bs)], ts.length, rfl, ⟨⟨dx, k3 _ _ npW ob2⟩, k3 _ _ nMW met2, nd_stay num1 (k3 _ _ nNW (k2 _ _ nMN.symm num1.ob)) (t2.trans t3), ⟨ws ++ [U], eW3, ?_⟩, ?_, fun x hx => ?_, ?_, nMW⟩, ⟨b, ?_⟩, .inr ⟨rfl, rfl, rfl, fresh⟩, fun c o n1 n2 n3 z => k3 _ _ n3 (k2 _ _ n1 (k1 _ _ n2 z))⟩
        · exact awSnoc (F := fun (q : Addr) (e : Int × List Int) => ∃ bb, H3 q = some (.tup [.int e.1, .ref bb]) ∧ H3 bb = some (.tup (e.2.map V.int))) ⟨bb, eU3, tA _ _ hbb⟩ (awMap (fun q e z => z.elim fun bb y => ⟨bb, tA _ _ y.1, tA _ _ y.2⟩) wat)
        · rw [List.map_append, List.nodup_append]
          refine ⟨nd, by simp, fun x hx y hy => ?_⟩
          obtain ⟨t, ht, rfl⟩ := List.mem_map.mp hx
          rw [List.mem_singleton.mp hy]
          exact fresh t ht
        · rcases List.mem_append.mp hx with hx | hx
          · exact keyn_stay tA (keys x hx)
          · rw [List.mem_singleton.mp hx]
            exact keyn_stay tA hk
        · rw [List.length_append, List.length_append, len]
          rfl
        · rw [List.getElem?_append_right (Nat.le_refl _), Nat.sub_self]
          rfl
    · rintro σ2 H2 ⟨ts', wy', i, rfl, hw2, ⟨b', hb'⟩, hcase, kp⟩
      obtain ⟨⟨dx2, ob2⟩, _, num2, _, nd2, _⟩ := id hw2
      have tS : TupsStay H H2 := fun c xs z => kp c _ (ne_of z met (fun y => nomatch y)) (ne_of z num.ob (fun y => nomatch y)) (ne_of z ways (fun y => nomatch y)) z
      exact ⟨.ref p, rfl, p, C, dx2, _, _, rfl, ob2, T.cl, T.nN, wF_num _ _ _, .ref b, rfl, N, _, key, .int (i : Nat), rfl, num2, keyn_stay tS hk, numE_some nd2 hb', q H2 ts' wy' i hw2 ⟨b', hb'⟩ hcase kp⟩
/-! ### list(zip(a, b)) of two lists -/
section lz
variable {A : Around} {E : Value → Shared → Prop} {s : Shared}
abbrev IsZ (h : Heap) (z TI TO : Addr) (f0 : Value) (b : Bool) : Prop := h.get? z = some { cls := .type "zip", dict := none, data := .fields #[f0, .bool b, .bool false, .ref TI, .ref TO], slots := #[] }
theorem z_free {z TI TO T : Addr} {f : Bool} {oT : Obj} {Q : Bool → Shared → Prop} (hz : IsZ s.heap z TI TO (rawInt T) f) (hT : s.heap.get? T = some oT) (q : ∀ h', IsZ h' z TI TO (rawInt T) true → Heap.SameBut z s.heap h' → Q false { s with heap := h' }) :
    wpAny (model P w) A (Builtin.SmallTypes.ownedTupleIsFree (.ref z)) Q E s := by
  unfold Builtin.SmallTypes.ownedTupleIsFree
  apply wpAny_bind
  refine wpAny_field hz rfl (x := rawInt T) rfl ?_
  show wpAny _ _ (loadIfAlive ((T : Int).toNat) >>= _) _ _ _
  rw [Int.toNat_natCast]
  apply wpAny_bind
  refine PySem.W.kdx_alive hT ?_
  simp only [Option.isNone_some, Bool.false_eq_true, if_false]
  apply wpAny_bind
  refine wpAny_field hz rfl (x := .bool f) rfl ?_
  cases f with
  | true =>
    rw [if_neg (show ¬ ((Value.bool true != Value.bool true) = true) from Bool.false_ne_true)]
    exact wpAny_pure (q s.heap hz (Heap.SameBut.refl _ _))
  | false =>
    rw [if_pos (show (Value.bool false != Value.bool true) = true from rfl)]
    apply wpAny_bind
    exact wpAny_setField_rec hz (by simp) fun h' hz' hs' => wpAny_pure (q h' hz' hs')
theorem z_next_out {z TI TO i1 i2 l1 l2 T : Addr} {k1 k2 : Nat} {xs ys : Array Value} {x y : Value} {f : Bool} {oT : Obj} {Q : Value → Shared → Prop} (D : ZipApart z TI TO i1 i2 l1 l2) (hz : IsZ s.heap z TI TO (rawInt T) f) (hT : s.heap.get? T = some oT)
    (hTI : IsPair s.heap TI (.ref i1) (.ref i2)) (h1 : s.heap.IsListIter i1 l1 k1) (h2 : s.heap.IsListIter i2 l2 k2) (hl1 : s.heap.IsList l1 xs) (hl2 : s.heap.IsList l2 ys) (hx : xs[k1]? = some x) (hy : ys[k2]? = some y)
    (q : ∀ h', IsZ h' z TI TO (rawInt T) true → h'.IsListIter i1 l1 (k1 + 1) → h'.IsListIter i2 l2 (k2 + 1) → IsPair h' s.heap.objs.size x y → h'.objs.size = s.heap.objs.size + 1 → (∀ c o, c ≠ z → c ≠ i1 → c ≠ i2 → s.heap.get? c = some o → h'.get? c = some o) → Q (.ref s.heap.objs.size) { s with heap := h' }) :
    wpAny (model P w) A (Builtin.«zip.__next__» ⟨[.ref z], []⟩) (fun fin s' => ∃ v, fin = .done (.ret v) ∧ Q v s') E s := by
  show wpAny _ _ (field (.ref z) 2 >>= _) _ _ _
  apply wpAny_bind
  refine wpAny_field hz rfl (x := .bool false) rfl ?_
  show wpAny _ _ (field (.ref z) 3 >>= _) _ _ _
  apply wpAny_bind
  refine wpAny_field hz rfl (x := .ref TI) rfl ?_
  apply wpAny_bind
  refine wpAny_seqItems hTI rfl ?_
  show wpAny _ _ (Builtin.SmallTypes.ownedTupleIsFree (.ref z) >>= _) _ _ _
  apply wpAny_bind
  refine z_free hz hT fun h₁ hz₁ hs₁ => ?_
  simp only [Bool.false_eq_true, if_false]
  apply wpAny_bind
  simp only [← Array.forIn_toList, List.forIn_cons, List.forIn_nil]
  apply wpAny_bind
  apply wpAny_bind
  apply wpAny_holding
  show wpAny _ _ (Builtin.SmallTypes.nextOf (.ref i1) >>= _) _ _ _
  apply wpAny_bind
  refine wpAny_nextOf_list_item (h1.extBut hs₁.extBut D.i1z) (hl1.extBut hs₁.extBut D.l1z) hx fun h₂ h1₂ hs₂ => wpAny_pure ?_
  refine wpAny_pure ?_
  apply wpAny_bind
  apply wpAny_bind
  apply wpAny_holding
  show wpAny _ _ (Builtin.SmallTypes.nextOf (.ref i2) >>= _) _ _ _
  apply wpAny_bind
  refine wpAny_nextOf_list_item ((h2.extBut hs₁.extBut D.i2z).extBut hs₂.extBut D.i12.symm) ((hl2.extBut hs₁.extBut D.l2z).extBut hs₂.extBut D.l2i1) hy fun h₃ h2₃ hs₃ => wpAny_pure ?_
  refine wpAny_pure (wpAny_pure ?_)
  have hsz : h₃.objs.size = s.heap.objs.size := by rw [hs₃.1, hs₂.1, hs₁.1]
  apply wpAny_bind
  refine wpAny_newTuple ?_ (by show 2 ≤ sizeLine; decide)
  have z3 : IsZ h₃ z TI TO (rawInt T) true := hs₃.extBut _ _ D.i2z.symm (hs₂.extBut _ _ D.i1z.symm hz₁)
  refine wpAny_pure ⟨_, rfl, ?_⟩
  show Q (.ref h₃.objs.size) _
  rw [hsz]
  refine q _ (Heap.get?_push_of_some _ z3) ((h1₂.extBut hs₃.extBut D.i12).at fun o e => Heap.get?_push_of_some _ e) (h2₃.at fun o e => Heap.get?_push_of_some _ e) ?_ ?_ fun c o c1 c2 c3 e => Heap.get?_push_of_some _ (hs₃.extBut _ _ c3 (hs₂.extBut _ _ c2 (hs₁.extBut _ _ c1 e)))
  · rw [← hsz]
    exact Heap.get?_push_size _ rfl
  · rw [Heap.size_push, hsz]
theorem z_pyNext_out {z TI TO i1 i2 l1 l2 T : Addr} {k1 k2 : Nat} {xs ys : Array Value} {x y : Value} {f : Bool} {oT : Obj} {Q : Option Value → Shared → Prop} (D : ZipApart z TI TO i1 i2 l1 l2) (hz : IsZ s.heap z TI TO (rawInt T) f) (hT : s.heap.get? T = some oT)
    (hTI : IsPair s.heap TI (.ref i1) (.ref i2)) (h1 : s.heap.IsListIter i1 l1 k1) (h2 : s.heap.IsListIter i2 l2 k2) (hl1 : s.heap.IsList l1 xs) (hl2 : s.heap.IsList l2 ys) (hx : xs[k1]? = some x) (hy : ys[k2]? = some y)
    (q : ∀ h', IsZ h' z TI TO (rawInt T) true → h'.IsListIter i1 l1 (k1 + 1) → h'.IsListIter i2 l2 (k2 + 1) → IsPair h' s.heap.objs.size x y → h'.objs.size = s.heap.objs.size + 1 → (∀ c o, c ≠ z → c ≠ i1 → c ≠ i2 → s.heap.get? c = some o → h'.get? c = some o) → Q (some (.ref s.heap.objs.size)) { s with heap := h' }) :
    wpAny (model P w) A (pyNext (.ref z)) Q E s := by
  have ty : s.TypeIs (.ref z) "zip" := ⟨_, hz, rfl⟩
  unfold pyNext
  apply wpAny_bind
  apply wpAny_attempt
  refine wpAny_callSpecial?_slot (name := Str.ofString "__next__") ty F.slot_zip_next ?_
  refine wpAny_call_entry F.slot_zip_next ty F.entry_zip_next ?_ (F.args_zip_next_1 _)
  exact z_next_out D hz hT hTI h1 h2 hl1 hl2 hx hy fun h' a1 a2 a3 a4 a5 a6 => wpAny_pure (q h' a1 a2 a3 a4 a5 a6)
theorem z_end_out {z TI TO i1 i2 l1 l2 T : Addr} {k1 : Nat} {xs : Array Value} {f : Bool} {oT : Obj} {Q : Option Value → Shared → Prop} (hh : A.handled = none) (D : ZipApart z TI TO i1 i2 l1 l2) (hz : IsZ s.heap z TI TO (rawInt T) f) (hT : s.heap.get? T = some oT)
    (hTI : IsPair s.heap TI (.ref i1) (.ref i2)) (h1 : s.heap.IsListIter i1 l1 k1) (hl1 : s.heap.IsList l1 xs) (hx : xs[k1]? = none)
    (q : ∀ h', (∀ c o, c ≠ z → c ≠ i1 → s.heap.get? c = some o → h'.get? c = some o) → Q none { s with heap := h' }) :
    wpAny (model P w) A (pyNext (.ref z)) Q E s := by
  have ty : s.TypeIs (.ref z) "zip" := ⟨_, hz, rfl⟩
  unfold pyNext
  apply wpAny_bind
  apply wpAny_attempt
  refine wpAny_callSpecial?_slot (name := Str.ofString "__next__") ty F.slot_zip_next ?_
  refine wpAny_call_entry F.slot_zip_next ty F.entry_zip_next ?_ (F.args_zip_next_1 _)
  show wpAny _ _ (field (.ref z) 2 >>= _) _ _ _
  apply wpAny_bind
  refine wpAny_field hz rfl (x := .bool false) rfl ?_
  show wpAny _ _ (field (.ref z) 3 >>= _) _ _ _
  apply wpAny_bind
  refine wpAny_field hz rfl (x := .ref TI) rfl ?_
  apply wpAny_bind
  refine wpAny_seqItems hTI rfl ?_
  show wpAny _ _ (Builtin.SmallTypes.ownedTupleIsFree (.ref z) >>= _) _ _ _
  apply wpAny_bind
  refine z_free hz hT fun h₁ hz₁ hs₁ => ?_
  simp only [Bool.false_eq_true, if_false]
  apply wpAny_bind
  simp only [← Array.forIn_toList, List.forIn_cons, List.forIn_nil]
  apply wpAny_bind
  apply wpAny_bind
  apply wpAny_holding
  show wpAny _ _ (Builtin.SmallTypes.nextOf (.ref i1) >>= _) _ _ _
  apply wpAny_bind
  refine wpAny_nextOf_list_end hh (h1.extBut hs₁.extBut D.i1z) (hl1.extBut hs₁.extBut D.l1z) hx fun h₂ e hs₂ he => ?_
  obtain ⟨o, ho, hc⟩ := he
  apply wpAny_bind
  refine wpAny_isInstance (T := "StopIteration") (b := true) ⟨o, ho, hc⟩ isSubtype_stop ?_
  exact wpAny_pure (q h₂ fun c o c1 c2 e => hs₂ c o c2 (hs₁.extBut c o c1 e))
/-- the pairs that were made -/
structure MadeZ (xs ys : Array Value) (lo : Addr) (h : Heap) (as : List Addr) : Prop where
  rise : as.Pairwise (· < ·)
  above : ∀ a ∈ as, lo < a
  pairs : ∀ (j : Nat) a, as[j]? = some a → ∃ x y, xs[j]? = some x ∧ ys[j]? = some y ∧ IsPair h a x y
/-- where the zip stands -/
def ZAt (h : Heap) (z TI TO i1 i2 : Addr) (l1 l2 : Addr) (i : Nat) (as : List Addr) : Prop := IsPair h TI (.ref i1) (.ref i2) ∧ (∃ a b, IsPair h TO a b) ∧ h.IsListIter i1 l1 i ∧ h.IsListIter i2 l2 i ∧
  ((i = 0 ∧ IsZ h z TI TO .none false) ∨ ∃ T f, T ∈ as ∧ IsZ h z TI TO (rawInt T) f)
theorem z_loop {S z TI TO i1 i2 l1 l2 : Addr} {xs ys : Array Value} (hh : A.handled = none) (D : ZipApart z TI TO i1 i2 l1 l2) (hxy : xs.size = ys.size) (hSz : S ≠ z) (hSI : S ≠ TI) (hSO : S ≠ TO) (hS1 : S ≠ i1) (hS2 : S ≠ i2) (hSa : S ≠ l1) (hSb : S ≠ l2)
    (lo : Addr) (hlo : z ≤ lo ∧ TI ≤ lo ∧ TO ≤ lo ∧ i1 ≤ lo ∧ i2 ≤ lo ∧ S ≤ lo) (hn : xs.size ≤ sizeLine) (res : Value) {h₁ : Heap} {R : Result → Shared → Prop}
    (hR : ∀ h' tk acc c as, (∀ b o, b ≠ S → b ≠ z → b ≠ TO → b ≠ i1 → b ≠ i2 → h₁.get? b = some o → h'.get? b = some o) → h'.get? S = some { cls := .type "list", dict := none, data := .seq acc c, slots := #[] } → as.length = xs.size → MadeZ xs ys lo h' as →
      acc.toList = as.map Value.ref → R (.ok (.ret res)) { s with heap := h', toks := tk }) :
    ∀ (k i : Nat) (h : Heap) (tk c : Nat) (acc : Array Value) (as : List Addr), xs.size - i = k → i ≤ xs.size → ZAt h z TI TO i1 i2 l1 l2 i as → h.IsList l1 xs → h.IsList l2 ys → (∀ b o, b ≠ S → b ≠ z → b ≠ TO → b ≠ i1 → b ≠ i2 → h₁.get? b = some o → h.get? b = some o) →
      h.get? S = some { cls := .type "list", dict := none, data := .seq acc c, slots := #[] } → acc.toList = as.map Value.ref → as.length = i → MadeZ xs ys lo h as → lo < h.objs.size →
      codeAny (model P w) A (.builtin "list.extend.loop" ⟨[.ref S, .ref z, res], []⟩) R { s with heap := h, toks := tk } := by
  have far : ∀ u : Addr, lo < u → u ≠ z ∧ u ≠ TO ∧ u ≠ i1 ∧ u ≠ i2 ∧ u ≠ S := fun u hu => ⟨Nat.ne_of_gt (Nat.lt_of_le_of_lt hlo.1 hu), Nat.ne_of_gt (Nat.lt_of_le_of_lt hlo.2.2.1 hu), Nat.ne_of_gt (Nat.lt_of_le_of_lt hlo.2.2.2.1 hu), Nat.ne_of_gt (Nat.lt_of_le_of_lt hlo.2.2.2.2.1 hu), Nat.ne_of_gt (Nat.lt_of_le_of_lt hlo.2.2.2.2.2 hu)⟩
  intro k
  induction k with
  | zero =>
    intro i h tk c acc as hk hi hz hl1 hl2 keep hS hacc hal hG hls
    obtain ⟨hTI, ⟨a, b, hTO⟩, g1, g2, st⟩ := hz
    have xe : xs[i]? = none := Array.getElem?_eq_none (by omega)
    have fin : ∀ h', (∀ c o, c ≠ z → c ≠ TO → c ≠ i1 → c ≠ i2 → h.get? c = some o → h'.get? c = some o) → R (.ok (.ret res)) { s with heap := h', toks := tk } := fun h' kp => by
      refine hR h' tk acc c as (fun b o n1 n2 n3 n4 n5 e => kp b o n2 n3 n4 n5 (keep b o n1 n2 n3 n4 n5 e)) (kp S _ hSz hSO hS1 hS2 hS) (by omega) ⟨hG.rise, hG.above, fun j a hj => ?_⟩ hacc
      obtain ⟨x, y, e1, e2, e3⟩ := hG.pairs j a hj
      obtain ⟨f1, f2, f3, f4, _⟩ := far a (hG.above a (List.mem_of_getElem? hj))
      exact ⟨x, y, e1, e2, kp a _ f1 f2 f3 f4 e3⟩
    refine codeAny_builtin F.entry_extend_loop ?_
    rw [Around.under_plainId F.plain_extend_loop _]
    show wpAny _ A.in1 (pyNext (.ref z) >>= _) _ _ _
    apply wpAny_bind
    rcases st with ⟨rfl, hz0⟩ | ⟨T, f, hT, hz1⟩
    · exact wpAny_pyNext_zip_end (s := { s with heap := h, toks := tk }) (A := A.in1) hh D hz0 hTI hTO g1 g2 hl1 hl2 (.inl xe) fun h' kp => wpAny_pure (fin h' kp)
    · obtain ⟨j, hj⟩ := List.mem_iff_getElem?.mp hT
      obtain ⟨x, y, _, _, e3⟩ := hG.pairs j T hj
      exact z_end_out (s := { s with heap := h, toks := tk }) (A := A.in1) hh D hz1 e3 hTI g1 hl1 xe fun h' kp => wpAny_pure (fin h' fun c o n1 _ n3 _ e => kp c o n1 n3 e)
  | succ k ih =>
    intro i h tk c acc as hk hi hz hl1 hl2 keep hS hacc hal hG hls
    obtain ⟨hTI, ⟨a, b, hTO⟩, g1, g2, st⟩ := hz
    have hlt : i < xs.size := by omega
    have hx := Array.getElem?_eq_getElem hlt
    have hy := Array.getElem?_eq_getElem (show i < ys.size by omega)
    have hsz : acc.size = i := by rw [← Array.length_toList, hacc, List.length_map, hal]
    have hSl : S < h.objs.size := Heap.lt_size hS
    refine codeAny_builtin F.entry_extend_loop ?_
    rw [Around.under_plainId F.plain_extend_loop _]
    show wpAny _ A.in1 (pyNext (.ref z) >>= _) _ _ _
    apply wpAny_bind
    -- one more pair
    have more : ∀ (h' : Heap) (f : Bool) (T : Addr), T ∈ as ++ [h.objs.size] → IsZ h' z TI TO (rawInt T) f → (∃ a b, IsPair h' TO a b) → h'.IsListIter i1 l1 (i + 1) → h'.IsListIter i2 l2 (i + 1) → IsPair h' h.objs.size xs[i] (ys[i]'(by omega)) → h'.objs.size = h.objs.size + 1 →
        (∀ c o, c ≠ z → c ≠ TO → c ≠ i1 → c ≠ i2 → h.get? c = some o → h'.get? c = some o) →
        wpAny (model P w) A.in1 (updateSeq S (·.push (Value.ref h.objs.size)) >>= fun _ => again (.builtin "list.extend.loop" ⟨[.ref S, .ref z, res], []⟩)) (fun fin s' => match fin with | .done f => R (.ok f) s' | .again c' => c'.quiet = true ∧ codeAny (model P w) A c' R s') (fun e s' => R (.error e) s') { s with heap := h', toks := tk } := by
      intro h' f T hT hz' hTO' g1' g2' hp hsz' kp
      have hS' := kp S _ hSz hSO hS1 hS2 hS
      have up : ∀ b o, b ≠ S → h'.get? b = some o → (h'.update S (Obj.mapSeq (·.push (Value.ref h.objs.size)))).get? b = some o := fun b o hb e => (Heap.get?_update_other _ _ (Ne.symm hb)).trans e
      apply wpAny_bind
      refine wpAny_updateSeq hS' rfl (wpAny_pure ⟨plainId_quiet F.plain_extend_loop _, ?_⟩) (by rw [hsz]; omega) (by show (acc.push (Value.ref h.objs.size)).size ≤ sizeLine + 1; rw [Array.size_push, hsz]; omega)
      refine ih (i + 1) _ tk _ (acc.push (Value.ref h.objs.size)) (as ++ [h.objs.size]) (by omega) hlt ?_ ?_ ?_ (fun b o n1 n2 n3 n4 n5 e => up b o n1 (kp b o n2 n3 n4 n5 (keep b o n1 n2 n3 n4 n5 e))) (Heap.get?_update_self _ hS' rfl) (by rw [Array.toList_push, hacc, List.map_append]; rfl) (by rw [List.length_append, hal]; rfl) ⟨?_, ?_, ?_⟩ ?_
      · obtain ⟨p, q, hpq⟩ := hTO'
        exact ⟨up _ _ hSI.symm (kp _ _ D.TIz D.TITO D.TIi1 D.TIi2 hTI), ⟨p, q, up _ _ hSO.symm hpq⟩, g1'.at fun o e => up _ o hS1.symm e, g2'.at fun o e => up _ o hS2.symm e, .inr ⟨T, f, hT, up _ _ hSz.symm hz'⟩⟩
      · exact hl1.at fun o e => up _ o hSa.symm (kp _ o D.l1z D.l1TO D.l1i1 D.l1i2 e)
      · exact hl2.at fun o e => up _ o hSb.symm (kp _ o D.l2z D.l2TO D.l2i1 D.l2i2 e)
      · refine List.pairwise_append.mpr ⟨hG.rise, List.pairwise_singleton _ _, fun u hu v hv => ?_⟩
        rw [List.mem_singleton.mp hv]
        obtain ⟨j, hj⟩ := List.mem_iff_getElem?.mp hu
        obtain ⟨_, _, _, _, e3⟩ := hG.pairs j u hj
        exact Heap.lt_size e3
      · intro u hu
        rcases List.mem_append.mp hu with hu | hu
        · exact hG.above u hu
        · rw [List.mem_singleton.mp hu]
          exact hls
      · intro j u hj
        by_cases hjl : j < as.length
        · rw [List.getElem?_append_left hjl] at hj
          obtain ⟨x, y, e1, e2, e3⟩ := hG.pairs j u hj
          obtain ⟨f1, f2, f3, f4, f5⟩ := far u (hG.above u (List.mem_of_getElem? hj))
          exact ⟨x, y, e1, e2, up u _ f5 (kp u _ f1 f2 f3 f4 e3)⟩
        · rw [List.getElem?_append_right (by omega)] at hj
          have hj2 := (List.getElem?_eq_some_iff.mp hj).1
          have ej : j = as.length := by
            simp only [List.length_cons, List.length_nil] at hj2
            omega
          subst ej
          rw [Nat.sub_self] at hj
          obtain rfl := Option.some.inj hj
          subst hal
          exact ⟨_, _, hx, hy, up _ _ (Nat.ne_of_gt hSl) hp⟩
      · have e := up _ _ (Nat.ne_of_gt hSl) hp
        exact Nat.lt_trans hls (Heap.lt_size e)
    rcases st with ⟨rfl, hz0⟩ | ⟨T, f, hT, hz1⟩
    · refine wpAny_pyNext_zip_item (s := { s with heap := h, toks := tk }) (A := A.in1) D hz0 hTI hTO g1 g2 hl1 hl2 hx hy fun h' b1 b2 b3 b4 b5 b6 b7 => ?_
      exact more h' false h.objs.size (List.mem_append_right _ List.mem_cons_self) b1 ⟨_, _, b2⟩ b3 b4 b5 b6 b7
    · obtain ⟨j, hj⟩ := List.mem_iff_getElem?.mp hT
      obtain ⟨x, y, _, _, e3⟩ := hG.pairs j T hj
      refine z_pyNext_out (s := { s with heap := h, toks := tk }) (A := A.in1) D hz1 e3 hTI g1 g2 hl1 hl2 hx hy fun h' b1 b2 b3 b4 b5 b6 => ?_
      exact more h' true T (List.mem_append_left _ hT) b1 ⟨_, _, b6 _ _ D.TOz D.TOi1 D.TOi2 hTO⟩ b2 b3 b4 b5 fun c o n1 _ n3 n4 e => b6 c o n1 n3 n4 e
theorem z_nolen : typeLookup (.type "zip") "__len__" = pure none := by
  rw [typeLookup_type, builtinLookup_eq_fast]
  kernel_rfl
theorem z_nohint : typeLookup (.type "zip") "__length_hint__" = pure none := by
  rw [typeLookup_type, builtinLookup_eq_fast]
  kernel_rfl
theorem z_hint {z : Addr} {Q : Bool → Shared → Prop} (hT : s.TypeIs (.ref z) "zip") (q : Q true s) : wpAny (model P w) A (Builtin.List.listLengthHint (.ref z)) Q E s := by
  unfold Builtin.List.listLengthHint
  apply wpAny_bind
  refine wpAny_specialOf hT z_nolen ?_
  refine wpAny_ite_split (fun h => absurd h (by decide)) (fun _ => ?_)
  refine wpAny_ite_split (fun h => absurd h (by decide)) (fun _ => ?_)
  apply wpAny_bind
  refine wpAny_specialOf hT z_nohint ?_
  exact wpAny_pure q
theorem z_extend {S z TI TO i1 i2 l1 l2 : Addr} {xs ys : Array Value} (hh : A.handled = none) (D : ZipApart z TI TO i1 i2 l1 l2) (hxy : xs.size = ys.size) (hSz : S ≠ z) (hSI : S ≠ TI) (hSO : S ≠ TO) (hS1 : S ≠ i1) (hS2 : S ≠ i2) (hSa : S ≠ l1) (hSb : S ≠ l2)
    (lo : Addr) (hlo : z ≤ lo ∧ TI ≤ lo ∧ TO ≤ lo ∧ i1 ≤ lo ∧ i2 ≤ lo ∧ S ≤ lo) (hls : lo < s.heap.objs.size) (hn : xs.size ≤ sizeLine) (res : Value) {R : Result → Shared → Prop} {c₀ : Nat}
    (hz : ZAt s.heap z TI TO i1 i2 l1 l2 0 []) (hz0 : IsZ s.heap z TI TO .none false) (hl1 : s.heap.IsList l1 xs) (hl2 : s.heap.IsList l2 ys) (hS : s.heap.get? S = some { cls := .type "list", data := .seq #[] c₀ })
    (hR : ∀ h' tk acc c as, (∀ b o, b ≠ S → b ≠ z → b ≠ TO → b ≠ i1 → b ≠ i2 → s.heap.get? b = some o → h'.get? b = some o) → h'.get? S = some { cls := .type "list", dict := none, data := .seq acc c, slots := #[] } → as.length = xs.size → MadeZ xs ys lo h' as →
      acc.toList = as.map Value.ref → R (.ok (.ret res)) { s with heap := h', toks := tk }) :
    wpAny (model P w) A.in1 (Builtin.List.listExtendWith (.ref S) (.ref z) res)
      (fun fin s' => match fin with | .done f => R (.ok f) s' | .again c' => c'.quiet = true ∧ codeAny (model P w) A c' R s') (fun e s' => R (.error e) s') s := by
  have ty : s.TypeIs (.ref z) "zip" := ⟨_, hz0, rfl⟩
  have go : ∀ (h : Heap) (c₁ tk : Nat), (∀ b o, b ≠ S → s.heap.get? b = some o → h.get? b = some o) → lo < h.objs.size → h.get? S = some { cls := .type "list", data := .seq #[] c₁ } →
      codeAny (model P w) A (.builtin "list.extend.loop" ⟨[.ref S, .ref z, res], []⟩) R { s with heap := h, toks := tk } := by
    intro h c₁ tk kp hl hS₁
    obtain ⟨hTI, ⟨a, b, hTO⟩, g1, g2, _⟩ := hz
    refine z_loop (s := s) (h₁ := s.heap) hh D hxy hSz hSI hSO hS1 hS2 hSa hSb lo hlo hn res hR xs.size 0 h tk c₁ #[] [] (Nat.sub_zero _) (Nat.zero_le _) ?_ (hl1.at fun o e => kp _ o hSa.symm e) (hl2.at fun o e => kp _ o hSb.symm e) (fun b o n1 _ _ _ _ e => kp b o n1 e) hS₁ rfl rfl ⟨List.Pairwise.nil, (fun _ z => nomatch z), (fun j a hj => by simp at hj)⟩ hl
    exact ⟨kp _ _ hSI.symm hTI, ⟨a, b, kp _ _ hSO.symm hTO⟩, g1.at fun o e => kp _ o hS1.symm e, g2.at fun o e => kp _ o hS2.symm e, .inl ⟨rfl, kp _ _ hSz.symm hz0⟩⟩
  unfold Builtin.List.listExtendWith
  apply wpAny_bind
  refine wpAny_typeOf (T := "zip") ty ?_
  have e1 : Builtin.List.listSameRef (.ref S) (.ref z) = false := by simp [Builtin.List.listSameRef, hSz]
  have e2 : (Value.type "zip" == Value.type "list") = false := by decide
  have e3 : (Value.type "zip" == Value.type "tuple") = false := by decide
  simp only [e1, e2, e3, Bool.or_false, Bool.false_eq_true, if_false]
  apply wpAny_bind
  refine wpAny_pyIter_slot ty F.slot_zip_iter ?_
  refine wpAny_call_entry F.slot_zip_iter ty F.entry_zip_iter ?_ (F.args_zip_iter_1 _)
  show wpAny _ _ (ret (.ref z)) _ _ s
  refine wpAny_pure ⟨_, rfl, "zip", _, ty, F.slot_zip_next.lookup, ?_⟩
  apply wpAny_bind
  apply wpAny_holding
  refine z_hint ty ?_
  refine wpAny_ite_split (fun _ => ?_) (fun _ => wpAny_pure ⟨plainId_quiet F.plain_extend_loop _, go _ c₀ _ (fun b o _ e => e) hls hS⟩)
  apply wpAny_bind
  apply wpAny_rule
  apply wpAny_bind
  show wpAny _ _ (updateSeq S (·.push .none) >>= fun _ => updateSeq S (·.pop)) _ _ _
  apply wpAny_bind
  refine wpAny_updateSeq hS rfl ?_
  have hS₂ := Heap.get?_update_self (Obj.mapSeq (·.push Value.none)) hS rfl
  refine wpAny_updateSeq (hz := by seq_fits) hS₂ rfl ?_
  have hS₃ := Heap.get?_update_self (Obj.mapSeq (·.pop)) hS₂ rfl
  refine wpAny_pure ⟨plainId_quiet F.plain_extend_loop _, go _ _ _ (fun b o hb e => ?_) ?_ hS₃⟩
  · exact (Heap.get?_update_other _ _ (Ne.symm hb)).trans ((Heap.get?_update_other _ _ (Ne.symm hb)).trans e)
  · rw [Heap.size_update, Heap.size_update]
    exact hls
theorem z_list {z TI TO i1 i2 l1 l2 : Addr} {xs ys : Array Value} (hh : A.handled = none) (D : ZipApart z TI TO i1 i2 l1 l2) (hxy : xs.size = ys.size) (hn : xs.size ≤ sizeLine) {Q : Value → Shared → Prop}
    (hz : ZAt s.heap z TI TO i1 i2 l1 l2 0 []) (hz0 : IsZ s.heap z TI TO .none false) (hl1 : s.heap.IsList l1 xs) (hl2 : s.heap.IsList l2 ys)
    (q : ∀ h' tk acc c as, (∀ b o, b ≠ z → b ≠ TO → b ≠ i1 → b ≠ i2 → s.heap.get? b = some o → h'.get? b = some o) → h'.get? s.heap.objs.size = some { cls := .type "list", dict := none, data := .seq acc c, slots := #[] } → as.length = xs.size → MadeZ xs ys s.heap.objs.size h' as →
      acc.toList = as.map Value.ref → Q (.ref s.heap.objs.size) { s with heap := h', toks := tk }) :
    wpAny (model P w) A (call (.type "list") [.ref z]) Q E s := by
  refine callType_codes (Q₁ := fun obj s₁ => obj = .ref s.heap.objs.size ∧ s₁ = { s with heap := s.heap.push { cls := .type "list", data := .seq #[] } }) F.called_list (F.typeCall_list_1 _) F.entry_list_init (code_list_new _ ⟨rfl, rfl⟩) ?_
  rintro obj s₁ ⟨rfl, rfl⟩
  have hS : (s.heap.push { cls := .type "list", data := .seq #[] }).get? s.heap.objs.size = some { cls := .type "list", data := .seq #[] } := Heap.get?_push_size _ rfl
  obtain ⟨hTI, ⟨a, b, hTO⟩, g1, g2, _⟩ := id hz
  have lt : ∀ {c : Addr} {o : Obj}, s.heap.get? c = some o → c < s.heap.objs.size := fun e => Heap.lt_size e
  have z1 : i1 < s.heap.objs.size := g1.elim fun o e => lt e.1
  have z2 : i2 < s.heap.objs.size := g2.elim fun o e => lt e.1
  have z3 : l1 < s.heap.objs.size := hl1.elim fun o e => lt e.1
  have z4 : l2 < s.heap.objs.size := hl2.elim fun o e => lt e.1
  refine ⟨⟨_, hS, rfl⟩, F.args_list_init_2 _ _, ?_⟩
  show wpAny _ _ (do let old ← Builtin.List.listItems (.ref s.heap.objs.size); Builtin.List.listUpdate (.ref s.heap.objs.size) (fun _ => #[]); letGo old.toList.reverse; Builtin.List.listExtendWith (.ref s.heap.objs.size) (.ref z) .none) _ _ _
  apply wpAny_bind
  unfold Builtin.List.listItems
  apply wpAny_bind
  refine wpAny_seqItems hS rfl (wpAny_pure ?_)
  show wpAny _ _ (updateSeq s.heap.objs.size (fun _ => #[]) >>= fun _ => letGo (#[] : Array Value).toList.reverse >>= fun _ => Builtin.List.listExtendWith (.ref s.heap.objs.size) (.ref z) .none) _ _ _
  apply wpAny_bind
  refine wpAny_updateSeq hS rfl ?_
  have hS₂ := Heap.get?_update_self (Obj.mapSeq (fun _ => (#[] : Array Value))) hS rfl
  have kp : ∀ b o, s.heap.get? b = some o → ((s.heap.push { cls := .type "list", data := .seq #[] }).update s.heap.objs.size (Obj.mapSeq (fun _ => (#[] : Array Value)))).get? b = some o := fun b o e => (Heap.get?_update_other _ _ (Nat.ne_of_gt (Heap.lt_size e))).trans (Heap.get?_push_of_some _ e)
  apply wpAny_bind
  apply wpAny_letGo
  refine z_extend (A := A.in1) (S := s.heap.objs.size) hh D hxy (Nat.ne_of_gt (lt hz0)) (Nat.ne_of_gt (lt hTI)) (Nat.ne_of_gt (lt hTO)) (Nat.ne_of_gt z1) (Nat.ne_of_gt z2) (Nat.ne_of_gt z3) (Nat.ne_of_gt z4) s.heap.objs.size ⟨Nat.le_of_lt (lt hz0), Nat.le_of_lt (lt hTI), Nat.le_of_lt (lt hTO), Nat.le_of_lt z1, Nat.le_of_lt z2, Nat.le_refl _⟩ ?_ hn .none ?_ (kp _ _ hz0) (hl1.at fun o e => kp _ o e) (hl2.at fun o e => kp _ o e) hS₂ ?_
  · show s.heap.objs.size < ((s.heap.push { cls := .type "list", data := .seq #[] }).update s.heap.objs.size (Obj.mapSeq (fun _ => (#[] : Array Value)))).objs.size
    rw [Heap.size_update, Heap.size_push]
    exact Nat.lt_succ_self _
  · exact ⟨kp _ _ hTI, ⟨a, b, kp _ _ hTO⟩, g1.at fun o e => kp _ o e, g2.at fun o e => kp _ o e, .inl ⟨rfl, kp _ _ hz0⟩⟩
  · intro h' tk acc c as k1 k2 k3 k4 k5
    exact ⟨rfl, q h' tk acc c as (fun b o n1 n2 n3 n4 e => k1 b o (Nat.ne_of_lt (Heap.lt_size e)) n1 n2 n3 n4 (kp b o e)) k2 k3 k4 k5⟩
end lz
theorem paired_of {α β : Type} {F : α → β → Prop} : ∀ {l : List α} {k : List β}, l.length = k.length → (∀ (j : Nat) x y, l[j]? = some x → k[j]? = some y → F x y) → Paired F l k
  | [], [], _, _ => .nil
  | [], _ :: _, h, _ => nomatch h
  | _ :: _, [], h, _ => nomatch h
  | x :: l, y :: k, h, f => .cons (f 0 x y rfl rfl) (paired_of (Nat.succ.inj h) fun j a b ha hb => f (j + 1) a b (by simpa using ha) (by simpa using hb))
section lzr
variable {X : Cx}
def tListZip (K : PySem.W.Frag) (ta : TA) : TE := fun σ H Q => ta σ H fun vs H1 => ∃ a b xs ys, vs = [.ref a, .ref b] ∧ SqL K H1 a xs ∧ SqL K H1 b ys ∧ xs.length = ys.length ∧
  ∀ H' p ts, Same H1 H' → H1 p = none → H' p = some (.lst (ts.map V.ref)) → Paired (fun (t : Addr) (e : V × V) => H' t = some (.tup [e.1, e.2])) ts (xs.zip ys) → Q (.ref p) H'
theorem pe_listZip {e e2 : Expr} {ta : TA} {p p2 pos pos2 : Pos} (hc : X.calm = true) (hg : Gl X "list") (hm : X.mg "list" = none) (hg2 : Gl X "zip") (hm2 : X.mg "zip" = none) (ha : PA X [e, e2] ta)
    (c1 : starEach [.Call (.Name "zip" p2) [e, e2] [] pos2] X.env = (false, eval (.Call (.Name "zip" p2) [e, e2] [] pos2) X.env) :: starEach [] X.env := by rfl)
    (c2 : starEach [e, e2] X.env = (false, eval e X.env) :: starEach [e2] X.env := by rfl) (c3 : (backTo pos2 (starEach [e2] X.env)).any (·.1) = false := by rfl) :
    PE X (.Call (.Name "list" p) [.Call (.Name "zip" p2) [e, e2] [] pos2] [] pos) (tListZip X.K ta) := by
  constructor
  intro pins s σ H Q I h
  refine wpAny_Call_Name_kw (ld_blt I hg hm (by decide +kernel : bootBuiltins "list" = some (.type "list")) ?_)
  refine PyProof.Rows.callWith_type1 ?_ c1 rfl
  rw [c1]
  show wpAny _ _ (spliced ((false, eval (.Call (.Name "zip" p2) [e, e2] [] pos2) X.env) :: backTo pos (starEach [] X.env))) _ _ s
  refine Calls.spliced_cons ?_
  refine Call_ (ld_blt I hg2 hm2 PyProof.Rows.boot_zip (PyProof.Rows.callWith_type1 (thn (ha.run pos2 pins s σ H _ I h) ?_) c2 c3))
  rintro us s1 ⟨vs, H1, I1, r1, a, b, xs, ys, rfl, hx, hy, hxy, q⟩
  match us, r1 with
  | [u1, u2], .cons ra (.cons rb .nil) =>
    cases ra
    cases rb
    obtain ⟨it1, rv1, p1, z1⟩ := I1.list hx
    obtain ⟨it2, rv2, p2', z2⟩ := I1.list hy
    have n1 := rv1.length
    have n2 := rv2.length
    refine call_zip_2 p1.isList p2'.isList fun h' hz hTI hTO g1 g2 hsz hk => ?_
    refine Calls.spliced_nil ?_
    have la : a < s1.heap.objs.size := p1.lt
    have lb : b < s1.heap.objs.size := p2'.lt
    refine z_list (s := { s1 with heap := h' }) (I1.ok.hd hc) (PySem.W.ktu_apart s1.heap.objs.size a b la lb) (by simp; omega) (by simp; omega) ⟨hTI, ⟨_, _, hTO⟩, g1, g2, .inl ⟨rfl, hz⟩⟩ hz (p1.isList.at fun o e => hk _ o e) (p2'.isList.at fun o e => hk _ o e) fun h'' tk acc c as kp hS hal hG hacc => ?_
    have old : ∀ b o, s1.heap.get? b = some o → h''.get? b = some o := fun b o e => by
      have lt := Heap.lt_size e
      exact kp b o (Nat.ne_of_lt (Nat.lt_of_lt_of_le lt (Nat.le_add_right _ _))) (Nat.ne_of_lt (Nat.lt_of_lt_of_le lt (Nat.le_add_right _ _))) (Nat.ne_of_lt lt) (Nat.ne_of_lt (Nat.lt_of_lt_of_le lt (Nat.le_add_right _ _))) (hk b o e)
    have hS5 : s1.heap.objs.size ≤ h'.objs.size := by
      rw [hsz]
      exact Nat.le_add_right _ _
    have J0 : Inv X pins σ H1 { s1 with heap := h'', toks := tk } := I1.kept (t' := tk) old
    have nS : H1 h'.objs.size = none := I1.hok.fresh hS5
    have hl : as.length = xs.length := by
      rw [hal]
      simp
      omega
    have ok1 : ObjOk X.prog X.w (upd H1 h'.objs.size (.lst (as.map V.ref))) h'' h'.objs.size (.lst (as.map V.ref)) := by
      refine ⟨by rw [List.length_map, hl]; exact z1, acc.toList, c, ?_, ?_⟩
      · rw [hacc]
        exact LiI.vals_refs as
      · rw [Array.toArray_toList]
        exact hS
    have J1 : Inv X pins σ (upd H1 h'.objs.size (.lst (as.map V.ref))) { s1 with heap := h'', toks := tk } := J0.take (h' := h'') (t' := tk) (fun b ob _ e => e) (I1.fpOk hS5 nS) ok1
    have nd : as.Nodup := hG.rise.imp fun {a b} (h : a < b) => Nat.ne_of_lt h
    obtain ⟨H2, J2, s2, tp⟩ := L2.DX.takeT (P := fun t vs => ∃ (j : Nat) (e : V × V), as[j]? = some t ∧ (xs.zip ys)[j]? = some e ∧ vs = [e.1, e.2]) I1 as _ J1 nd fun t ht => by
      obtain ⟨j, hj⟩ := List.mem_iff_getElem?.mp ht
      obtain ⟨x, y, e1, e2, e3⟩ := hG.pairs j t hj
      have ab := hG.above t ht
      have hjx : j < xs.length := by
        have := (List.getElem?_eq_some_iff.mp hj).1
        omega
      have ex : it1[j]? = some x := by simpa using e1
      have ey : it2[j]? = some y := by simpa using e2
      obtain ⟨x', hx', rx⟩ := rv1.get (List.getElem?_eq_getElem hjx)
      obtain ⟨y', hy', ry⟩ := rv2.get (List.getElem?_eq_getElem (show j < ys.length by omega))
      rw [hx'] at ex
      rw [hy'] at ey
      obtain rfl := Option.some.inj ex
      obtain rfl := Option.some.inj ey
      refine ⟨Nat.le_trans hS5 (Nat.le_of_lt ab), ?_, [xs[j], ys[j]'(by omega)], ⟨j, (xs[j], ys[j]'(by omega)), hj, ?_, rfl⟩, fun H3 => ⟨by show 2 ≤ sizeLine; decide, [x', y'], .cons rx (.cons ry .nil), ⟨_, e3, rfl, _, rfl⟩⟩⟩
      · rw [upd_ne (Nat.ne_of_gt ab)]
        exact I1.hok.fresh (Nat.le_trans hS5 (Nat.le_of_lt ab))
      · rw [List.getElem?_zip_eq_some]
        exact ⟨List.getElem?_eq_getElem hjx, List.getElem?_eq_getElem (by omega)⟩
    refine ⟨.ref h'.objs.size, H2, J2, rfl, q H2 h'.objs.size as (fun b o e => s2 b o (by rw [upd_ne (ne_of_none e nS)]; exact e)) nS (s2 _ _ upd_same) ?_⟩
    refine paired_of (by rw [List.length_zip]; omega) fun j t e ht he => ?_
    obtain ⟨vs, ⟨j', e', h1, h2, rfl⟩, h3⟩ := tp t (List.mem_of_getElem? ht)
    have : j = j' := by
      have i1 := (List.getElem?_eq_some_iff.mp ht).1
      exact (List.getElem?_inj i1 nd).mp (ht.trans h1.symm)
    subst this
    rw [he] at h2
    obtain rfl := Option.some.inj h2
    exact h3
end lzr
/-! ### first_carry -/
def spFc : Sp := fun vs H Q _ => ∃ (R : Addr) (m o : Int) (ds : List Deed), vs = [.ref R] ∧ RowAt H R m ds o ∧ ds.length ≤ 100 ∧ ∀ H' p, Same H H' → H p = none → H' p = some (.tup ((ds.map fcD).map V.int)) → Q (.ref p) H'
theorem ok_fc {f : Addr} {fd : FuncData} {k : Nat} (F : Fun K "first_carry" "first_carry" s_first_carry f fd) (mt : mg "tuple" = none) : FnOk P w K mg base CX0 (k + 1) f fd ["row"] spFc := by
  refine F.ok sc_first_carry (fun vs H Q E h => ?_) (fun cdv A outer s H vs Q E hr h => ?_)
  · obtain ⟨R, m, o, ds, rfl, _⟩ := h
    rfl
  · obtain ⟨R, m, o, ds, rfl, hrow, hl, q⟩ := h
    obtain ⟨D, rs, eR, eD, hd⟩ := id hrow
    refine ⟨_, pss_one (ps_ret (pe_callTy call_tuple_of (by rfl) mt (by decide +kernel) (pa_cons
      (pe_lc (own := [("deed", 1)]) (g := gName 1) (by rfl) sc_first_carry.nd (pi_tup (pe_ix ix_tup (pv 0) pe_int (fun _ _ => rfl))) (blkOk_by (own := [("deed", 1)]) (N := N_first_carry) (sc := defScope s_first_carry) (by decide +kernel))
        (fun _ _ _ _ _ => pg_name (i := 1) sc_first_carry.nd rfl (Or.inl rfl)) (fun _ _ _ _ _ => pts_nil)
        (fun _ _ _ _ _ => pe_ifExp (pt_cmpR (r := rIn K false) op_in_seq (pe_ix (r := rIxT K) ix_tup (pv 1) pe_int (fun _ _ => rfl)) (pe_tup (pa_cons pe_str (pa_cons pe_str pa_nil))) (by rfl)) pe_int pe_int)) pa_nil))), ?_⟩
    refine ⟨.ref R, rfl, R, _, 1, .ref D, rfl, rfl, SqT.of eR, rfl, D, rfl, ⟨_, SqT.of eD⟩, fun L hL => ?_⟩
    refine lc_tup (K := K) (a := D) (xs := rs.map V.ref) (fun i H4 => H4 L = some (.lst (((ds.take i).map fcD).map V.int)) ∧ Same H H4) ⟨upd_same, same_new hL⟩ (fun i H4 _ hp => SqT.of (hp.2 _ _ eD)) (fun i x H4 hx hp => ?_) (fun H4 hp => ?_)
    · obtain ⟨eL, sm⟩ := hp
      have hi : i < rs.length := by
        have := (List.getElem?_eq_some_iff.mp hx).1
        rwa [List.length_map] at this
      have hx' : x = .ref rs[i] := by
        rw [List.getElem?_map, List.getElem?_eq_getElem hi] at hx
        exact (Option.some.inj hx).symm
      subst hx'
      obtain ⟨d, hd1, hd2⟩ := awGet hd (List.getElem?_eq_getElem hi)
      refine ⟨rfl, .ref rs[i], rfl, rs[i], _, 0, .str d.1, rfl, rfl, SqT.of (sm _ _ hd2), dv0 d, by show 2 ≤ sizeLine; decide, fun T hT => ?_⟩
      have sT := same_new (o := .tup [.str "neg", .str "one"]) hT
      have eL2 := sT _ _ eL
      have old : ∀ o, Same H (upd (upd H4 T (.tup [.str "neg", .str "one"])) L o) := fun o b u e => by
        rw [upd_ne (ne_of_none e hL)]
        exact sT b u (sm b u e)
      have small : (((ds.take i).map fcD).map V.int).length < sizeLine := by
        rw [List.length_map, List.length_map, List.length_take]
        exact small1000 (by omega)
      have hin := inS d.1 ["neg", "one"]
      refine ⟨T, _, rfl, .inr (SqT.of upd_same), rfl, rfl, _, rfl, ite2 (fun e => ?_) (fun e => ?_)⟩
      · have hm : d.1 ∈ (["neg", "one"] : List Str) := of_decide_eq_true (hin.symm.trans e)
        have e1 : fcD d = 1 := if_pos hm
        refine ⟨_, eL2, small, ?_, old _⟩
        rw [upd_same, List.take_add_one, hd1]
        simp [e1]
      · have hm : ¬ d.1 ∈ (["neg", "one"] : List Str) := fun z => e (hin.trans (decide_eq_true z))
        have e1 : fcD d = 0 := if_neg hm
        refine ⟨_, eL2, small, ?_, old _⟩
        rw [upd_same, List.take_add_one, hd1]
        simp [e1]
    · obtain ⟨eL, sm⟩ := hp
      rw [List.length_map, awLen hd, List.take_length] at eL
      refine ⟨L, _, rfl, .inl ⟨.inl (.inl eL), fun p hp => ?_⟩⟩
      exact q _ p (sm.trans (same_new hp)) (sm.free hp) upd_same
/-! ### deed_bit, bits_of -/
def spDb (K : PySem.W.Frag) : Sp := fun vs H Q _ => ∃ (r L : Addr) (d : Deed) (told : List Int) (c : Int), vs = [.ref r, .int c, .ref L] ∧ H r = some (.tup (dV d)) ∧ SqL K H L (told.map V.int) ∧ DeedOk told.length d ∧ Q (.int (dbitAt d c told)) H
theorem ok_db {f : Addr} {fd : FuncData} {k : Nat} (F : Fun K "deed_bit" "deed_bit" s_deed_bit f fd) : FnOk P w K mg base CX0 (k + 1) f fd ["deed", "held", "told"] (spDb K) := by
  refine F.ok sc_deed_bit (fun vs H Q E h => ?_) (fun cdv A outer s H vs Q E hr h => ?_)
  · obtain ⟨r, L, d, told, c, rfl, _⟩ := h
    rfl
  · obtain ⟨r, L, d, told, c, rfl, er, eL, ok, q⟩ := h
    refine ⟨_, pss_cons (ps_set (i := 3) sc_deed_bit.nd rfl (.inl rfl) (pe_ix ix_tup (pv 0) pe_int (fun _ _ => rfl)))
      (pss_cons (ps_if (pt_cmpR op_eq (pv 3) pe_str (nomark _)) (pss_one (ps_ret pe_int)) pss_nil)
      (pss_cons (ps_if (pt_cmpR op_eq (pv 3) pe_str (nomark _)) (pss_one (ps_ret pe_int)) pss_nil)
      (pss_cons (ps_if (PW.pt (pw_or (pt_cmpR op_eq (pv 3) pe_str (nomark _)) (pw_or1 (pt_cmpR op_eq (pv 3) pe_str (nomark _))))) (pss_one (ps_ret (pv 1))) pss_nil)
      (pss_cons (ps_set (i := 4) sc_deed_bit.nd rfl (.inl rfl) (pe_ix ix_list (pv 2) (pe_ix ix_tup (pv 0) pe_int (fun _ _ => rfl)) (fun _ _ => rfl)))
      (pss_cons (ps_if (pt_cmpR op_eq (pv 3) pe_str (nomark _)) (pss_one (ps_ret (pe_op op_sub pe_int (pv 4)))) pss_nil)
      (pss_cons (ps_if (pt_cmpR op_eq (pv 3) pe_str (nomark _)) (pss_one (ps_ret (pe_op op_xor (pe_op op_sub pe_int (pv 4)) (pv 1)))) pss_nil)
      (pss_cons (ps_set (i := 5) sc_deed_bit.nd rfl (.inl rfl) (pe_ix ix_list (pv 2) (pe_ix ix_tup (pv 0) pe_int (fun _ _ => rfl)) (fun _ _ => rfl)))
      (pss_cons (ps_if (pt_cmpR op_eq (pv 3) pe_str (nomark _)) (pss_one (ps_ret (pe_op op_and (pv 4) (pv 5)))) pss_nil)
      (pss_cons (ps_if (pt_cmpR op_eq (pv 3) pe_str (nomark _)) (pss_one (ps_ret (pe_op op_or (pv 4) (pv 5)))) pss_nil)
      (pss_cons (ps_if (pt_cmpR op_eq (pv 3) pe_str (nomark _)) (pss_one (ps_ret (pe_op op_xor (pv 4) (pv 5)))) pss_nil)
      (pss_one (ps_ret (pe_op op_xor (pe_op op_xor (pv 4) (pv 5)) (pv 1)))))))))))))), ?_⟩
    unfold dbitAt dbit at q
    refine ⟨.ref r, rfl, r, _, 0, .str d.1, rfl, rfl, SqT.of er, dv0 d, ?_⟩
    refine ⟨.str d.1, rfl, rfl, _, rfl, ite2 (fun e => ?_) (fun n1 => ?_)⟩
    · rw [if_pos (strEq e)] at q
      exact q
    rw [if_neg (strNe n1)] at q
    refine ⟨.str d.1, rfl, rfl, _, rfl, ite2 (fun e => ?_) (fun n2 => ?_)⟩
    · rw [if_pos (strEq e)] at q
      exact q
    rw [if_neg (strNe n2)] at q
    refine ⟨.str d.1, rfl, rfl, _, rfl, ite2 (fun e => ?_) (fun n3 => ?_)⟩
    · rw [if_pos (strEq e)] at q
      exact ⟨.int c, rfl, q⟩
    rw [if_neg (strNe n3)] at q
    refine ⟨.str d.1, rfl, rfl, _, rfl, ite2 (fun e => ?_) (fun n4 => ?_)⟩
    · rw [if_pos (strEq e)] at q
      exact ⟨.int c, rfl, q⟩
    rw [if_neg (strNe n4)] at q
    obtain ⟨i, hi, ai, ei⟩ := arg1 ok (strNe n1) (strNe n3) (strNe n2)
    refine ⟨.ref L, rfl, .ref r, rfl, r, _, 1, .int i, rfl, rfl, SqT.of er, dvN (k := 0) hi, L, _, i, .int (argAt d told 0), rfl, rfl, eL, ei, ?_⟩
    refine ⟨.str d.1, rfl, rfl, _, rfl, ite2 (fun e => ?_) (fun n5 => ?_)⟩
    · rw [if_pos (strEq e)] at q
      exact ⟨.int _, rfl, 1, _, rfl, rfl, q⟩
    rw [if_neg (strNe n5)] at q
    refine ⟨.str d.1, rfl, rfl, _, rfl, ite2 (fun e => ?_) (fun n6 => ?_)⟩
    · rw [if_pos (strEq e)] at q
      exact ⟨.int _, rfl, 1, _, rfl, rfl, .int c, rfl, _, _, rfl, rfl, q⟩
    rw [if_neg (strNe n6)] at q
    obtain ⟨j, hj, aj, ej⟩ := arg2 ok (strNe n1) (strNe n3) (strNe n2) (strNe n5) (strNe n6) (strNe n4)
    refine ⟨.ref L, rfl, .ref r, rfl, r, _, 2, .int j, rfl, rfl, SqT.of er, dvN (k := 1) hj, L, _, j, .int (argAt d told 1), rfl, rfl, eL, ej, ?_⟩
    refine ⟨.str d.1, rfl, rfl, _, rfl, ite2 (fun e => ?_) (fun n7 => ?_)⟩
    · rw [if_pos (strEq e)] at q
      exact ⟨.int _, rfl, .int _, rfl, _, _, rfl, rfl, q⟩
    rw [if_neg (strNe n7)] at q
    refine ⟨.str d.1, rfl, rfl, _, rfl, ite2 (fun e => ?_) (fun n8 => ?_)⟩
    · rw [if_pos (strEq e)] at q
      exact ⟨.int _, rfl, .int _, rfl, _, _, rfl, rfl, q⟩
    rw [if_neg (strNe n8)] at q
    refine ⟨.str d.1, rfl, rfl, _, rfl, ite2 (fun e => ?_) (fun n9 => ?_)⟩
    · rw [if_pos (strEq e)] at q
      exact ⟨.int _, rfl, .int _, rfl, _, _, rfl, rfl, q⟩
    rw [if_neg (strNe n9)] at q
    exact ⟨.int _, rfl, .int _, rfl, _, _, rfl, rfl, .int c, rfl, _, _, rfl, rfl, q⟩
def spBo : Sp := fun vs H Q _ => ∃ (R C B : Addr) (m o : Int) (ds : List Deed) (cs bs : List Int), vs = [.ref R, .ref C, .ref B] ∧ RowAt H R m ds o ∧ DsOk m ds ∧ ds.length ≤ 100 ∧ H C = some (.tup (cs.map V.int)) ∧ cs.length = ds.length ∧ H B = some (.tup (bs.map V.int)) ∧ (bs.length : Int) = m ∧ bs.length ≤ 100 ∧
  ∀ H' p, Same H H' → H p = none → H' p = some (.tup ((bts ds cs bs).map V.int)) → Q (.ref p) H'
theorem ok_bo {f fB : Addr} {fd fdB : FuncData} {k : Nat} (F : Fun K "bits_of" "bits_of" s_bits_of f fd) (GB : FnOk P w K mg base CX0 (k + 1) fB fdB ["deed", "held", "told"] (spDb K)) (kB : PySem.W.keepIn K (.ref fB) = true) (bB : Binds K fdB ["deed", "held", "told"] []) (gB : mg "deed_bit" = some (.ref fB))
    (ml : mg "list" = none) (mt : mg "tuple" = none) (mz : mg "zip" = none) : FnOk P w K mg base CX0 (k + 2) f fd ["row", "carry", "bits"] spBo := by
  refine F.ok sc_bits_of (fun vs H Q E h => ?_) (fun cdv A outer s H vs Q E hr h => ?_)
  · obtain ⟨R, C, B, m, o, ds, cs, bs, rfl, _⟩ := h
    rfl
  · obtain ⟨R, C, B, m, o, ds, cs, bs, rfl, hrow, hok, hds, eC, hcl, eB, hm, hbl, q⟩ := h
    obtain ⟨D, rs, eR, eD, hd⟩ := id hrow
    refine ⟨_, pss_cons (ps_set (i := 3) sc_bits_of.nd rfl (.inl rfl) (pe_callTy call_list_of (by rfl) ml (by decide +kernel) (pa_cons (pv 2) pa_nil)))
      (pss_cons (ps_for PassesOwn.never rfl (RZ.pi_zipA (by rfl) mz (pa_cons (pe_ix ix_tup (pv 0) pe_int (fun _ _ => rfl)) (pa_cons (pv 1) pa_nil))) (pg_tup rfl (pgs_cons (pg_name (i := 4) sc_bits_of.nd rfl (.inl rfl)) (pgs_cons (pg_name (i := 5) sc_bits_of.nd rfl (.inl rfl)) pgs_nil)))
        (pss_one (ps_expr (pe_bm PySem.F.plainAttrs_list PySem.F.slot_list_append PySem.F.type_list_append mt_append (pv 3) (pa_cons (pe_call GB hr (by rfl) gB kB bB .nil pass0 (pa_cons (pv 4) (pa_cons (pv 5) (pa_cons (pv 3) pa_nil)))) pa_nil)))))
      (pss_one (ps_ret (pe_callTy call_tuple_of (by rfl) mt (by decide +kernel) (pa_cons (pv 3) pa_nil))))), ?_⟩
    refine ⟨.ref B, rfl, B, _, rfl, .inr (SqT.of eB), fun L hL => ?_⟩
    have sL := same_new (o := .lst (bs.map V.int)) hL
    have lrs : (rs.map V.ref).length = ds.length := by rw [List.length_map, awLen hd]
    have lcs : (cs.map V.int).length = ds.length := by rw [List.length_map, hcl]
    refine ⟨.ref R, rfl, R, _, 1, .ref D, rfl, rfl, SqT.of (sL _ _ eR), rfl, .ref C, rfl, D, C, _, _, rfl, .inr ⟨SqT.of (sL _ _ eD), SqT.of (sL _ _ eC), RZ.for_zipT (K := K) (xs := rs.map V.ref) (ys := cs.map V.int) (lrs.trans lcs.symm) (fun i σ H3 => ∃ y4 y5, σ = [some (.ref R), some (.ref C), some (.ref B), some (.ref L), y4, y5] ∧ H3 L = some (.lst ((bts (ds.take i) (cs.take i) bs).map V.int)) ∧ Same H H3) ⟨none, none, rfl, by rw [upd_same]; cases ds <;> rfl, sL⟩ (fun i σ H3 hp => ?_) (fun i x y T σ H3 hx hy hp hT => ?_) (fun σ H3 hp => ?_)⟩⟩
    · obtain ⟨_, _, _, _, sm⟩ := hp
      exact ⟨SqT.of (sm _ _ eD), SqT.of (sm _ _ eC)⟩
    · obtain ⟨y4, y5, rfl, e3, sm⟩ := hp
      have hi : i < rs.length := by
        have := (List.getElem?_eq_some_iff.mp hx).1
        rwa [List.length_map] at this
      have hx' : x = .ref rs[i] := by
        rw [List.getElem?_map, List.getElem?_eq_getElem hi] at hx
        exact (Option.some.inj hx).symm
      subst hx'
      obtain ⟨d, hd1, hd2⟩ := awGet hd (List.getElem?_eq_getElem hi)
      obtain ⟨c, hc, rfl⟩ : ∃ c, cs[i]? = some c ∧ y = .int c := by
        rw [List.getElem?_map] at hy
        cases e : cs[i]? with
        | none => rw [e] at hy; cases hy
        | some c => rw [e] at hy; exact ⟨c, rfl, (Option.some.inj hy).symm⟩
      have h2 : i < ds.length := by
        rw [← awLen hd]
        exact hi
      have hlen : (bts (ds.take i) (cs.take i) bs).length = bs.length + i := by
        rw [bts_len (by rw [List.length_take, List.length_take, hcl]), List.length_take, Nat.min_eq_left (Nat.le_of_lt h2)]
      have okd : DeedOk (bts (ds.take i) (cs.take i) bs).length d := by
        rw [hlen]
        have := hok.each i d hd1
        rw [← hm] at this
        exact this
      have sT := same_new (o := .tup [.ref rs[i], .int c]) hT
      have e4 := sT _ _ e3
      refine ⟨T, [.ref rs[i], .int c], rfl, .inl (.inl upd_same), rfl, .ref rs[i], [.int c], rfl, .int c, [], rfl, rfl, ?_⟩
      refine ⟨.ref L, rfl, .inl ⟨rfl, _, .inl (.inl e4)⟩, .ref rs[i], rfl, .int c, rfl, .ref L, rfl, rs[i], L, d, _, c, rfl, sT _ _ (sm _ _ hd2), .inl (.inl e4), okd, L, _, _, rfl, rfl, e4, ?_, some (.ref rs[i]), some (.int c), rfl, ?_, ?_⟩
      · rw [List.length_map, hlen]
        exact small1000 (by omega)
      · rw [upd_same, bts_next hd1 hc, List.map_append]
        rfl
      · intro b u e
        rw [upd_ne (ne_of_none e hL)]
        exact sT b u (sm b u e)
    · obtain ⟨y4, y5, rfl, e3, sm⟩ := hp
      rw [lrs, List.take_length, ← hcl, List.take_length] at e3
      refine ⟨.ref L, rfl, L, _, rfl, .inl ⟨.inl (.inl e3), fun p hp => ?_⟩⟩
      exact q _ p (sm.trans (same_new hp)) (sm.free hp) upd_same
/-! ### two_or_more, deed_carry -/
def spTm : Sp := fun vs H Q _ => ∃ a b c : Int, vs = [.int a, .int b, .int c] ∧ Q (.int ((a + b + c) / 2)) H
theorem ok_tm {f : Addr} {fd : FuncData} {k : Nat} (F : Fun K "two_or_more" "two_or_more" s_two_or_more f fd) : FnOk P w K mg base CX0 (k + 1) f fd ["one", "other", "third"] spTm := by
  refine F.ok sc_two_or_more (fun vs H Q E h => ?_) (fun cdv A outer s H vs Q E hr h => ?_)
  · obtain ⟨a, b, c, rfl, _⟩ := h
    rfl
  · obtain ⟨a, b, c, rfl, q⟩ := h
    refine ⟨_, pss_one (ps_ret (pe_op op_fdiv (pe_op op_add (pe_op op_add (pv 0) (pv 1)) (pv 2)) pe_int)), ?_⟩
    exact ⟨.int a, rfl, .int b, rfl, a, b, rfl, rfl, .int c, rfl, _, c, rfl, rfl, _, 2, rfl, rfl, ⟨by decide, by decide⟩, q⟩
def spDc : Sp := fun vs H Q _ => ∃ (r L : Addr) (d : Deed) (told : List Int) (c : Int), vs = [.ref r, .int c, .ref L] ∧ H r = some (.tup (dV d)) ∧ H L = some (.tup (told.map V.int)) ∧ DeedOk told.length d ∧ Q (.int (dcarAt d c told)) H
theorem ok_dc {f fT : Addr} {fd fdT : FuncData} {k : Nat} (F : Fun K "deed_carry" "deed_carry" s_deed_carry f fd) (GT : FnOk P w K mg base CX0 (k + 1) fT fdT ["one", "other", "third"] spTm) (kT : PySem.W.keepIn K (.ref fT) = true) (bT : Binds K fdT ["one", "other", "third"] []) (gT : mg "two_or_more" = some (.ref fT)) :
    FnOk P w K mg base CX0 (k + 2) f fd ["deed", "held", "told"] spDc := by
  refine F.ok sc_deed_carry (fun vs H Q E h => ?_) (fun cdv A outer s H vs Q E hr h => ?_)
  · obtain ⟨r, L, d, told, c, rfl, _⟩ := h
    rfl
  · obtain ⟨r, L, d, told, c, rfl, er, eL, ok, q⟩ := h
    refine ⟨_, pss_cons (ps_set (i := 3) sc_deed_carry.nd rfl (.inl rfl) (pe_ix ix_tup (pv 0) pe_int (fun _ _ => rfl)))
      (pss_cons (ps_if (pt_cmpR op_eq (pv 3) pe_str (nomark _)) (pss_one (ps_ret (pe_op op_and (pe_op op_sub pe_int (pe_ix ix_tup (pv 2) (pe_ix ix_tup (pv 0) pe_int (fun _ _ => rfl)) (fun _ _ => rfl))) (pv 1)))) pss_nil)
      (pss_cons (ps_if (pt_cmpR op_eq (pv 3) pe_str (nomark _)) (pss_one (ps_ret (pe_ix ix_tup (pv 2) (pe_ix ix_tup (pv 0) pe_int (fun _ _ => rfl)) (fun _ _ => rfl)))) pss_nil)
      (pss_cons (ps_if (pt_cmpR op_eq (pv 3) pe_str (nomark _)) (pss_one (ps_ret (pe_call GT hr (by rfl) gT kT bT .nil pass0 (pa_cons (pe_ix ix_tup (pv 2) (pe_ix ix_tup (pv 0) pe_int (fun _ _ => rfl)) (fun _ _ => rfl)) (pa_cons (pe_ix ix_tup (pv 2) (pe_ix ix_tup (pv 0) pe_int (fun _ _ => rfl)) (fun _ _ => rfl)) (pa_cons (pv 1) pa_nil)))))) pss_nil)
      (pss_cons (ps_if (pt_cmpR op_eq (pv 3) pe_str (nomark _)) (pss_one (ps_ret (pe_call GT hr (by rfl) gT kT bT .nil pass0 (pa_cons (pe_op op_sub pe_int (pe_ix ix_tup (pv 2) (pe_ix ix_tup (pv 0) pe_int (fun _ _ => rfl)) (fun _ _ => rfl))) (pa_cons (pe_ix ix_tup (pv 2) (pe_ix ix_tup (pv 0) pe_int (fun _ _ => rfl)) (fun _ _ => rfl)) (pa_cons (pv 1) pa_nil)))))) pss_nil)
      (pss_one (ps_ret pe_int)))))), ?_⟩
    unfold dcarAt dcar at q
    have lL : SqT K H L (told.map V.int) := SqT.of eL
    refine ⟨.ref r, rfl, r, _, 0, .str d.1, rfl, rfl, SqT.of er, dv0 d, ?_⟩
    refine ⟨.str d.1, rfl, rfl, _, rfl, ite2 (fun e => ?_) (fun n1 => ?_)⟩
    · rw [if_pos (strEq e)] at q
      have e2 := strEq e
      obtain ⟨i, hi, ai, ei⟩ := arg1 ok (by rw [e2]; decide +kernel) (by rw [e2]; decide +kernel) (by rw [e2]; decide +kernel)
      exact ⟨.ref L, rfl, .ref r, rfl, r, _, 1, .int i, rfl, rfl, SqT.of er, dvN (k := 0) hi, L, _, i, _, rfl, rfl, lL, ei, 1, _, rfl, rfl, .int c, rfl, _, _, rfl, rfl, q⟩
    rw [if_neg (strNe n1)] at q
    refine ⟨.str d.1, rfl, rfl, _, rfl, ite2 (fun e => ?_) (fun n2 => ?_)⟩
    · rw [if_pos (strEq e)] at q
      have e2 := strEq e
      obtain ⟨i, hi, ai, ei⟩ := arg1 ok (by rw [e2]; decide +kernel) (by rw [e2]; decide +kernel) (by rw [e2]; decide +kernel)
      exact ⟨.ref L, rfl, .ref r, rfl, r, _, 1, .int i, rfl, rfl, SqT.of er, dvN (k := 0) hi, L, _, i, _, rfl, rfl, lL, ei, q⟩
    rw [if_neg (strNe n2)] at q
    refine ⟨.str d.1, rfl, rfl, _, rfl, ite2 (fun e => ?_) (fun n3 => ?_)⟩
    · rw [if_pos (strEq e)] at q
      have e2 := strEq e
      obtain ⟨i, hi, ai, ei⟩ := arg1 ok (by rw [e2]; decide +kernel) (by rw [e2]; decide +kernel) (by rw [e2]; decide +kernel)
      obtain ⟨j, hj, aj, ej⟩ := arg2 ok (by rw [e2]; decide +kernel) (by rw [e2]; decide +kernel) (by rw [e2]; decide +kernel) (by rw [e2]; decide +kernel) (by rw [e2]; decide +kernel) (by rw [e2]; decide +kernel)
      exact ⟨.ref L, rfl, .ref r, rfl, r, _, 1, .int i, rfl, rfl, SqT.of er, dvN (k := 0) hi, L, _, i, _, rfl, rfl, lL, ei, .ref L, rfl, .ref r, rfl, r, _, 2, .int j, rfl, rfl, SqT.of er, dvN (k := 1) hj, L, _, j, _, rfl, rfl, lL, ej, .int c, rfl, _, _, c, rfl, q⟩
    rw [if_neg (strNe n3)] at q
    refine ⟨.str d.1, rfl, rfl, _, rfl, ite2 (fun e => ?_) (fun n4 => ?_)⟩
    · rw [if_pos (strEq e)] at q
      have e2 := strEq e
      obtain ⟨i, hi, ai, ei⟩ := arg1 ok (by rw [e2]; decide +kernel) (by rw [e2]; decide +kernel) (by rw [e2]; decide +kernel)
      obtain ⟨j, hj, aj, ej⟩ := arg2 ok (by rw [e2]; decide +kernel) (by rw [e2]; decide +kernel) (by rw [e2]; decide +kernel) (by rw [e2]; decide +kernel) (by rw [e2]; decide +kernel) (by rw [e2]; decide +kernel)
      exact ⟨.ref L, rfl, .ref r, rfl, r, _, 1, .int i, rfl, rfl, SqT.of er, dvN (k := 0) hi, L, _, i, _, rfl, rfl, lL, ei, 1, _, rfl, rfl, .ref L, rfl, .ref r, rfl, r, _, 2, .int j, rfl, rfl, SqT.of er, dvN (k := 1) hj, L, _, j, _, rfl, rfl, lL, ej, .int c, rfl, _, _, c, rfl, q⟩
    rw [if_neg (strNe n4)] at q
    exact q
theorem okd_more {m : Int} {i n : Nat} {d : Deed} (h : DeedOk (m + i) d) (hn : m + i ≤ n) : DeedOk n d := ⟨h.word, fun z hz => ⟨(h.ahead z hz).1, by have := (h.ahead z hz).2; omega⟩⟩
/-! ### bits tell values -/
def bitA (t : Nat) (x : Int) : Int := x / 2 ^ t % 2
theorem bitA_bit (t : Nat) (x : Int) : Bit (bitA t x) := by
  have h0 := Int.emod_nonneg (x / 2 ^ t) (show (2 : Int) ≠ 0 by decide)
  have h1 := Int.emod_lt_of_pos (x / 2 ^ t) (show (0 : Int) < 2 by decide)
  unfold bitA Bit
  omega
/-- the bit at p -/
theorem bit_at {V p u k r : Int} (hp : 0 < p) (h : V = p * (2 * u + k) + r) (r0 : 0 ≤ r) (r1 : r < p) : V / p % 2 = k % 2 := by
  have e : V / p = 2 * u + k := by
    rw [h, Int.add_comm, Int.add_mul_ediv_left _ _ (by omega), Int.ediv_eq_zero_of_lt r0 r1, Int.zero_add]
  rw [e]
  omega
theorem bit_val {k : Int} (h : Bit k) : k % 2 = k := by rcases h with rfl | rfl <;> decide
theorem low_next (A : Int) {p : Int} (hp : 0 < p) : A % (2 * p) = p * (A / p % 2) + A % p := by
  have e := Int.mul_ediv_add_emod A p
  have e2 := Int.mul_ediv_add_emod (A / p) 2
  have r0 := Int.emod_nonneg A (show p ≠ 0 by omega)
  have r1 := Int.emod_lt_of_pos A hp
  have hb := bitA_bit 0 (A / p)
  have b : A / p % 2 = 0 ∨ A / p % 2 = 1 := by omega
  have e3 : A = 2 * p * (A / p / 2) + (p * (A / p % 2) + A % p) := by
    have z : p * (A / p) = p * (2 * (A / p / 2) + A / p % 2) := by rw [e2]
    rw [Int.mul_add, ← Int.mul_assoc, Int.mul_comm p 2] at z
    omega
  have s0 : 0 ≤ p * (A / p % 2) + A % p := by rcases b with b | b <;> rw [b] <;> omega
  have s1 : p * (A / p % 2) + A % p < 2 * p := by rcases b with b | b <;> rw [b] <;> omega
  generalize p * (A / p % 2) + A % p = s at e3 s0 s1
  rw [e3, Int.mul_add_emod_self_left, Int.emod_eq_of_lt s0 s1]
/-- what is carried into the bit at p -/
def CI (x : Str) (A B p c : Int) : Prop :=
  if x = "add" then ∃ r, A % p + B % p = p * c + r ∧ 0 ≤ r ∧ r < p
  else if x = "sub" then ∃ r, A % p - B % p = r - p * c ∧ 0 ≤ r ∧ r < p
  else if x = "neg" then ∃ r, -(A % p) = r - p * (1 - c) ∧ 0 ≤ r ∧ r < p
  else if x = "twice" then ∃ r, A % p + A % p = p * c + r ∧ 0 ≤ r ∧ r < p
  else if x = "one" then c = if p = 1 then 1 else 0
  else c = 0
theorem ci_first (d : Deed) (A B : Int) : CI d.1 A B 1 (fcD d) := by
  unfold CI fcD
  rw [Int.emod_one, Int.emod_one]
  by_cases h1 : d.1 = "add"
  · rw [if_pos h1, h1]
    exact ⟨0, by decide, by decide, by decide⟩
  rw [if_neg h1]
  by_cases h2 : d.1 = "sub"
  · rw [if_pos h2, h2]
    exact ⟨0, by decide, by decide, by decide⟩
  rw [if_neg h2]
  by_cases h3 : d.1 = "neg"
  · rw [if_pos h3, h3]
    exact ⟨0, by decide, by decide, by decide⟩
  rw [if_neg h3]
  by_cases h4 : d.1 = "twice"
  · rw [if_pos h4, h4]
    exact ⟨0, by decide, by decide, by decide⟩
  rw [if_neg h4]
  by_cases h5 : d.1 = "one"
  · rw [if_pos h5, h5]
    decide
  rw [if_neg h5, if_neg (by simp [h3, h5])]
theorem ci_next {x : Str} {A B p c : Int} (hp : 0 < p) (hc : Bit c) (h : CI x A B p c) : CI x A B (2 * p) (dcar x (A / p % 2) (B / p % 2) c) := by
  have ba : Bit (A / p % 2) := by unfold Bit; omega
  have bb : Bit (B / p % 2) := by unfold Bit; omega
  have la := low_next A hp
  have lb := low_next B hp
  have a0 := Int.emod_nonneg A (show p ≠ 0 by omega)
  have a1 := Int.emod_lt_of_pos A hp
  generalize A / p % 2 = α at la ba
  generalize B / p % 2 = β at lb bb
  unfold CI at h ⊢
  rw [la, lb]
  generalize A % p = a at h a0 a1
  generalize B % p = b at h
  by_cases h1 : x = "add"
  · subst h1
    rw [if_pos rfl] at h ⊢
    obtain ⟨r, e, r0, r1⟩ := h
    rcases ba with rfl | rfl <;> rcases bb with rfl | rfl <;> rcases hc with rfl | rfl
    · exact ⟨r, by show _ = 2 * p * 0 + r; omega, r0, by omega⟩
    · exact ⟨p + r, by show _ = 2 * p * 0 + (p + r); omega, by omega, by omega⟩
    · exact ⟨p + r, by show _ = 2 * p * 0 + (p + r); omega, by omega, by omega⟩
    · exact ⟨r, by show _ = 2 * p * 1 + r; omega, r0, by omega⟩
    · exact ⟨p + r, by show _ = 2 * p * 0 + (p + r); omega, by omega, by omega⟩
    · exact ⟨r, by show _ = 2 * p * 1 + r; omega, r0, by omega⟩
    · exact ⟨r, by show _ = 2 * p * 1 + r; omega, r0, by omega⟩
    · exact ⟨p + r, by show _ = 2 * p * 1 + (p + r); omega, by omega, by omega⟩
  rw [if_neg h1] at h ⊢
  by_cases h2 : x = "sub"
  · subst h2
    rw [if_pos rfl] at h ⊢
    obtain ⟨r, e, r0, r1⟩ := h
    rcases ba with rfl | rfl <;> rcases bb with rfl | rfl <;> rcases hc with rfl | rfl
    · exact ⟨r, by show _ = r - 2 * p * 0; omega, r0, by omega⟩
    · exact ⟨p + r, by show _ = (p + r) - 2 * p * 1; omega, by omega, by omega⟩
    · exact ⟨p + r, by show _ = (p + r) - 2 * p * 1; omega, by omega, by omega⟩
    · exact ⟨r, by show _ = r - 2 * p * 1; omega, r0, by omega⟩
    · exact ⟨p + r, by show _ = (p + r) - 2 * p * 0; omega, by omega, by omega⟩
    · exact ⟨r, by show _ = r - 2 * p * 0; omega, r0, by omega⟩
    · exact ⟨r, by show _ = r - 2 * p * 0; omega, r0, by omega⟩
    · exact ⟨p + r, by show _ = (p + r) - 2 * p * 1; omega, by omega, by omega⟩
  rw [if_neg h2] at h ⊢
  by_cases h3 : x = "neg"
  · subst h3
    rw [if_pos rfl] at h ⊢
    obtain ⟨r, e, r0, r1⟩ := h
    rcases ba with rfl | rfl <;> rcases hc with rfl | rfl
    · exact ⟨p + r, by show _ = (p + r) - 2 * p * (1 - 0); omega, by omega, by omega⟩
    · exact ⟨r, by show _ = r - 2 * p * (1 - 1); omega, r0, by omega⟩
    · exact ⟨r, by show _ = r - 2 * p * (1 - 0); omega, r0, by omega⟩
    · exact ⟨p + r, by show _ = (p + r) - 2 * p * (1 - 0); omega, by omega, by omega⟩
  rw [if_neg h3] at h ⊢
  by_cases h4 : x = "twice"
  · subst h4
    rw [if_pos rfl] at h ⊢
    obtain ⟨r, e, r0, r1⟩ := h
    rcases ba with rfl | rfl
    · exact ⟨a + a, by show _ = 2 * p * 0 + (a + a); omega, by omega, by omega⟩
    · exact ⟨a + a, by show _ = 2 * p * 1 + (a + a); omega, by omega, by omega⟩
  rw [if_neg h4] at h ⊢
  have hz : dcar x α β c = 0 := by
    unfold dcar
    rw [if_neg h3, if_neg h4, if_neg h1, if_neg h2]
  by_cases h5 : x = "one"
  · rw [if_pos h5, hz, if_neg (by omega)]
  · rw [if_neg h5, hz]
theorem nat_bits {a b t : Nat} : ((a &&& b) / 2 ^ t % 2 = (a / 2 ^ t % 2) &&& (b / 2 ^ t % 2)) ∧ ((a ||| b) / 2 ^ t % 2 = (a / 2 ^ t % 2) ||| (b / 2 ^ t % 2)) ∧ ((a ^^^ b) / 2 ^ t % 2 = (a / 2 ^ t % 2) ^^^ (b / 2 ^ t % 2)) := by
  refine ⟨?_, ?_, ?_⟩
  · rw [← Nat.shiftRight_eq_div_pow, ← Nat.shiftRight_eq_div_pow, ← Nat.shiftRight_eq_div_pow, Nat.shiftRight_and_distrib]
    exact Nat.and_mod_two_pow (n := 1)
  · rw [← Nat.shiftRight_eq_div_pow, ← Nat.shiftRight_eq_div_pow, ← Nat.shiftRight_eq_div_pow, Nat.shiftRight_or_distrib]
    exact Nat.or_mod_two_pow (n := 1)
  · rw [← Nat.shiftRight_eq_div_pow, ← Nat.shiftRight_eq_div_pow, ← Nat.shiftRight_eq_div_pow, Nat.shiftRight_xor_distrib]
    exact Nat.xor_mod_two_pow (n := 1)
theorem cast_bit (a t : Nat) : bitA t (a : Int) = ((a / 2 ^ t % 2 : Nat) : Int) := by
  unfold bitA
  rw [pw_cast]
  omega
theorem bit_land {A B : Int} (t : Nat) (ha : 0 ≤ A) (hb : 0 ≤ B) : bitA t (Builtin.bitAnd A B) = Builtin.bitAnd (bitA t A) (bitA t B) := by
  obtain ⟨a, rfl⟩ := Int.eq_ofNat_of_zero_le ha
  obtain ⟨b, rfl⟩ := Int.eq_ofNat_of_zero_le hb
  rw [cast_bit, cast_bit, bitAnd_pp (Int.natCast_nonneg _) (Int.natCast_nonneg _), bitAnd_pp (Int.natCast_nonneg _) (Int.natCast_nonneg _)]
  simp only [Int.toNat_natCast]
  rw [cast_bit, nat_bits.1]
theorem bit_lor {A B : Int} (t : Nat) (ha : 0 ≤ A) (hb : 0 ≤ B) : bitA t (Builtin.bitOr A B) = Builtin.bitOr (bitA t A) (bitA t B) := by
  obtain ⟨a, rfl⟩ := Int.eq_ofNat_of_zero_le ha
  obtain ⟨b, rfl⟩ := Int.eq_ofNat_of_zero_le hb
  rw [cast_bit, cast_bit, bitOr_nn (Int.natCast_nonneg _) (Int.natCast_nonneg _), bitOr_nn (Int.natCast_nonneg _) (Int.natCast_nonneg _)]
  simp only [Int.toNat_natCast]
  rw [cast_bit, nat_bits.2.1]
theorem bit_lxor {A B : Int} (t : Nat) (ha : 0 ≤ A) (hb : 0 ≤ B) : bitA t (Builtin.bitXor A B) = Builtin.bitXor (bitA t A) (bitA t B) := by
  obtain ⟨a, rfl⟩ := Int.eq_ofNat_of_zero_le ha
  obtain ⟨b, rfl⟩ := Int.eq_ofNat_of_zero_le hb
  rw [cast_bit, cast_bit, Bits.bitXor_pp (Int.natCast_nonneg _) (Int.natCast_nonneg _), Bits.bitXor_pp (Int.natCast_nonneg _) (Int.natCast_nonneg _)]
  simp only [Int.toNat_natCast]
  rw [cast_bit, nat_bits.2.2]
theorem dbit_tells {x : Str} {A B c : Int} {t n : Nat} (hx : x ∈ fwL.map (·.1)) (ht : t < n) (ha : 0 ≤ A) (hb : 0 ≤ B) (hc : Bit c) (h : CI x A B (2 ^ t) c) : dbit x (bitA t A) (bitA t B) c = bitA t (dvalue x A B (2 ^ n)) := by
  have hp := pw_pos t
  have eA := Int.mul_ediv_add_emod A (2 ^ t)
  have eB := Int.mul_ediv_add_emod B (2 ^ t)
  have qa := Int.mul_ediv_add_emod (A / 2 ^ t) 2
  have qb := Int.mul_ediv_add_emod (B / 2 ^ t) 2
  have a0 := Int.emod_nonneg A (show (2 : Int) ^ t ≠ 0 by omega)
  have a1 := Int.emod_lt_of_pos A hp
  have b0 := Int.emod_nonneg B (show (2 : Int) ^ t ≠ 0 by omega)
  have b1 := Int.emod_lt_of_pos B hp
  have ba := bitA_bit t A
  have bb := bitA_bit t B
  obtain ⟨N', hN⟩ : ∃ N' : Int, (2 : Int) ^ n = 2 ^ t * (2 * N') := by
    refine ⟨2 ^ (n - t - 1), ?_⟩
    rw [show n = t + 1 + (n - t - 1) by omega, Int.pow_add, Int.pow_succ, Int.mul_assoc]
    congr 3
    omega
  have land := bit_land t ha hb
  have lor := bit_lor t ha hb
  have lxor := bit_lxor t ha hb
  have tt : bitA t (A + A) = (A + A) / 2 ^ t % 2 := rfl
  rw [hN]
  unfold CI at h
  have p1 : (2 : Int) ^ t = 1 ∨ 2 ≤ (2 : Int) ^ t := by omega
  unfold bitA at ba bb ⊢
  unfold bitA at land lor lxor
  clear tt hN
  generalize (2 : Int) ^ t = p at *
  generalize hα : A / p % 2 = α at *
  generalize hβ : B / p % 2 = β at *
  generalize A % p = a at *
  generalize B % p = b at *
  generalize A / p / 2 = A' at *
  generalize B / p / 2 = B' at *
  have dA : A = p * (2 * A' + α) + a := by rw [qa]; omega
  have dB : B = p * (2 * B' + β) + b := by rw [qb]; omega
  have mA := Int.mul_add p (2 * A') α
  have mB := Int.mul_add p (2 * B') β
  simp only [fwL, List.map_cons, List.map_nil, List.mem_cons, List.not_mem_nil, or_false] at hx
  rcases hx with rfl | rfl | rfl | rfl | rfl | rfl | rfl | rfl | rfl | rfl | rfl
  · show (0 : Int) = 0 / p % 2
    rw [Int.zero_ediv]
    rfl
  · show c = 1 / p % 2
    have hc1 : c = if p = 1 then 1 else 0 := h
    rcases p1 with p1 | p1
    · rw [hc1, if_pos p1, p1]
      decide
    · rw [hc1, if_neg (by omega), Int.ediv_eq_zero_of_lt (by omega) (by omega)]
      rfl
  · show (1 : Int) = (p * (2 * N') - 1) / p % 2
    rw [bit_at (u := N' - 1) (k := 1) (r := p - 1) hp (by rw [Int.mul_add, Int.mul_sub, Int.mul_sub]; omega) (by omega) (by omega)]
    decide
  · show 1 - α = (p * (2 * N') - 1 - A) / p % 2
    have e : p * (2 * (N' - 1 - A') + (1 - α)) = p * (2 * N') - p * (2 * A') - p * α - p := by
      rw [Int.mul_add, Int.mul_sub 2, Int.mul_sub 2, Int.mul_sub p, Int.mul_sub p, Int.mul_sub p]
      omega
    rw [bit_at (u := N' - 1 - A') (k := 1 - α) (r := p - 1 - a) hp (by rw [e]; omega) (by omega) (by omega)]
    rcases ba with rfl | rfl <;> decide
  · show Builtin.bitXor (1 - α) c = (-A) / p % 2
    obtain ⟨r, er, r0, r1⟩ : ∃ r, -a = r - p * (1 - c) ∧ 0 ≤ r ∧ r < p := h
    have e : p * (2 * (-A') + (-α - 1 + c)) = -(p * (2 * A')) - p * α - p * (1 - c) := by
      rw [Int.mul_add, Int.mul_neg, Int.mul_neg, Int.mul_sub, Int.mul_add, Int.mul_sub, Int.mul_neg]
      omega
    rw [bit_at (u := -A') (k := -α - 1 + c) (r := r) hp (by rw [e]; omega) r0 r1]
    rcases ba with rfl | rfl <;> rcases hc with rfl | rfl <;> decide
  · show c = (A + A) / p % 2
    obtain ⟨r, er, r0, r1⟩ : ∃ r, a + a = p * c + r ∧ 0 ≤ r ∧ r < p := h
    have e : p * (2 * (2 * A' + α) + c) = 2 * (p * (2 * A')) + 2 * (p * α) + p * c := by
      rw [Int.mul_add, Int.mul_left_comm, Int.mul_add p]
      omega
    rw [bit_at (u := 2 * A' + α) (k := c) (r := r) hp (by rw [e]; omega) r0 r1, bit_val hc]
  · show Builtin.bitAnd α β = Builtin.bitAnd A B / p % 2
    rw [land]
  · show Builtin.bitOr α β = Builtin.bitOr A B / p % 2
    rw [lor]
  · show Builtin.bitXor α β = Builtin.bitXor A B / p % 2
    rw [lxor]
  · show Builtin.bitXor (Builtin.bitXor α β) c = (A + B) / p % 2
    obtain ⟨r, er, r0, r1⟩ : ∃ r, a + b = p * c + r ∧ 0 ≤ r ∧ r < p := h
    have e : p * (2 * (A' + B') + (α + β + c)) = p * (2 * A') + p * (2 * B') + p * α + p * β + p * c := by
      rw [Int.mul_add 2, Int.mul_add, Int.mul_add p, Int.mul_add p, Int.mul_add p]
      omega
    rw [bit_at (u := A' + B') (k := α + β + c) (r := r) hp (by rw [e]; omega) r0 r1]
    rcases ba with rfl | rfl <;> rcases bb with rfl | rfl <;> rcases hc with rfl | rfl <;> decide
  · show Builtin.bitXor (Builtin.bitXor α β) c = (A - B) / p % 2
    obtain ⟨r, er, r0, r1⟩ : ∃ r, a - b = r - p * c ∧ 0 ≤ r ∧ r < p := h
    have e : p * (2 * (A' - B') + (α - β - c)) = p * (2 * A') - p * (2 * B') + p * α - p * β - p * c := by
      rw [Int.mul_sub 2, Int.mul_add, Int.mul_sub p, Int.mul_sub p, Int.mul_sub p]
      omega
    rw [bit_at (u := A' - B') (k := α - β - c) (r := r) hp (by rw [e]; omega) r0 r1]
    rcases ba with rfl | rfl <;> rcases bb with rfl | rfl <;> rcases hc with rfl | rfl <;> decide
/-! ### how many deeds carry -/
def carN : List Deed → Nat
  | [] => 0
  | d :: ds => carN ds + if d.1 ∈ twC then 1 else 0
/-! ### rows' bits and carries -/
theorem bit_mod {V : Int} {t n : Nat} (h : t < n) : bitA t (V % 2 ^ n) = bitA t V := by
  obtain ⟨N', hN⟩ : ∃ N' : Int, (2 : Int) ^ n = 2 ^ t * (2 * N') := by
    refine ⟨2 ^ (n - t - 1), ?_⟩
    rw [show n = t + 1 + (n - t - 1) by omega, Int.pow_add, Int.pow_succ, Int.mul_assoc]
    congr 3
    omega
  have hp := pw_pos t
  have e := Int.mul_ediv_add_emod V (2 ^ n)
  have e1 := Int.mul_ediv_add_emod (V % 2 ^ n) (2 ^ t)
  have r0 := Int.emod_nonneg (V % 2 ^ n) (show (2 : Int) ^ t ≠ 0 by omega)
  have r1 := Int.emod_lt_of_pos (V % 2 ^ n) hp
  unfold bitA
  have z : V / 2 ^ t % 2 = (V % 2 ^ n / 2 ^ t) % 2 := by
    refine bit_at (u := N' * (V / 2 ^ n)) (k := V % 2 ^ n / 2 ^ t) (r := V % 2 ^ n % 2 ^ t) hp ?_ r0 r1
    have e2 : (2 : Int) ^ t * (2 * (N' * (V / 2 ^ n))) = 2 ^ n * (V / 2 ^ n) := by rw [hN, Int.mul_assoc, Int.mul_assoc]
    rw [Int.mul_add, e2]
    omega
  exact z.symm
theorem vals_pre {N : Int} : ∀ (ds : List Deed) (t : List Int), (vals N ds t).take t.length = t
  | [], t => List.take_length
  | d :: ds, t => by
    have h := vals_pre ds (t ++ [dval N d t]) (N := N)
    show (vals N ds (t ++ [dval N d t])).take t.length = t
    have h2 : ((vals N ds (t ++ [dval N d t])).take (t ++ [dval N d t]).length).take t.length = t := by
      rw [h]
      exact List.take_left
    rw [List.take_take, List.length_append, Nat.min_eq_left (by omega)] at h2
    exact h2
theorem vals_at {N : Int} {ds : List Deed} {xs : List Int} (i : Nat) (hi : i ≤ ds.length) : vals N (ds.take i) xs = (vals N ds xs).take (xs.length + i) := by
  have e : vals N ds xs = vals N (ds.drop i) (vals N (ds.take i) xs) := by rw [← vals_append, List.take_append_drop]
  have l : (vals N (ds.take i) xs).length = xs.length + i := by rw [vals_len, List.length_take, Nat.min_eq_left hi]
  rw [e, ← l, vals_pre]
theorem ix_lt {d : Deed} {n : Nat} (h : DeedOk n d) (hn : 1 ≤ n) (k : Nat) : (d.2.getD k 0).toNat < n := by
  rw [List.getD_eq_getElem?_getD]
  cases e : d.2[k]? with
  | none => exact hn
  | some i =>
    obtain ⟨h0, h1⟩ := h.ahead i (List.mem_of_getElem? e)
    show i.toNat < n
    omega
theorem arg_map {d : Deed} {told : List Int} (f : Int → Int) (h : DeedOk told.length d) (hn : 1 ≤ told.length) (k : Nat) : argAt d (told.map f) k = f (argAt d told k) := by
  have hi := ix_lt h hn k
  unfold argAt
  generalize (d.2.getD k 0).toNat = j at hi
  rw [List.getD_eq_getElem?_getD, List.getD_eq_getElem?_getD, List.getElem?_map, List.getElem?_eq_getElem hi]
  rfl
theorem arg_take {d : Deed} {v : List Int} {n : Nat} (h : DeedOk n d) (hn : 1 ≤ n) (hv : n ≤ v.length) (k : Nat) : argAt d (v.take n) k = argAt d v k := by
  have hi := ix_lt h hn k
  unfold argAt
  generalize (d.2.getD k 0).toNat = j at hi
  rw [List.getD_eq_getElem?_getD, List.getD_eq_getElem?_getD, List.getElem?_take, if_pos hi]
/-- the carries into bit t -/
structure CIs (v : List Int) (t : Nat) (ds : List Deed) (cs : List Int) : Prop where
  len : cs.length = ds.length
  each : ∀ (k : Nat) d c, ds[k]? = some d → cs[k]? = some c → CI d.1 (argAt d v 0) (argAt d v 1) (2 ^ t) c ∧ Bit c
theorem cis_first (v : List Int) (ds : List Deed) : CIs v 0 ds (ds.map fcD) where
  len := List.length_map ..
  each := fun k d c hd hc => by
    rw [List.getElem?_map, hd] at hc
    obtain rfl := Option.some.inj hc
    refine ⟨ci_first d _ _, ?_⟩
    unfold fcD
    split
    · exact bit1
    · exact bit0
theorem cis_bits {m n t : Nat} {ds : List Deed} {xs cs : List Int} (ok : DsOk m ds) (hm : xs.length = m) (m1 : 1 ≤ m) (hx : ∀ x ∈ xs, 0 ≤ x ∧ x < 2 ^ n) (ht : t < n) (h : CIs (vals (2 ^ n) ds xs) t ds cs) : bts ds cs (xs.map (bitA t)) = (vals (2 ^ n) ds xs).map (bitA t) := by
  have vr := vals_range (pw_pos n) ds xs hx
  have vl := vals_len (size := 2 ^ n) ds xs
  have key : ∀ i, i ≤ ds.length → bts (ds.take i) (cs.take i) (xs.map (bitA t)) = ((vals (2 ^ n) ds xs).take (xs.length + i)).map (bitA t) := by
    intro i
    induction i with
    | zero =>
      intro _
      rw [Nat.add_zero, vals_pre]
      cases ds <;> rfl
    | succ i ih =>
      intro hi
      have hd : ds[i]? = some ds[i] := List.getElem?_eq_getElem (by omega)
      have hc : cs[i]? = some (cs[i]'(by rw [h.len]; omega)) := List.getElem?_eq_getElem _
      obtain ⟨h1, h2⟩ := h.each i _ _ hd hc
      generalize ds[i] = d at hd h1
      generalize cs[i]'(by rw [h.len]; omega) = c at hc h1 h2
      have okd : DeedOk ((xs.length + i : Nat) : Int) d := by
        have := ok.each i d hd
        rw [hm]
        have e : ((m + i : Nat) : Int) = (m : Int) + (i : Int) := by omega
        rw [e]
        exact this
      have pl : ((vals (2 ^ n) ds xs).take (xs.length + i)).length = xs.length + i := by
        rw [List.length_take, vl]
        omega
      rw [bts_next hd hc, ih (by omega), ← vals_at (i + 1) hi, vals_next hd, vals_at i (by omega), List.map_append]
      congr 1
      show [dbitAt d c _] = [bitA t (dval (2 ^ n) d _)]
      unfold dbitAt dval
      rw [arg_map _ (by rw [pl]; exact okd) (by omega), arg_map _ (by rw [pl]; exact okd) (by omega), arg_take okd (by omega) (by omega), arg_take okd (by omega) (by omega), bit_mod ht]
      rw [dbit_tells (List.mem_map.mpr ⟨_, okd.word, rfl⟩) ht (arg_nn (fun x hx => (vr x hx).1) d 0) (arg_nn (fun x hx => (vr x hx).1) d 1) h2 h1]
  have e := key ds.length (Nat.le_refl _)
  rw [List.take_length, ← h.len, List.take_length, h.len, ← vl, List.take_length] at e
  exact e
theorem cis_next {m n t : Nat} {ds : List Deed} {xs cs : List Int} (ok : DsOk m ds) (hm : xs.length = m) (m1 : 1 ≤ m) (h : CIs (vals (2 ^ n) ds xs) t ds cs) : CIs (vals (2 ^ n) ds xs) (t + 1) ds (nxt ds cs ((vals (2 ^ n) ds xs).map (bitA t))) where
  len := nxt_len h.len.symm
  each := fun k d c hd hc => by
    unfold nxt at hc
    rw [List.getElem?_zipWith, hd] at hc
    cases e : cs[k]? with
    | none => rw [e] at hc; simp at hc
    | some c0 =>
      rw [e] at hc
      obtain rfl : dcarAt d c0 ((vals (2 ^ n) ds xs).map (bitA t)) = c := by simpa using hc
      obtain ⟨h1, h2⟩ := h.each k d c0 hd e
      have kl := (List.getElem?_eq_some_iff.mp hd).1
      have okd : DeedOk (vals (2 ^ n) ds xs).length d := by
        rw [vals_len]
        refine ⟨(ok.each k d hd).word, fun i hi => ?_⟩
        have := (ok.each k d hd).ahead i hi
        omega
      have l1 : 1 ≤ (vals (2 ^ n) ds xs).length := by
        rw [vals_len]
        omega
      unfold dcarAt
      rw [arg_map _ okd l1, arg_map _ okd l1]
      refine ⟨?_, dcar_bit (bitA_bit _ _) (bitA_bit _ _) h2⟩
      rw [Int.pow_succ, Int.mul_comm]
      exact ci_next (pw_pos t) h2 h1
/-- the carry come to by the words' bits -/
def crry (ds : List Deed) (xs : List Int) : Nat → List Int
  | 0 => ds.map fcD
  | t + 1 => nxt ds (crry ds xs t) (bts ds (crry ds xs t) (xs.map (bitA t)))
theorem crry_ok {m n : Nat} {ds : List Deed} {xs : List Int} (ok : DsOk m ds) (hm : xs.length = m) (m1 : 1 ≤ m) (hx : ∀ x ∈ xs, 0 ≤ x ∧ x < 2 ^ n) : ∀ t, t ≤ n → CIs (vals (2 ^ n) ds xs) t ds (crry ds xs t)
  | 0, _ => cis_first _ ds
  | t + 1, h => by
    have ih := crry_ok ok hm m1 hx t (by omega)
    show CIs _ (t + 1) ds (nxt ds (crry ds xs t) (bts ds (crry ds xs t) (xs.map (bitA t))))
    rw [cis_bits ok hm m1 hx (by omega) ih]
    exact cis_next ok hm m1 ih
theorem crry_bits {m n t : Nat} {ds : List Deed} {xs : List Int} (ok : DsOk m ds) (hm : xs.length = m) (m1 : 1 ≤ m) (hx : ∀ x ∈ xs, 0 ≤ x ∧ x < 2 ^ n) (ht : t < n) : bts ds (crry ds xs t) (xs.map (bitA t)) = (vals (2 ^ n) ds xs).map (bitA t) :=
  cis_bits ok hm m1 hx ht (crry_ok ok hm m1 hx t (by omega))
/-! ### the carries that come -/
inductive Rch (m : Nat) (ds : List Deed) : List Int → Prop
  | first : Rch m ds (ds.map fcD)
  | next {c bs : List Int} : Rch m ds c → bs.length = m → (∀ x ∈ bs, Bit x) → Rch m ds (nxt ds c (bts ds c bs))
theorem crry_rch (ds : List Deed) (xs : List Int) : ∀ t, Rch xs.length ds (crry ds xs t)
  | 0 => .first
  | t + 1 => .next (crry_rch ds xs t) (List.length_map ..) fun x hx => by
    obtain ⟨y, _, rfl⟩ := List.mem_map.mp hx
    exact bitA_bit t y
/-- bits, none where nothing carries -/
def Shp : List Deed → List Int → Prop
  | [], [] => True
  | d :: ds, c :: cs => Bit c ∧ (d.1 ∉ twC → c = 0) ∧ Shp ds cs
  | _, _ => False
theorem Shp.len : ∀ {ds : List Deed} {cs : List Int}, Shp ds cs → cs.length = ds.length
  | [], [], _ => rfl
  | [], _ :: _, h => h.elim
  | _ :: _, [], h => h.elim
  | _ :: _, _ :: _, h => congrArg (· + 1) (Shp.len h.2.2)
theorem Shp.bits : ∀ {ds : List Deed} {cs : List Int}, Shp ds cs → ∀ c ∈ cs, Bit c
  | [], [], _ => (fun _ z => nomatch z)
  | [], _ :: _, h => h.elim
  | _ :: _, [], h => h.elim
  | _ :: _, _ :: _, h => fun c hc => by
    rcases List.mem_cons.mp hc with rfl | hc
    · exact h.1
    · exact Shp.bits h.2.2 c hc
theorem calm_first {d : Deed} (h : d.1 ∉ twC) : fcD d = 0 := by
  unfold fcD
  rw [if_neg]
  intro z
  simp only [List.mem_cons, List.not_mem_nil, or_false] at z
  simp only [twC, List.mem_cons, List.not_mem_nil, or_false, not_or] at h
  rcases z with z | z
  · exact h.2.2.2.1 z
  · exact h.2.2.2.2 z
theorem calm_car {x : Str} (h : x ∉ twC) (a b c : Int) : dcar x a b c = 0 := by
  simp only [twC, List.mem_cons, List.not_mem_nil, or_false, not_or] at h
  obtain ⟨h1, h2, h3, h4, h5⟩ := h
  unfold dcar
  rw [if_neg h4, if_neg h3, if_neg h1, if_neg h2]
theorem shp_first : ∀ ds : List Deed, Shp ds (ds.map fcD)
  | [] => trivial
  | d :: ds => ⟨(by unfold fcD; split; exact bit1; exact bit0), calm_first, shp_first ds⟩
theorem shp_nxt {told : List Int} (hb : ∀ x ∈ told, Bit x) : ∀ {ds : List Deed} {cs : List Int}, Shp ds cs → Shp ds (nxt ds cs told)
  | [], [], _ => trivial
  | [], _ :: _, h => h.elim
  | _ :: _, [], h => h.elim
  | d :: ds, c :: cs, h => ⟨dcar_bit (argAt_bit hb d 0) (argAt_bit hb d 1) h.1, fun z => calm_car z _ _ _, shp_nxt hb h.2.2⟩
theorem rch_shp {m : Nat} {ds : List Deed} : ∀ {c : List Int}, Rch m ds c → Shp ds c := by
  intro c h
  induction h with
  | first => exact shp_first ds
  | next h hl hb ih => exact shp_nxt (bts_bits hb ih.bits) ih
def univ : List Deed → List (List Int)
  | [] => [[]]
  | d :: ds => if d.1 ∈ twC then (univ ds).map (0 :: ·) ++ (univ ds).map (1 :: ·) else (univ ds).map (0 :: ·)
theorem univ_len : ∀ ds : List Deed, (univ ds).length = 2 ^ carN ds
  | [] => rfl
  | d :: ds => by
    have ih := univ_len ds
    unfold univ carN
    by_cases h : d.1 ∈ twC
    · rw [if_pos h, if_pos h, List.length_append, List.length_map, List.length_map, ih, Nat.pow_succ]
      omega
    · rw [if_neg h, if_neg h, List.length_map, ih]
      rfl
theorem shp_univ : ∀ {ds : List Deed} {cs : List Int}, Shp ds cs → cs ∈ univ ds
  | [], [], _ => List.mem_cons_self
  | [], _ :: _, h => h.elim
  | _ :: _, [], h => h.elim
  | d :: ds, c :: cs, h => by
    have ih := shp_univ h.2.2
    unfold univ
    by_cases hd : d.1 ∈ twC
    · rw [if_pos hd]
      rcases h.1 with rfl | rfl
      · exact List.mem_append_left _ (List.mem_map.mpr ⟨cs, ih, rfl⟩)
      · exact List.mem_append_right _ (List.mem_map.mpr ⟨cs, ih, rfl⟩)
    · rw [if_neg hd, h.2.1 hd]
      exact List.mem_map.mpr ⟨cs, ih, rfl⟩
theorem pigeon {α : Type} [DecidableEq α] : ∀ (l D : List α), l.Nodup → (∀ x ∈ l, x ∈ D) → l.length ≤ D.length
  | [], _, _, _ => Nat.zero_le _
  | x :: l, D, nd, h => by
    rw [List.nodup_cons] at nd
    have hx := h x List.mem_cons_self
    have ih := pigeon l (D.erase x) nd.2 fun y hy => (List.mem_erase_of_ne (fun e : y = x => nd.1 (by rw [← e]; exact hy))).mpr (h y (List.mem_cons_of_mem _ hy))
    rw [List.length_erase_of_mem hx] at ih
    have := List.length_pos_of_mem hx
    rw [List.length_cons]
    omega
/-! ### all bits -/
theorem walk_gen {J : It} {n : Nat} {G : Hp → Prop} {Y : Nat → Hp → V → Hp → Prop} (w : Walk J n G Y) {g : TG} {σ0 : L2.St} {B : (Hp → Prop) → L2.St → Hp → Prop} {H0 : Hp} {Qd : Hp → Prop} (Pv : Nat → Hp → Prop) (h0 : Pv 0 H0)
    (hG : ∀ i H, i ≤ n → Pv i H → G H) (hs : ∀ i x H H', i < n → Pv i H → Y i H x H' → g x σ0 H' fun σ2 H2 => B (Pv (i + 1)) σ2 H2) (hd : ∀ H, Pv n H → Qd H) :
    ∃ W : Nat → Nat → Hp → Prop, (∃ m, W 0 m H0) ∧ ∀ i m H, W i m H → (J.stop i H ∧ Qd H) ∨ (J.go i H ∧ ∃ Nx : Hp → Prop, (∀ H', Nx H' → ∃ m', m' < m ∧ W (i + 1) m' H') ∧ ∀ x H', J.yld i H x H' → g x σ0 H' fun σ2 H2 => B Nx σ2 H2) := by
  refine ⟨fun i m H => m = n - i ∧ i ≤ n ∧ Pv i H, ⟨n, by simp, Nat.zero_le _, h0⟩, ?_⟩
  rintro i m H ⟨rfl, hi, q⟩
  by_cases lt : i < n
  · exact .inr ⟨w.goes i H lt (hG i H hi q), Pv (i + 1), fun H' z => ⟨n - (i + 1), by omega, rfl, lt, z⟩, fun x H' y => hs i x H H' lt q (w.yields i H x H' lt (hG i H hi q) y)⟩
  · obtain rfl : i = n := by omega
    exact .inl ⟨w.stops H (hG i H hi q), hd H q⟩
def ext2 (l : List (List Int)) : List (List Int) := l.flatMap fun b => [b ++ [0], b ++ [1]]
def allB : Nat → List (List Int)
  | 0 => [[]]
  | m + 1 => ext2 (allB m)
theorem ext2_len (l : List (List Int)) : (ext2 l).length = 2 * l.length := by
  unfold ext2
  induction l with
  | nil => rfl
  | cons b l ih => rw [List.flatMap_cons, List.length_append, ih, List.length_cons]; simp; omega
theorem allB_len : ∀ m, (allB m).length = 2 ^ m
  | 0 => rfl
  | m + 1 => by
    show (ext2 (allB m)).length = _
    rw [ext2_len, allB_len m, Nat.pow_succ]
    omega
theorem allB_ok : ∀ m, ∀ bs ∈ allB m, bs.length = m ∧ ∀ x ∈ bs, Bit x
  | 0, bs, h => by
    rw [List.mem_singleton.mp h]
    exact ⟨rfl, (fun _ z => nomatch z)⟩
  | m + 1, bs, h => by
    obtain ⟨b, hb, h2⟩ := List.mem_flatMap.mp h
    obtain ⟨h3, h4⟩ := allB_ok m b hb
    simp only [List.mem_cons, List.not_mem_nil, or_false] at h2
    rcases h2 with rfl | rfl
    · refine ⟨by rw [List.length_append, h3]; rfl, fun x hx => ?_⟩
      rcases List.mem_append.mp hx with hx | hx
      · exact h4 x hx
      · rw [List.mem_singleton.mp hx]
        exact bit0
    · refine ⟨by rw [List.length_append, h3]; rfl, fun x hx => ?_⟩
      rcases List.mem_append.mp hx with hx | hx
      · exact h4 x hx
      · rw [List.mem_singleton.mp hx]
        exact bit1
theorem allB_all : ∀ m, ∀ bs : List Int, bs.length = m → (∀ x ∈ bs, Bit x) → bs ∈ allB m
  | 0, bs, h, _ => by
    rw [List.eq_nil_of_length_eq_zero h]
    exact List.mem_cons_self
  | m + 1, bs, h, hb => by
    have hne : bs ≠ [] := fun e => by rw [e] at h; simp at h
    have e := List.dropLast_concat_getLast hne
    have h1 : bs.dropLast ∈ allB m := allB_all m _ (by rw [List.length_dropLast, h]; rfl) fun x hx => hb x ((List.dropLast_sublist bs).subset hx)
    refine List.mem_flatMap.mpr ⟨_, h1, ?_⟩
    rcases hb _ (List.getLast_mem hne) with z | z
    · rw [z] at e
      exact List.mem_cons.mpr (.inl e.symm)
    · rw [z] at e
      exact List.mem_cons.mpr (.inr (List.mem_singleton.mpr e.symm))
/-- tuples of ints -/
abbrev TAt (H : Hp) : List Addr → List (List Int) → Prop := Paired fun f bs => H f = some (.tup (bs.map V.int))
theorem tat_stay {H H' : Hp} (t : TupsStay H H') {fs : List Addr} {l : List (List Int)} (h : TAt H fs l) : TAt H' fs l := awMap (fun f b e => t f _ e) h
def spAll : Sp := fun vs H Q _ => ∃ m : Nat, vs = [.int (m : Int)] ∧ m ≤ 3 ∧ ∀ H' p fs, Same H H' → H p = none → H' p = some (.lst (fs.map V.ref)) → TAt H' fs (allB m) → Q (.ref p) H'
theorem ok_all {f : Addr} {fd : FuncData} {k : Nat} (F : Fun K "all_bits" "all_bits" s_all_bits f fd) (mr : mg "range" = none) : FnOk P w K mg base CX0 (k + 1) f fd ["many"] spAll := by
  refine F.ok sc_all_bits (fun vs H Q E h => ?_) (fun cdv A outer s H vs Q E hr h => ?_)
  · obtain ⟨m, rfl, _⟩ := h
    rfl
  · obtain ⟨m, rfl, m3, q⟩ := h
    refine ⟨_, pss_cons (ps_set (i := 1) sc_all_bits.nd rfl (.inl rfl) (pe_lst (pa_cons (pe_tup pa_nil) pa_nil)))
      (pss_cons (ps_for PassesOwn.never rfl (pi_range1 (by rfl) mr (pa_cons (pv 0) pa_nil)) (pg_name (i := 2) sc_all_bits.nd rfl (.inl rfl))
        (pss_one (ps_setLc2 (i := 1) (own := [("bits", 3), ("bit", 4)]) (vs1 := [4]) (g := gName 3) (g1 := gName 4) (wi1 := iTup K (tTup (tCons (tC (.int 0)) (tCons (tC (.int 1)) tNil)))) (by rfl) sc_all_bits.nd rfl rfl (sw_true rfl rfl rfl (by decide +kernel)) (pi_list (pv 1)) (blkOk_by (own := [("bits", 3), ("bit", 4)]) (N := N_all_bits) (sc := defScope s_all_bits) (by decide +kernel)) (by decide)
          (fun _ _ _ _ _ => pg_name (i := 3) sc_all_bits.nd rfl (Or.inl rfl)) (fun _ _ _ _ _ => pts_nil) (fun _ _ _ _ _ => pi_tup (pe_tup (pa_cons pe_int (pa_cons pe_int pa_nil))))
          (fun _ _ _ _ _ => pg_name (i := 4) sc_all_bits.nd rfl (Or.inl rfl)) (fun _ _ _ _ _ => pts_nil) (fun _ _ _ _ _ => pe_op op_catZ (pv 3) (pe_tup (pa_cons (pv 4) pa_nil))))))
      (pss_one (ps_ret (pv 1)))), ?_⟩
    refine ⟨by show 0 ≤ sizeLine; decide, fun T hT => ⟨by show 1 ≤ sizeLine; decide, fun L hL => ?_⟩⟩
    have s1 := same_new (o := .tup []) hT
    have s2 := same_new (o := .lst [.ref T]) hL
    refine ⟨.int m, rfl, m, rfl, by omega, by omega, for_range (lo := 0) (n := m) (fun i σ H3 => ∃ y2 F1 fs, σ = [some (.int (m : Int)), some (.ref F1), y2, none, none] ∧ H F1 = none ∧ H3 F1 = some (.lst (fs.map V.ref)) ∧ TAt H3 fs (allB i) ∧ Same H H3) ⟨none, L, [T], rfl, s1.free hL, upd_same, .cons (s2 _ _ upd_same) .nil, s1.trans s2⟩ (fun i σ H3 hi hp => ?_) (fun σ H3 hp => ?_)⟩
    · obtain ⟨y2, F1, fs, rfl, nF, eF, hf, sm⟩ := hp
      have fl : fs.length ≤ 8 := by
        rw [awLen hf, allB_len]
        exact Nat.le_trans (Nat.pow_le_pow_right (by decide) (show i ≤ 3 by omega)) (by decide)
      refine ⟨.ref F1, rfl, F1, rfl, ⟨_, .inl (.inl eF)⟩, fun M hM => ?_⟩
      refine walk_gen (walk_list (K := K) (a := F1) (xs := fs.map V.ref)) (fun j H4 => ∃ gs, H4 M = some (.lst (gs.map V.ref)) ∧ TAt H4 gs (ext2 ((allB i).take j)) ∧ Same H3 H4) ⟨[], upd_same, .nil, same_new hM⟩ (fun j H4 _ hp => ?_) (fun j x H4 H5 hj hp hy => ?_) (fun H4 hp => ?_)
      · obtain ⟨_, _, _, s4⟩ := hp
        exact .inl (.inl (s4 _ _ eF))
      · obtain ⟨gs, eM, hg, s4⟩ := hp
        obtain ⟨rfl, hx⟩ := hy
        have hj2 : j < fs.length := by rwa [List.length_map] at hj
        have hx' : x = .ref fs[j] := by
          rw [List.getElem?_map, List.getElem?_eq_getElem hj2] at hx
          exact (Option.some.inj hx).symm
        subst hx'
        obtain ⟨b, hb1, hb2⟩ := awGet hf (List.getElem?_eq_getElem hj2)
        have bl : b.length = i := (allB_ok i b (List.mem_of_getElem? hb1)).1
        refine ⟨rfl, by show 2 ≤ sizeLine; decide, fun U hU => ?_⟩
        have sU := same_new (o := .tup [.int 0, .int 1]) hU
        refine ⟨U, rfl, ⟨_, SqT.of upd_same⟩, ?_⟩
        refine walk_gen (walk_tup (K := K) (a := U) (xs := [.int 0, .int 1])) (fun t H6 => ∃ gs, H6 M = some (.lst (gs.map V.ref)) ∧ TAt H6 gs (ext2 ((allB i).take j) ++ [b ++ [0], b ++ [1]].take t) ∧ TupsStay (upd H5 U (.tup [.int 0, .int 1])) H6 ∧ Same H3 H6) ⟨gs, sU _ _ eM, (by rw [List.take_zero, List.append_nil]; exact tat_stay (Same.tups sU) hg), (fun _ _ e => e), s4.trans sU⟩ (fun t H6 _ hp => ?_) (fun t x H6 H7 ht hp hy => ?_) (fun H6 hp => ?_)
        · obtain ⟨_, _, _, t6, _⟩ := hp
          exact SqT.of (t6 _ _ upd_same)
        · obtain ⟨gs, eM6, hg6, t6, s6⟩ := hp
          obtain ⟨rfl, hx⟩ := hy
          obtain ⟨z, rfl, hz⟩ : ∃ z : Int, x = .int z ∧ [b ++ [0], b ++ [1]].take (t + 1) = [b ++ [0], b ++ [1]].take t ++ [b ++ [z]] := by
            have ht2 : t = 0 ∨ t = 1 := by
              have : t < 2 := ht
              omega
            rcases ht2 with rfl | rfl
            · exact ⟨0, (Option.some.inj hx).symm, rfl⟩
            · exact ⟨1, (Option.some.inj hx).symm, rfl⟩
          have eb := s6 _ _ (hb2)
          refine ⟨rfl, .ref fs[j], rfl, .int z, rfl, by show 1 ≤ sizeLine; decide, fun U2 hU2 => ?_⟩
          have sU2 := same_new (o := .tup [.int z]) hU2
          refine ⟨fs[j], U2, _, _, rfl, rfl, sU2 _ _ eb, upd_same, by rw [List.length_map]; exact Nat.le_of_lt (small1000 (by show b.length + 1 ≤ 1000; omega)), fun p H8 s8 ep => ?_⟩
          have s78 := sU2.trans s8
          have eM8 := s78 _ _ eM6
          have gl := awLen hg6
          have gl2 : gs.length ≤ 18 := by
            rw [gl, List.length_append, ext2_len, List.length_take]
            have e1 : (allB i).length = fs.length := (awLen hf).symm
            have e2 : ([b ++ [0], b ++ [1]].take t).length ≤ 2 := by
              rw [List.length_take]
              exact Nat.min_le_right _ _
            omega
          have tp := tups_put (o := .lst (gs.map V.ref ++ [V.ref p])) eM8
          refine ⟨_, eM8, by rw [List.length_map]; exact small1000 (by omega), gs ++ [p], ?_, ?_, ?_, ?_⟩
          · rw [upd_same, List.map_append]
            rfl
          · rw [hz, ← List.append_assoc]
            refine tat_stay tp (awSnoc (F := fun f (bs : List Int) => H8 f = some (.tup (bs.map V.int))) ?_ (tat_stay (Same.tups s78) hg6))
            rw [ep, List.map_append]
            rfl
          · exact (t6.trans (Same.tups s78)).trans tp
          · intro c u e
            rw [upd_ne (ne_of_none e hM)]
            exact s78 c u (s6 c u e)
        · obtain ⟨gs, eM6, hg6, t6, s6⟩ := hp
          refine ⟨gs, eM6, ?_, s6⟩
          have e1 : ext2 ((allB i).take (j + 1)) = ext2 ((allB i).take j) ++ [b ++ [0], b ++ [1]] := by
            rw [List.take_add_one, hb1]
            unfold ext2
            rw [List.flatMap_append]
            rfl
          rw [e1]
          exact hg6
      · obtain ⟨gs, eM, hg, s4⟩ := hp
        refine ⟨some (.int (0 + i)), M, gs, rfl, sm.free hM, eM, ?_, sm.trans s4⟩
        rw [List.length_map, awLen hf, List.take_length] at hg
        exact hg
    · obtain ⟨y2, F1, fs, rfl, nF, eF, hf, sm⟩ := hp
      exact ⟨.ref F1, rfl, q _ F1 fs sm nF eF hf⟩
/-! ### carry_behind, steps, kept_steps -/
def spCb : Sp := fun vs H Q _ => ∃ (R C T : Addr) (m o : Int) (ds : List Deed) (cs told : List Int), vs = [.ref R, .ref C, .ref T] ∧ RowAt H R m ds o ∧ DsOk m ds ∧ ds.length ≤ 100 ∧ H C = some (.tup (cs.map V.int)) ∧ cs.length = ds.length ∧ H T = some (.tup (told.map V.int)) ∧ (told.length : Int) = m + ds.length ∧
  ∀ H' p, Same H H' → H p = none → H' p = some (.tup ((nxt ds cs told).map V.int)) → Q (.ref p) H'
theorem ok_cb {f fC : Addr} {fd fdC : FuncData} {k : Nat} (F : Fun K "carry_behind" "carry_behind" s_carry_behind f fd)
    (GC : FnOk P w K mg base CX0 (k + 2) fC fdC ["deed", "held", "told"] spDc) (kC : PySem.W.keepIn K (.ref fC) = true) (bC : Binds K fdC ["deed", "held", "told"] []) (gC : mg "deed_carry" = some (.ref fC)) (mt : mg "tuple" = none) (mz : mg "zip" = none) : FnOk P w K mg base CX0 (k + 3) f fd ["row", "carry", "told"] spCb := by
  refine F.ok sc_carry_behind (fun vs H Q E h => ?_) (fun cdv A outer s H vs Q E hr h => ?_)
  · obtain ⟨R, C, T, m, o, ds, cs, told, rfl, _⟩ := h
    rfl
  · obtain ⟨R, C, T, m, o, ds, cs, told, rfl, hrow, hok, hds, eC, hcl, eT, htl, q⟩ := h
    obtain ⟨D, rs, eR, eD, hd⟩ := id hrow
    refine ⟨_, pss_one (ps_ret (pe_callTy call_tuple_of (by rfl) mt (by decide +kernel) (pa_cons
        (pe_lc (own := [("deed", 3), ("held", 4)]) (g := gTup K 2 (gCons (gName 3) (gCons (gName 4) gNil))) (by rfl) sc_carry_behind.nd (RZ.pi_zipA (by rfl) mz (pa_cons (pe_ix ix_tup (pv 0) pe_int (fun _ _ => rfl)) (pa_cons (pv 1) pa_nil))) (blkOk_by (own := [("deed", 3), ("held", 4)]) (N := N_carry_behind) (sc := defScope s_carry_behind) (by decide +kernel))
          (fun _ _ _ _ _ => pg_tup rfl (pgs_cons (pg_name (i := 3) sc_carry_behind.nd rfl (.inl rfl)) (pgs_cons (pg_name (i := 4) sc_carry_behind.nd rfl (.inl rfl)) pgs_nil))) (fun _ _ _ _ _ => pts_nil)
          (fun _ _ _ _ _ => pe_call GC hr (by rfl) gC kC bC .nil pass0 (pa_cons (pv 3) (pa_cons (pv 4) (pa_cons (pv 2) pa_nil))))) pa_nil))), ?_⟩
    have lrs : (rs.map V.ref).length = ds.length := by rw [List.length_map, awLen hd]
    have lcs : (cs.map V.int).length = ds.length := by rw [List.length_map, hcl]
    refine ⟨.ref R, rfl, R, _, 1, .ref D, rfl, rfl, SqT.of eR, rfl, .ref C, rfl, D, C, _, _, rfl, .inr ⟨SqT.of eD, SqT.of eC, fun L hL => ?_⟩⟩
    refine lc_it (walk_zipT (K := K) (a := D) (b := C) (xs := rs.map V.ref) (ys := cs.map V.int) (lrs.trans lcs.symm)) (fun i H4 => H4 L = some (.lst (((nxt ds cs told).take i).map V.int)) ∧ Same H H4) ⟨upd_same, same_new hL⟩ (fun i H4 _ hp => ⟨SqT.of (hp.2 _ _ eD), SqT.of (hp.2 _ _ eC)⟩) (fun i x H4 H5 hi hp hy => ?_) (fun H4 hp => ?_)
    · obtain ⟨eL, sm⟩ := hp
      obtain ⟨U, x1, x2, rfl, hU, rfl, g1, g2⟩ := hy
      have hi2 : i < rs.length := by rwa [List.length_map] at hi
      have hx' : x1 = .ref rs[i] := by
        have g1' : (rs.map V.ref)[i]? = some x1 := g1
        rw [List.getElem?_map, List.getElem?_eq_getElem hi2] at g1'
        exact (Option.some.inj g1').symm
      subst hx'
      obtain ⟨d, hd1, hd2⟩ := awGet hd (List.getElem?_eq_getElem hi2)
      obtain ⟨c, hc, rfl⟩ : ∃ c, cs[i]? = some c ∧ x2 = .int c := by
        have g2' : (cs.map V.int)[i]? = some x2 := g2
        rw [List.getElem?_map] at g2'
        cases e : cs[i]? with
        | none => rw [e] at g2'; cases g2'
        | some c => rw [e] at g2'; exact ⟨c, rfl, (Option.some.inj g2').symm⟩
      have h2 : i < ds.length := by
        rw [← awLen hd]
        exact hi2
      have okd : DeedOk told.length d := okd_more (hok.each i d hd1) (by omega)
      have sU := same_new (o := .tup [.ref rs[i], .int c]) hU
      refine ⟨U, [.ref rs[i], .int c], rfl, .inl (.inl upd_same), rfl, .ref rs[i], [.int c], rfl, .int c, [], rfl, rfl, rfl, ?_⟩
      refine ⟨.ref rs[i], rfl, .int c, rfl, .ref T, rfl, rs[i], T, d, _, c, rfl, sU _ _ (sm _ _ hd2), sU _ _ (sm _ _ eT), okd, _, sU _ _ eL, ?_, ?_, ?_⟩
      · rw [List.length_map, List.length_take, nxt_len hcl.symm]
        exact small1000 (by omega)
      · rw [upd_same, nxt_next hd1 hc, List.map_append]
        rfl
      · intro b u e
        rw [upd_ne (ne_of_none e hL)]
        exact sU b u (sm b u e)
    · obtain ⟨eL, sm⟩ := hp
      rw [lrs, ← nxt_len (t := told) hcl.symm, List.take_length] at eL
      refine ⟨L, _, rfl, .inl ⟨.inl (.inl eL), fun p hp => ?_⟩⟩
      exact q _ p (sm.trans (same_new hp)) (sm.free hp) upd_same
/-- the steps of a carry: for all bits the bit of out and the next carry -/
def stp (m : Nat) (ds : List Deed) (o : Int) (cs : List Int) : List (Int × List Int) := (allB m).map fun bs => ((bts ds cs bs).getD o.toNat 0, nxt ds cs (bts ds cs bs))
theorem stp_len (m : Nat) (ds : List Deed) (o : Int) (cs : List Int) : (stp m ds o cs).length = 2 ^ m := by
  unfold stp
  rw [List.length_map, allB_len]
abbrev StAt (H : Hp) : List Addr → List (Int × List Int) → Prop := Paired fun q e => ∃ c, H q = some (.tup [.int e.1, .ref c]) ∧ H c = some (.tup (e.2.map V.int))
theorem stat_stay {H H' : Hp} (t : TupsStay H H') {ps : List Addr} {l : List (Int × List Int)} (h : StAt H ps l) : StAt H' ps l := awMap (fun q e z => z.elim fun c y => ⟨c, t _ _ y.1, t _ _ y.2⟩) h
def spSt : Sp := fun vs H Q _ => ∃ (R C : Addr) (m : Nat) (o : Int) (ds : List Deed) (cs : List Int), vs = [.ref R, .ref C] ∧ RowAt H R m ds o ∧ RowOk m ds o ∧ H C = some (.tup (cs.map V.int)) ∧ cs.length = ds.length ∧
  ∀ H' p ps, Same H H' → H p = none → H' p = some (.lst (ps.map V.ref)) → StAt H' ps (stp m ds o cs) → Q (.ref p) H'
theorem ok_st {f fA fB fC : Addr} {fd fdA fdB fdC : FuncData} {k : Nat} (F : Fun K "steps" "steps" s_steps f fd)
    (GA : FnOk P w K mg base CX0 (k + 1) fA fdA ["many"] spAll) (kA : PySem.W.keepIn K (.ref fA) = true) (bA : Binds K fdA ["many"] []) (gA : mg "all_bits" = some (.ref fA))
    (GB : FnOk P w K mg base CX0 (k + 2) fB fdB ["row", "carry", "bits"] spBo) (kB : PySem.W.keepIn K (.ref fB) = true) (bB : Binds K fdB ["row", "carry", "bits"] []) (gB : mg "bits_of" = some (.ref fB))
    (GC : FnOk P w K mg base CX0 (k + 3) fC fdC ["row", "carry", "told"] spCb) (kC : PySem.W.keepIn K (.ref fC) = true) (bC : Binds K fdC ["row", "carry", "told"] []) (gC : mg "carry_behind" = some (.ref fC)) : FnOk P w K mg base CX0 (k + 4) f fd ["row", "carry"] spSt := by
  refine F.ok sc_steps (fun vs H Q E h => ?_) (fun cdv A outer s H vs Q E hr h => ?_)
  · obtain ⟨R, C, m, o, ds, cs, rfl, _⟩ := h
    rfl
  · obtain ⟨R, C, m, o, ds, cs, rfl, hrow, hok, eC, hcl, q⟩ := h
    obtain ⟨D, rs, eR, eD, hd⟩ := id hrow
    have r1 := hr.mono (show k + 1 ≤ k + 3 by omega)
    have r2 := hr.mono (show k + 2 ≤ k + 3 by omega)
    refine ⟨_, pss_cons (ps_set (i := 2) sc_steps.nd rfl (.inl rfl) (pe_lst pa_nil))
      (pss_cons (ps_for PassesOwn.never rfl (pi_list (pe_call GA r1 (by rfl) gA kA bA .nil pass0 (pa_cons (pe_ix ix_tup (pv 0) pe_int (fun _ _ => rfl)) pa_nil))) (pg_name (i := 3) sc_steps.nd rfl (.inl rfl))
        (pss_cons (ps_set (i := 4) sc_steps.nd rfl (.inl rfl) (pe_call GB r2 (by rfl) gB kB bB .nil pass0 (pa_cons (pv 0) (pa_cons (pv 1) (pa_cons (pv 3) pa_nil)))))
        (pss_one (ps_expr (pe_bm PySem.F.plainAttrs_list PySem.F.slot_list_append PySem.F.type_list_append mt_append (pv 2) (pa_cons (pe_tup (pa_cons (pe_ix ix_tup (pv 4) (pe_ix ix_tup (pv 0) pe_int (fun _ _ => rfl)) (fun _ _ => rfl)) (pa_cons (pe_call GC hr (by rfl) gC kC bC .nil pass0 (pa_cons (pv 0) (pa_cons (pv 1) (pa_cons (pv 4) pa_nil)))) pa_nil))) pa_nil))))))
      (pss_one (ps_ret (pv 2)))), ?_⟩
    have m1 := hok.m1
    have m3 := hok.m3
    have l8 := hok.len
    refine ⟨Nat.zero_le _, fun L hL => ?_⟩
    have sL := same_new (o := .lst []) hL
    refine ⟨.ref R, rfl, R, _, 0, .int m, rfl, rfl, SqT.of (sL _ _ eR), rfl, m, rfl, by omega, fun H1 B fs s1 nB eB hf => ?_⟩
    have nLB : B ≠ L := fun z => by rw [z, upd_same] at nB; cases nB
    have fl : fs.length = 2 ^ m := by rw [awLen hf, allB_len]
    have f8 : fs.length ≤ 8 := by
      rw [fl]
      exact Nat.le_trans (Nat.pow_le_pow_right (by decide) (show m ≤ 3 by omega)) (by decide)
    have old : ∀ H5 o, Same H H5 → Same H (upd H5 L o) := fun H5 o s5 b u e => by
      rw [upd_ne (ne_of_none e hL)]
      exact s5 b u e
    refine ⟨B, rfl, ⟨_, .inl (.inl eB)⟩, for_list (K := K) (a := B) (xs := fs.map V.ref) (fun i σ H3 => ∃ y3 y4 ps, σ = [some (.ref R), some (.ref C), some (.ref L), y3, y4] ∧ H3 L = some (.lst (ps.map V.ref)) ∧ StAt H3 ps ((stp m ds o cs).take i) ∧ H3 B = some (.lst (fs.map V.ref)) ∧ TAt H3 fs (allB m) ∧ Same H H3)
      ⟨none, none, [], rfl, s1 _ _ upd_same, .nil, eB, hf, sL.trans s1⟩ (fun i σ H3 _ hp => ?_) (fun i x σ H3 hx hp => ?_) (fun σ H3 hp => ?_)⟩
    · obtain ⟨_, _, _, _, _, _, e, _⟩ := hp
      exact .inl (.inl e)
    · obtain ⟨y3, y4, ps, rfl, eL, hs, eB3, hf3, s3⟩ := hp
      have hi : i < fs.length := by
        have := (List.getElem?_eq_some_iff.mp hx).1
        rwa [List.length_map] at this
      have hx' : x = .ref fs[i] := by
        rw [List.getElem?_map, List.getElem?_eq_getElem hi] at hx
        exact (Option.some.inj hx).symm
      subst hx'
      obtain ⟨bs, hb1, hb2⟩ := awGet hf3 (List.getElem?_eq_getElem hi)
      obtain ⟨bl, bb⟩ := allB_ok m bs (List.mem_of_getElem? hb1)
      refine ⟨.ref R, rfl, .ref C, rfl, .ref fs[i], rfl, R, C, fs[i], m, o, ds, cs, bs, rfl, (Same.tups s3).row hrow, hok.deeds, by omega, s3 _ _ eC, hcl, hb2, by rw [bl], by omega, fun H4 T s4 nT eT => ?_⟩
      have tl : (bts ds cs bs).length = m + ds.length := by rw [bts_len hcl.symm, bl]
      have o0 := hok.o0
      have o1 := hok.o1
      refine ⟨.ref L, rfl, .inl ⟨rfl, _, .inl (.inl (s4 _ _ eL))⟩, .ref T, rfl, .ref R, rfl, R, _, 2, .int o, rfl, rfl, SqT.of (s4 _ _ (s3 _ _ eR)), rfl, T, _, o, _, rfl, rfl, SqT.of eT, atI_ints o0 (by omega), ?_⟩
      refine ⟨.ref R, rfl, .ref C, rfl, .ref T, rfl, R, C, T, m, o, ds, cs, _, rfl, (Same.tups (s3.trans s4)).row hrow, hok.deeds, by omega, s4 _ _ (s3 _ _ eC), hcl, eT, by rw [tl]; omega, fun H5 N s5 nN eN => ?_⟩
      refine ⟨by show 2 ≤ sizeLine; decide, fun p hp => ?_⟩
      have sp := same_new (o := .tup [.int ((bts ds cs bs).getD o.toNat 0), .ref N]) hp
      have s46 := (s4.trans s5).trans sp
      have eL6 := s46 _ _ eL
      have e1 : (stp m ds o cs)[i]? = some ((bts ds cs bs).getD o.toNat 0, nxt ds cs (bts ds cs bs)) := by
        unfold stp
        rw [List.getElem?_map, hb1]
        rfl
      have pl := awLen hs
      rw [List.length_take] at pl
      have tp := tups_put (o := .lst (ps.map V.ref ++ [V.ref p])) eL6
      refine ⟨L, _, _, rfl, rfl, eL6, ?_, some (.ref fs[i]), some (.ref T), ps ++ [p], rfl, ?_, ?_, ?_, ?_, ?_⟩
      · rw [List.length_map]
        exact small1000 (by omega)
      · rw [upd_same, List.map_append]
        rfl
      · rw [List.take_add_one, e1]
        exact stat_stay tp (awSnoc (F := fun (q : Addr) (e : Int × List Int) => ∃ c, (upd H5 p (.tup [.int ((bts ds cs bs).getD o.toNat 0), .ref N])) q = some (.tup [.int e.1, .ref c]) ∧ (upd H5 p (.tup [.int ((bts ds cs bs).getD o.toNat 0), .ref N])) c = some (.tup (e.2.map V.int))) ⟨N, upd_same, sp _ _ eN⟩ (stat_stay (Same.tups s46) hs))
      · rw [upd_ne nLB]
        exact s46 _ _ eB3
      · exact tat_stay tp (tat_stay (Same.tups s46) hf3)
      · exact old _ _ (s3.trans s46)
    · obtain ⟨y3, y4, ps, rfl, eL, hs, eB3, hf3, s3⟩ := hp
      rw [List.length_map, fl, ← stp_len m ds o cs, List.take_length] at hs
      exact ⟨.ref L, rfl, q _ L ps s3 hL eL hs⟩
/-! ### dicts by lists of ints -/
abbrev kI (c : List Int) : List Key := c.map Sum.inl
theorem kI_V (c : List Int) : (kI c).map kV = c.map V.int := by
  rw [List.map_map]
  rfl
theorem ints_inj : ∀ {a b : List Int}, a.map V.int = b.map V.int → a = b
  | [], [], _ => rfl
  | [], _ :: _, h => nomatch h
  | _ :: _, [], h => nomatch h
  | x :: a, y :: b, h => by
    rw [List.map_cons, List.map_cons, List.cons.injEq] at h
    rw [V.int.inj h.1, ints_inj h.2]
theorem kI_inj {a b : List Int} (h : kI a = kI b) : a = b := by
  have e := congrArg (List.map kV) h
  rw [kI_V, kI_V] at e
  exact ints_inj e
section tab
variable {α : Type}
def emb (f : α → V) (es : List (List Int × α)) : List (List Key × V) := es.map fun e => (kI e.1, f e.2)
def getA (es : List (List Int × α)) (c : List Int) : Option α := (es.find? fun e => decide (e.1 = c)).map (·.2)
def putA (es : List (List Int × α)) (c : List Int) (v : α) : List (List Int × α) := if c ∈ es.map (·.1) then es.map (fun e => if e.1 = c then (e.1, v) else e) else es ++ [(c, v)]
theorem emb_get (f : α → V) (c : List Int) : ∀ es : List (List Int × α), valV (emb f es) (kI c) = (getA es c).map f
  | [] => rfl
  | e :: es => by
    have ih := emb_get f c es
    unfold emb getA at *
    rw [List.map_cons, List.find?_cons]
    by_cases h : e.1 = c
    · rw [valV_pos (show (kI e.1, f e.2).1 = kI c by rw [h]), decide_eq_true h]
      rfl
    · rw [valV_neg (fun z => h (kI_inj z)), decide_eq_false h]
      exact ih
theorem getA_none {c : List Int} : ∀ {es : List (List Int × α)}, getA es c = none ↔ c ∉ es.map (·.1)
  | [] => by simp [getA]
  | e :: es => by
    have ih := getA_none (c := c) (es := es)
    unfold getA at *
    rw [List.find?_cons, List.map_cons, List.mem_cons, not_or]
    by_cases h : e.1 = c
    · simp [h]
    · rw [decide_eq_false h]
      exact ⟨fun z => ⟨fun y => h y.symm, ih.mp z⟩, fun z => ih.mpr z.2⟩
theorem getA_some {c : List Int} {v : α} {es : List (List Int × α)} (h : getA es c = some v) : (c, v) ∈ es := by
  unfold getA at h
  cases e : es.find? fun e => decide (e.1 = c) with
  | none => rw [e] at h; cases h
  | some p =>
    rw [e] at h
    have h1 := List.mem_of_find?_eq_some e
    have h2 : p.1 = c := of_decide_eq_true (List.find?_some (p := fun e : List Int × α => decide (e.1 = c)) e)
    obtain rfl : p.2 = v := Option.some.inj h
    rw [← h2]
    exact h1
theorem getA_of {c : List Int} {v : α} : ∀ {es : List (List Int × α)}, (es.map (·.1)).Nodup → (c, v) ∈ es → getA es c = some v
  | [], _, h => nomatch h
  | e :: es, nd, h => by
    rw [List.map_cons, List.nodup_cons] at nd
    unfold getA
    rw [List.find?_cons]
    rcases List.mem_cons.mp h with h | h
    · rw [← h]
      simp
    · have hne : ¬ e.1 = c := fun z => nd.1 (z ▸ List.mem_map.mpr ⟨_, h, rfl⟩)
      rw [decide_eq_false hne]
      exact getA_of nd.2 h
theorem emb_put (f : α → V) (es : List (List Int × α)) (c : List Int) (v : α) : putK (emb f es) (kI c) (f v) = emb f (putA es c v) := by
  unfold putK putA
  by_cases h : c ∈ es.map (·.1)
  · rw [if_pos h, if_pos]
    · unfold emb
      rw [List.map_map, List.map_map]
      apply List.map_congr_left
      intro e _
      show (if kI e.1 = kI c then (kI e.1, f v) else (kI e.1, f e.2)) = _
      by_cases he : e.1 = c
      · rw [if_pos (congrArg kI he)]
        simp [he]
      · rw [if_neg (fun z => he (kI_inj z))]
        simp [he]
    · rw [List.any_eq_true]
      obtain ⟨e, h1, h2⟩ := List.mem_map.mp h
      exact ⟨(kI e.1, f e.2), List.mem_map.mpr ⟨e, h1, rfl⟩, by simp [h2]⟩
  · rw [if_neg h, if_neg]
    · unfold emb
      rw [List.map_append]
      rfl
    · intro z
      rw [List.any_eq_true] at z
      obtain ⟨p, h1, h2⟩ := z
      obtain ⟨e, h3, rfl⟩ := List.mem_map.mp h1
      exact h (List.mem_map.mpr ⟨e, h3, kI_inj (of_decide_eq_true h2)⟩)
theorem putA_keys {es : List (List Int × α)} {c : List Int} {v : α} : (putA es c v).map (·.1) = if c ∈ es.map (·.1) then es.map (·.1) else es.map (·.1) ++ [c] := by
  unfold putA
  split
  · rw [List.map_map]
    apply List.map_congr_left
    intro e _
    show (if e.1 = c then (e.1, v) else e).1 = e.1
    split <;> rfl
  · rw [List.map_append]
    rfl
theorem putA_nodup {es : List (List Int × α)} {c : List Int} {v : α} (h : (es.map (·.1)).Nodup) : ((putA es c v).map (·.1)).Nodup := by
  rw [putA_keys]
  split
  · exact h
  · rename_i hn
    rw [List.nodup_append]
    refine ⟨h, by simp, fun a ha b hb => ?_⟩
    rw [List.mem_singleton.mp hb]
    exact fun z => hn (z ▸ ha)
theorem mem_putA {es : List (List Int × α)} {c : List Int} {v : α} {e : List Int × α} : e ∈ putA es c v ↔ e = (c, v) ∨ (e ∈ es ∧ e.1 ≠ c) := by
  unfold putA
  by_cases h : c ∈ es.map (·.1)
  · rw [if_pos h, List.mem_map]
    constructor
    · rintro ⟨a, h1, rfl⟩
      by_cases ha : a.1 = c
      · rw [if_pos ha, ha]
        exact .inl rfl
      · rw [if_neg ha]
        exact .inr ⟨h1, ha⟩
    · rintro (rfl | ⟨h1, h2⟩)
      · obtain ⟨a, h1, h2⟩ := List.mem_map.mp h
        exact ⟨a, h1, by rw [if_pos h2, h2]⟩
      · exact ⟨e, h1, if_neg h2⟩
  · rw [if_neg h, List.mem_append, List.mem_singleton]
    constructor
    · rintro (h1 | h1)
      · exact .inr ⟨h1, fun z => h (z ▸ List.mem_map.mpr ⟨e, h1, rfl⟩)⟩
      · exact .inl h1
    · rintro (h1 | h1)
      · exact .inr h1
      · exact .inl h1.1
end tab
/-- few: all keys are bits, as many as there are deeds -/
theorem few_keys {α : Type} {n : Nat} {es : List (List Int × α)} (nd : (es.map (·.1)).Nodup) (hb : ∀ e ∈ es, e.1.length = n ∧ ∀ x ∈ e.1, Bit x) (hn : n ≤ 8) : es.length ≤ 256 := by
  have h := pigeon (es.map (·.1)) (allB n) nd fun c hc => by
    obtain ⟨e, he, rfl⟩ := List.mem_map.mp hc
    exact allB_all n _ (hb e he).1 (hb e he).2
  rw [List.length_map, allB_len] at h
  exact Nat.le_trans h (Nat.le_trans (Nat.pow_le_pow_right (by decide) hn) (by decide))
/-! ### machines of all carries -/
/-- things come in the order in which they are first met -/
def FOrd {L : Type} (nx : L → List (Int × L)) (cs : List L) : Prop := ∀ (k : Nat) (c : L), 0 < k → cs[k]? = some c → ∃ (p t : Nat) (a : L) (s : Int × L), p < k ∧ cs[p]? = some a ∧ (nx a)[t]? = some s ∧ s.2 = c ∧
  ∀ (p' t' : Nat) (a' : L) (s' : Int × L), (p' < p ∨ p' = p ∧ t' < t) → cs[p']? = some a' → (nx a')[t']? = some s' → ∃ j, j < k ∧ cs[j]? = some s'.2
theorem FOrd.one {L : Type} {nx : L → List (Int × L)} {c : L} : FOrd nx [c] := fun k c' h1 h2 => by
  have := (List.getElem?_eq_some_iff.mp h2).1
  simp only [List.length_cons, List.length_nil] at this
  omega
theorem FOrd.push {L : Type} {nx : L → List (Int × L)} {cs : List L} (h : FOrd nx cs) {p t : Nat} {a : L} {s : Int × L} (hp : cs[p]? = some a) (hs : (nx a)[t]? = some s)
    (all : ∀ (p' t' : Nat) (a' : L) (s' : Int × L), (p' < p ∨ p' = p ∧ t' < t) → cs[p']? = some a' → (nx a')[t']? = some s' → ∃ j : Nat, cs[j]? = some s'.2) : FOrd nx (cs ++ [s.2]) := by
  have pl := (List.getElem?_eq_some_iff.mp hp).1
  have up : ∀ (i : Nat) (x : L), cs[i]? = some x → (cs ++ [s.2])[i]? = some x := fun i x e => by rw [List.getElem?_append_left (List.getElem?_eq_some_iff.mp e).1]; exact e
  have dn : ∀ (i : Nat) (x : L), i < cs.length → (cs ++ [s.2])[i]? = some x → cs[i]? = some x := fun i x hi e => by rwa [List.getElem?_append_left hi] at e
  intro k c hk hc
  by_cases hl : k < cs.length
  · obtain ⟨p1, t1, a1, s1, e1, e2, e3, e4, e5⟩ := h k c hk (dn k c hl hc)
    refine ⟨p1, t1, a1, s1, e1, up _ _ e2, e3, e4, fun p' t' a' s' h1 h2 h3 => ?_⟩
    obtain ⟨j, g1, g2⟩ := e5 p' t' a' s' h1 (dn p' a' (by omega) h2) h3
    exact ⟨j, g1, up _ _ g2⟩
  · have kl := (List.getElem?_eq_some_iff.mp hc).1
    rw [List.length_append] at kl
    simp only [List.length_cons, List.length_nil] at kl
    have ek : k = cs.length := by omega
    subst ek
    rw [List.getElem?_append_right (Nat.le_refl _), Nat.sub_self] at hc
    refine ⟨p, t, a, s, pl, up _ _ hp, hs, Option.some.inj hc, fun p' t' a' s' h1 h2 h3 => ?_⟩
    obtain ⟨j, g⟩ := all p' t' a' s' h1 (dn p' a' (by omega) h2) h3
    exact ⟨j, (List.getElem?_eq_some_iff.mp g).1, up _ _ g⟩
theorem nd_idx {L : Type} {cs : List L} (nd : cs.Nodup) {i j : Nat} {x : L} (h1 : cs[i]? = some x) (h2 : cs[j]? = some x) : i = j := by
  have l1 := (List.getElem?_eq_some_iff.mp h1).1
  exact (List.getElem?_inj l1 nd).mp (h1.trans h2.symm)
/-- there is one such order only -/
theorem ford_pre {L : Type} {nx : L → List (Int × L)} {cs cs' : List L} (nd : cs.Nodup) (nd' : cs'.Nodup) (h0 : cs[0]? = cs'[0]?) (f : FOrd nx cs) (f' : FOrd nx cs') :
    ∀ (n k : Nat) (c c' : L), k < n → cs[k]? = some c → cs'[k]? = some c' → c = c'
  | 0, _, _, _, h, _, _ => absurd h (Nat.not_lt_zero _)
  | n + 1, k, c, c', hk, e, e' => by
    have ih := ford_pre nd nd' h0 f f' n
    by_cases hz : k = 0
    · subst hz
      rw [e, e'] at h0
      exact Option.some.inj h0
    have kl := (List.getElem?_eq_some_iff.mp e).1
    have kl' := (List.getElem?_eq_some_iff.mp e').1
    have to : ∀ (j : Nat) (x : L), j < k → cs[j]? = some x → cs'[j]? = some x := fun j x hj ex => by
      have e2 : cs'[j]? = some cs'[j] := List.getElem?_eq_getElem (by omega)
      rw [e2, ih j x _ (by omega) ex e2]
    have fro : ∀ (j : Nat) (x : L), j < k → cs'[j]? = some x → cs[j]? = some x := fun j x hj ex => by
      have e2 : cs[j]? = some cs[j] := List.getElem?_eq_getElem (by omega)
      rw [e2, ih j _ x (by omega) e2 ex]
    obtain ⟨p, t, a, s, a1, a2, a3, a4, a5⟩ := f k c (by omega) e
    obtain ⟨q, u, b, r, b1, b2, b3, b4, b5⟩ := f' k c' (by omega) e'
    rcases Nat.lt_trichotomy p q with h | h | h
    · obtain ⟨j, g1, g2⟩ := b5 p t a s (.inl h) (to p a a1 a2) a3
      rw [a4] at g2
      have := nd_idx nd (fro j c g1 g2) e
      omega
    · subst h
      have hab := to p a a1 a2
      rw [b2] at hab
      obtain rfl := Option.some.inj hab
      rcases Nat.lt_trichotomy t u with h | h | h
      · obtain ⟨j, g1, g2⟩ := b5 p t b s (.inr ⟨rfl, h⟩) b2 a3
        rw [a4] at g2
        have := nd_idx nd (fro j c g1 g2) e
        omega
      · subst h
        rw [a3] at b3
        rw [← a4, ← b4, Option.some.inj b3]
      · obtain ⟨j, g1, g2⟩ := a5 p u b r (.inr ⟨rfl, h⟩) a2 b3
        rw [b4] at g2
        have := nd_idx nd' (to j c' g1 g2) e'
        omega
    · obtain ⟨j, g1, g2⟩ := a5 q u b r (.inl h) (fro q b b1 b2) b3
      rw [b4] at g2
      have := nd_idx nd' (to j c' g1 g2) e'
      omega
theorem ford_len {L : Type} {nx : L → List (Int × L)} {cs cs' : List L} (nd : cs.Nodup) (nd' : cs'.Nodup) (h0 : cs[0]? = cs'[0]?) (f : FOrd nx cs) (f' : FOrd nx cs') (cl : ∀ a ∈ cs, ∀ s ∈ nx a, s.2 ∈ cs) (pos : 0 < cs.length) : cs'.length ≤ cs.length := by
  apply Nat.le_of_not_lt
  intro hl
  have e' : cs'[cs.length]? = some cs'[cs.length] := List.getElem?_eq_getElem hl
  obtain ⟨p, t, a, s, a1, a2, a3, a4, _⟩ := f' _ _ pos e'
  have ep : cs[p]? = some cs[p] := List.getElem?_eq_getElem a1
  have := ford_pre nd nd' h0 f f' (p + 1) p _ _ (Nat.lt_succ_self _) ep a2
  have m1 := cl cs[p] (List.getElem_mem a1) s (by rw [this]; exact List.mem_of_getElem? a3)
  obtain ⟨j, hj⟩ := List.mem_iff_getElem?.mp m1
  have jl := (List.getElem?_eq_some_iff.mp hj).1
  have ej : cs'[j]? = some cs'[j] := List.getElem?_eq_getElem (by omega)
  have := ford_pre nd nd' h0 f f' (j + 1) j _ _ (Nat.lt_succ_self _) hj ej
  have h3 := nd_idx nd' (x := s.2) (by rw [ej, ← this]) (by rw [e', a4])
  omega
theorem ford_eq {L : Type} {nx : L → List (Int × L)} {cs cs' : List L} (nd : cs.Nodup) (nd' : cs'.Nodup) (h0 : cs[0]? = cs'[0]?) (f : FOrd nx cs) (f' : FOrd nx cs') (cl : ∀ a ∈ cs, ∀ s ∈ nx a, s.2 ∈ cs) (cl' : ∀ a ∈ cs', ∀ s ∈ nx a, s.2 ∈ cs') (pos : 0 < cs.length) (pos' : 0 < cs'.length) : cs = cs' := by
  have l1 := ford_len nd nd' h0 f f' cl pos
  have l2 := ford_len nd' nd h0.symm f' f cl' pos'
  refine List.ext_getElem (by omega) fun i h1 h2 => ?_
  exact ford_pre nd nd' h0 f f' (i + 1) i _ _ (Nat.lt_succ_self _) (List.getElem?_eq_getElem h1) (List.getElem?_eq_getElem h2)
abbrev MRow := List (Int × Int)
abbrev PrAt (H : Hp) : List Addr → MRow → Prop := Paired fun q e => H q = some (.tup [.int e.1, .int e.2])
theorem prat_stay {H H' : Hp} (t : TupsStay H H') {qs : List Addr} {r : MRow} (h : PrAt H qs r) : PrAt H' qs r := awMap (fun q e z => t _ _ z) h
def RowL (H : Hp) (l : Addr) (row : MRow) : Prop := ∃ qs, H l = some (.lst (qs.map V.ref)) ∧ PrAt H qs row
abbrev MacL (H : Hp) : List Addr → List MRow → Prop := Paired (RowL H)
theorem macl_stay {H H' : Hp} (t : TupsStay H H') : ∀ {ls : List Addr} {mac : List MRow}, (∀ l ∈ ls, ∀ xs, H l = some (.lst xs) → H' l = some (.lst xs)) → MacL H ls mac → MacL H' ls mac
  | _, _, _, .nil => .nil
  | _, _, k, .cons ⟨qs, h1, h2⟩ h => .cons ⟨qs, k _ List.mem_cons_self _ h1, prat_stay t h2⟩ (macl_stay t (fun l hl => k l (List.mem_cons_of_mem _ hl)) h)
def kC (c : List Int) : NestedKey := .tup (c.map .num)
theorem nums_inj : ∀ {a b : List Int}, a.map NestedKey.num = b.map NestedKey.num → a = b
  | [], [], _ => rfl
  | [], _ :: _, h => nomatch h
  | _ :: _, [], h => nomatch h
  | x :: a, y :: b, h => by
    rw [List.map_cons, List.map_cons, List.cons.injEq] at h
    rw [NestedKey.num.inj h.1, nums_inj h.2]
theorem kC_inj {a b : List Int} (h : kC a = kC b) : a = b := nums_inj (NestedKey.tup.inj h)
theorem nums_depth : ∀ c : List Int, NestedKey.depthAll (c.map .num) = 0
  | [] => by simp [NestedKey.depthAll]
  | x :: c => by simp [NestedKey.depthAll, NestedKey.depth, nums_depth c]
theorem kC_depth (c : List Int) : (kC c).depth ≤ 8 := by
  unfold kC
  simp [NestedKey.depth, nums_depth c]
theorem nks_ints (H : Hp) : ∀ c : List Int, NkAll H (c.map .num) (c.map V.int)
  | [] => .nil
  | x :: c => .cons (.num x) (nks_ints H c)
theorem nks_eq {H : Hp} : ∀ {c : List Int} {xs : List V}, NkAll H (c.map .num) xs → xs = c.map V.int
  | [], _, h => by
    cases h
    rfl
  | x :: c, _, h => by
    cases h with
    | cons h1 h2 =>
      cases h1
      rw [nks_eq h2]
      rfl
theorem keyC {H : Hp} {b : Addr} {c : List Int} (h : H b = some (.tup (c.map V.int))) : KeyN H (.ref b) (kC c) := ⟨.tup h (nks_ints H c), kC_depth c, b, rfl⟩
theorem keyC_tup {H : Hp} {b : Addr} {c : List Int} (h : KeyN H (.ref b) (kC c)) : H b = some (.tup (c.map V.int)) := by
  obtain ⟨h1, _⟩ := h
  unfold kC at h1
  cases h1 with
  | tup e hs =>
    rw [nks_eq hs] at e
    exact e
/-- a row of the machine of all carries -/
abbrev RowM (cs : List (List Int)) : MRow → List (Int × List Int) → Prop := Paired fun e s => e.1 = s.1 ∧ ∃ j : Nat, e.2 = (j : Int) ∧ cs[j]? = some s.2
structure WM (m : Nat) (ds : List Deed) (o : Int) (cs : List (List Int)) (mac : List MRow) : Prop where
  nd : cs.Nodup
  first : cs[0]? = some (ds.map fcD)
  bits : ∀ c ∈ cs, c.length = ds.length ∧ ∀ x ∈ c, Bit x
  each : ∀ (i : Nat) row, mac[i]? = some row → ∃ c, cs[i]? = some c ∧ RowM cs row (stp m ds o c)
  fo : FOrd (stp m ds o) cs
theorem few_cs {n : Nat} {cs : List (List Int)} (nd : cs.Nodup) (hb : ∀ c ∈ cs, c.length = n ∧ ∀ x ∈ c, Bit x) (hn : n ≤ 8) : cs.length ≤ 256 := by
  have h := pigeon cs (allB n) nd fun c hc => allB_all n _ (hb c hc).1 (hb c hc).2
  rw [allB_len] at h
  exact Nat.le_trans h (Nat.le_trans (Nat.pow_le_pow_right (by decide) hn) (by decide))
theorem keys_nd {cs : List (List Int)} {ts : List WT} (h : (ts.map (·.1)).Nodup) (e : ts.map (·.1) = cs.map kC) : cs.Nodup := by
  rw [e] at h
  exact List.Pairwise.imp (fun {a b} z y => z (congrArg kC y)) (List.pairwise_map.mp h)
theorem keys_at {cs : List (List Int)} {ts : List WT} (e : ts.map (·.1) = cs.map kC) {i : Nat} {t : WT} (h : ts[i]? = some t) : ∃ c, cs[i]? = some c ∧ t.1 = kC c := by
  have h1 : (ts.map (·.1))[i]? = some t.1 := by rw [List.getElem?_map, h]; rfl
  rw [e, List.getElem?_map] at h1
  cases hc : cs[i]? with
  | none => rw [hc] at h1; cases h1
  | some c => rw [hc] at h1; exact ⟨c, rfl, (Option.some.inj h1).symm⟩
theorem keys_len {cs : List (List Int)} {ts : List WT} (e : ts.map (·.1) = cs.map kC) : ts.length = cs.length := by
  have := congrArg List.length e
  rwa [List.length_map, List.length_map] at this
def spWh : Sp := fun vs H Q _ => ∃ (R : Addr) (m : Nat) (o : Int) (ds : List Deed), vs = [.ref R] ∧ RowAt H R m ds o ∧ RowOk m ds o ∧
  ∀ H' p ls cs mac, Same H H' → H p = none → H' p = some (.lst (ls.map V.ref)) → MacL H' ls mac → WM m ds o cs mac → mac.length = cs.length → Q (.ref p) H'
theorem ok_wh {f fA fF fS fI fM C : Addr} {fd fdA fdF fdS fdI fdM : FuncData} {k : Nat} (F : Fun K "whole_machine" "whole_machine" s_whole_machine f fd) (T : WCls K mg C)
    (GA : FnOk P w K mg base CX0 (k + 1) fA fdA ["many"] spAll) (kA : PySem.W.keepIn K (.ref fA) = true) (bA : Binds K fdA ["many"] []) (gA : mg "all_bits" = some (.ref fA))
    (GF : FnOk P w K mg base CX0 (k + 1) fF fdF ["row"] spFc) (kF : PySem.W.keepIn K (.ref fF) = true) (bF : Binds K fdF ["row"] []) (gF : mg "first_carry" = some (.ref fF))
    (GS : FnOk P w K mg base CX0 (k + 4) fS fdS ["row", "carry"] spSt) (kS : PySem.W.keepIn K (.ref fS) = true) (bS : Binds K fdS ["row", "carry"] []) (gS : mg "steps" = some (.ref fS))
    (MK : Mk K C fI) (GI : FnOk P w K mg base CX0 (k + 1) fI fdI ["self", "first"] (spWi P w C)) (bI : Binds K fdI ["self", "first"] [])
    (MM : Meth K C "meet" fM) (GM : FnOk P w K mg base CX0 (k + 1) fM fdM ["self", "thing", "ahead", "bits"] (spWm P w C)) (bM : Binds K fdM ["self", "thing", "ahead", "bits"] [])
    (mn : mg "len" = none) (mz : mg "zip" = none) : FnOk P w K mg base CX0 (k + 5) f fd ["row"] spWh := by
  refine F.ok sc_whole_machine (fun vs H Q E h => ?_) (fun cdv A outer s H vs Q E hr h => ?_)
  · obtain ⟨R, m, o, ds, rfl, _⟩ := h
    rfl
  · obtain ⟨R, m, o, ds, rfl, hrow, hok, q⟩ := h
    obtain ⟨D, rs, eR, eD, hd⟩ := id hrow
    have r1 := hr.mono (show k + 1 ≤ k + 4 by omega)
    have r2 := hr.mono (show k + 1 + 1 ≤ k + 4 by omega)
    refine ⟨_, pss_cons (ps_set (i := 1) sc_whole_machine.nd rfl (.inl rfl) (pe_call GA r1 (by rfl) gA kA bA .nil pass0 (pa_cons (pe_ix ix_tup (pv 0) pe_int (fun _ _ => rfl)) pa_nil)))
      (pss_cons (ps_set (i := 2) sc_whole_machine.nd rfl (.inl rfl) (pe_make MK GI r2 (by rfl) T.mgC bI .nil pass0 (pa_cons (pe_call GF r1 (by rfl) gF kF bF .nil pass0 (pa_cons (pv 0) pa_nil)) pa_nil)))
      (pss_cons (ps_set (i := 3) sc_whole_machine.nd rfl (.inl rfl) (pe_lst pa_nil))
      (pss_cons (ps_while PassesOwn.never (pt_cmpR op_lt (pe_callB call_len_seq (by rfl) mn PySem.boot_len (pa_cons (pv 3) pa_nil)) (pe_callB call_len_seq (by rfl) mn PySem.boot_len (pa_cons (pe_fld (pv 2) rfl) pa_nil)) (nomark _))
        (pss_cons (ps_set (i := 4) sc_whole_machine.nd rfl (.inl rfl) (pe_callB call_len_seq (by rfl) mn PySem.boot_len (pa_cons (pv 3) pa_nil)))
        (pss_cons (ps_set (i := 5) sc_whole_machine.nd rfl (.inl rfl) (pe_ix ix_list (pe_fld (pv 2) rfl) (pv 4) (fun _ _ => rfl)))
        (pss_cons (ps_set (i := 6) sc_whole_machine.nd rfl (.inl rfl) (pe_lst pa_nil))
        (pss_cons (ps_for PassesOwn.never rfl (pi_zip (by rfl) mz (pa_cons (pv 1) (pa_cons (pe_call GS hr (by rfl) gS kS bS .nil pass0 (pa_cons (pv 0) (pa_cons (pv 5) pa_nil))) pa_nil))) (pg_tup rfl (pgs_cons (pg_name (i := 7) sc_whole_machine.nd rfl (.inl rfl)) (pgs_cons (pg_tup rfl (pgs_cons (pg_name (i := 8) sc_whole_machine.nd rfl (.inl rfl)) (pgs_cons (pg_name (i := 9) sc_whole_machine.nd rfl (.inl rfl)) pgs_nil))) pgs_nil)))
          (pss_one (ps_expr (pe_bm PySem.F.plainAttrs_list PySem.F.slot_list_append PySem.F.type_list_append mt_append (pv 6) (pa_cons (pe_tup (pa_cons (pv 8) (pa_cons (pe_meth (pv 2) T.cl MM GM r1 bM .nil pass0 (pa_cons (pv 9) (pa_cons (pv 4) (pa_cons (pv 7) pa_nil)))) pa_nil))) pa_nil)))))
        (pss_one (ps_expr (pe_bm PySem.F.plainAttrs_list PySem.F.slot_list_append PySem.F.type_list_append mt_append (pv 3) (pa_cons (pv 6) pa_nil)))))))))
      (pss_one (ps_ret (pv 3)))))), ?_⟩
    have l8 := hok.len
    have m3 := hok.m3
    refine ⟨.ref R, rfl, R, _, 0, .int m, rfl, rfl, SqT.of eR, rfl, m, rfl, by omega, fun H1 Ch fs s1 nCh eCh hf => ?_⟩
    have fl : fs.length = 2 ^ m := by rw [awLen hf, allB_len]
    refine ⟨.ref R, rfl, R, m, o, ds, rfl, (Same.tups s1).row hrow, by omega, fun H2 Fi s2 nFi eFi => ?_⟩
    intro Wk dx nWk ndx nex
    have tW : TupsStay H2 (upd (upd H2 dx (.own Wk)) Wk (.ins C dx [])) := fun c xs e => by
      rw [upd_ne (ne_of_none e nWk), upd_ne (ne_of_none e ndx)]
      exact e
    have kW : ∀ c u, H2 c = some u → upd (upd H2 dx (.own Wk)) Wk (.ins C dx []) c = some u := fun c u e => by
      rw [upd_ne (ne_of_none e nWk), upd_ne (ne_of_none e ndx)]
      exact e
    refine ⟨Wk, dx, Fi, kC (ds.map fcD), rfl, upd_same, keyC (tW _ _ eFi), fun H3 M N W hw nM nN nW kp => ⟨rfl, ?_⟩⟩
    have s3 : Same H2 H3 := fun c u e => kp c u (ne_of_none e nWk) (kW c u e)
    have s13 := (s1.trans s2).trans s3
    have back : ∀ a : Addr, upd (upd H2 dx (.own Wk)) Wk (.ins C dx []) a = none → H2 a = none := fun a h => by
      cases e : H2 a with
      | none => rfl
      | some u => rw [kW a u e] at h; cases h
    have hM2 := back _ nM
    have hN2 := back _ nN
    have hW2 := back _ nW
    have hM0 : H M = none := (s1.trans s2).free hM2
    have hN0 : H N = none := (s1.trans s2).free hN2
    have hW0 : H W = none := (s1.trans s2).free hW2
    have eCh2 := s2 _ _ eCh
    have nChM : Ch ≠ M := ne_of_none eCh2 hM2
    have nChN : Ch ≠ N := ne_of_none eCh2 hN2
    have nChW : Ch ≠ W := ne_of_none eCh2 hW2
    refine ⟨Nat.zero_le _, fun Mc hMc => ?_⟩
    have sMc := same_new (o := .lst []) hMc
    have nMM : Mc ≠ M := fun z => by rw [z, hw.met] at hMc; cases hMc
    have nMN : Mc ≠ N := fun z => by rw [z, hw.num.ob] at hMc; cases hMc
    have nMW : Mc ≠ W := fun z => by obtain ⟨ws, e, _⟩ := hw.ways; rw [z, e] at hMc; cases hMc
    have nMCh : Mc ≠ Ch := fun z => by rw [z, s3 _ _ eCh2] at hMc; cases hMc
    have hMc0 : H Mc = none := s13.free hMc
    refine ⟨fun n σ H4 => ∃ y4 y5 y6 y7 y8 y9 cs ts wy ls mac, σ = [some (.ref R), some (.ref Ch), some (.ref Wk), some (.ref Mc), y4, y5, y6, y7, y8, y9] ∧ WalkAt P w C H4 Wk M N W ts wy ∧ ts.map (·.1) = cs.map kC ∧ WM m ds o cs mac ∧ mac.length ≤ cs.length ∧ H4 Mc = some (.lst (ls.map V.ref)) ∧ MacL H4 ls mac ∧ (∀ l ∈ ls, l ≠ M ∧ l ≠ N ∧ l ≠ W ∧ l ≠ Mc) ∧ H4 Ch = some (.lst (fs.map V.ref)) ∧ TAt H4 fs (allB m) ∧ Same H H4 ∧ n = 257 - mac.length,
      ⟨_, none, none, none, none, none, none, [ds.map fcD], [(kC (ds.map fcD), Fi)], [(0, [])], [], [], rfl, hw.same sMc, rfl, ⟨by simp, rfl, fun c hc => ?_, fun i row h => by simp at h, FOrd.one⟩, Nat.zero_le _, upd_same, .nil, (fun _ z => nomatch z), sMc _ _ (s3 _ _ eCh2), tat_stay (Same.tups ((s2.trans s3).trans sMc)) hf, s13.trans sMc, rfl⟩, fun n σ H4 hp => ?_⟩
    · rw [List.mem_singleton.mp hc]
      have sh := shp_first ds
      exact ⟨sh.len, sh.bits⟩
    obtain ⟨y4, y5, y6, y7, y8, y9, cs, ts, wy, ls, mac, rfl, hw4, ek, wm, ml, eMc, hmac, lsne, eCh4, hf4, s4, rfl⟩ := hp
    obtain ⟨dxw, ob4⟩ := hw4.ob
    have csl := keys_len ek
    have few := few_cs wm.nd wm.bits l8
    have mll := awLen hmac
    refine ⟨.ref Mc, rfl, Mc, _, rfl, .inl (.inl (.inl eMc)), .ref Wk, rfl, Wk, C, dxw, _, _, rfl, ob4, T.cl, T.nM, wF_met _ _ _, M, _, rfl, .inl (.inl (.inl hw4.met)), _, _, rfl, rfl, _, rfl, ite2 (fun e => ?_) (fun e => ?_)⟩
    · have lt : mac.length < cs.length := by
        have := of_decide_eq_true e
        rw [List.length_map, List.length_map] at this
        omega
      refine ⟨fun σ' H' => ∃ m', m' < 257 - mac.length ∧ (∃ y4 y5 y6 y7 y8 y9 cs ts wy ls mac, σ' = [some (.ref R), some (.ref Ch), some (.ref Wk), some (.ref Mc), y4, y5, y6, y7, y8, y9] ∧ WalkAt P w C H' Wk M N W ts wy ∧ ts.map (·.1) = cs.map kC ∧ WM m ds o cs mac ∧ mac.length ≤ cs.length ∧ H' Mc = some (.lst (ls.map V.ref)) ∧ MacL H' ls mac ∧ (∀ l ∈ ls, l ≠ M ∧ l ≠ N ∧ l ≠ W ∧ l ≠ Mc) ∧ H' Ch = some (.lst (fs.map V.ref)) ∧ TAt H' fs (allB m) ∧ Same H H' ∧ m' = 257 - mac.length), fun σ' H' z => z, ?_⟩
      have lenI : ((ls.map V.ref).length : Int) = ((mac.length : Nat) : Int) := by rw [List.length_map, mll]
      refine ⟨.ref Mc, rfl, Mc, _, rfl, .inl (.inl (.inl eMc)), ?_⟩
      rw [lenI]
      have hti : mac.length < ts.length := by omega
      obtain ⟨c0, hc0, ht1⟩ := keys_at ek (List.getElem?_eq_getElem hti)
      have hkey := hw4.keys _ (List.getElem_mem hti)
      rw [ht1] at hkey
      have ecb := keyC_tup hkey
      obtain ⟨c0l, c0b⟩ := wm.bits c0 (List.mem_of_getElem? hc0)
      refine ⟨.ref Wk, rfl, Wk, C, dxw, _, _, rfl, ob4, T.cl, T.nM, wF_met _ _ _, .int _, rfl, M, _, _, .ref (ts[mac.length]).2, rfl, rfl, .inl (.inl hw4.met), atI_nat (by rw [List.getElem?_map, List.getElem?_eq_getElem hti]; rfl), ?_⟩
      generalize (ts[mac.length]).2 = cb at ecb
      refine ⟨Nat.zero_le _, fun St hSt => ?_⟩
      have sSt := same_new (o := .lst []) hSt
      have nSM : St ≠ M := fun z => by rw [z, hw4.met] at hSt; cases hSt
      have nSN : St ≠ N := fun z => by rw [z, hw4.num.ob] at hSt; cases hSt
      have nSW : St ≠ W := fun z => by obtain ⟨ws, e, _⟩ := hw4.ways; rw [z, e] at hSt; cases hSt
      have nSMc : St ≠ Mc := fun z => by rw [z, eMc] at hSt; cases hSt
      have nSCh : St ≠ Ch := fun z => by rw [z, eCh4] at hSt; cases hSt
      have nSWk : St ≠ Wk := fun z => by rw [z, ob4] at hSt; cases hSt
      have nSls : ∀ l ∈ ls, l ≠ St := fun l hl z => by
        obtain ⟨i, hi⟩ := List.mem_iff_getElem?.mp hl
        obtain ⟨row, _, qs, h1, _⟩ := awGet hmac hi
        rw [z, hSt] at h1
        cases h1
      have hSt0 : H St = none := s4.free hSt
      refine ⟨.ref Ch, rfl, .ref R, rfl, .ref cb, rfl, R, cb, m, o, ds, c0, rfl, (Same.tups (s4.trans sSt)).row hrow, hok, sSt _ _ ecb, c0l, fun H5 Sp ps s5 nSp eSp hps => ?_⟩
      have s45 := sSt.trans s5
      have psl : ps.length = 2 ^ m := by rw [awLen hps, stp_len]
      have nSpM : Sp ≠ M := fun z => by rw [z, sSt _ _ hw4.met] at nSp; cases nSp
      have nSpN : Sp ≠ N := fun z => by rw [z, sSt _ _ hw4.num.ob] at nSp; cases nSp
      have nSpW : Sp ≠ W := fun z => by obtain ⟨ws, e, _⟩ := hw4.ways; rw [z, sSt _ _ e] at nSp; cases nSp
      have nSpS : Sp ≠ St := fun z => by rw [z, upd_same] at nSp; cases nSp
      have eCh5 := s45 _ _ eCh4
      have p8 : 2 ^ m ≤ 8 := Nat.le_trans (Nat.pow_le_pow_right (by decide) (show m ≤ 3 by omega)) (by decide)
      refine ⟨Ch, Sp, _, _, rfl, .inl (.inl eCh5), .inl (.inl eSp), for_it (walk_zip (K := K) (a := Ch) (b := Sp) (xs := fs.map V.ref) (ys := ps.map V.ref) (n := 2 ^ m) (by rw [List.length_map, List.length_map, fl, psl, Nat.min_self])) (fun j σ H6 => ∃ y7 y8 y9 cs' ts' wy' qs row, σ = [some (.ref R), some (.ref Ch), some (.ref Wk), some (.ref Mc), some (.int ((mac.length : Nat) : Int)), some (.ref cb), some (.ref St), y7, y8, y9] ∧ WalkAt P w C H6 Wk M N W ts' wy' ∧ ts'.map (·.1) = cs'.map kC ∧ (∀ (i : Nat) c, cs[i]? = some c → cs'[i]? = some c) ∧ (∀ c ∈ cs', c.length = ds.length ∧ ∀ x ∈ c, Bit x) ∧ FOrd (stp m ds o) cs' ∧ H6 St = some (.lst (qs.map V.ref)) ∧ PrAt H6 qs row ∧ RowM cs' row ((stp m ds o c0).take j) ∧ ∀ b u, b ≠ M → b ≠ N → b ≠ W → b ≠ St → H5 b = some u → H6 b = some u)
        ⟨y7, y8, y9, cs, ts, wy, [], [], rfl, hw4.same s45, ek, fun _ _ z => z, wm.bits, wm.fo, s5 _ _ upd_same, .nil, .nil, fun _ _ _ _ _ _ z => z⟩ (fun j σ H6 _ hp => ?_) (fun j x σ H6 H7 hj hp hy => ?_) (fun σ H6 hp => ?_)⟩
      · obtain ⟨_, _, _, _, _, _, _, _, _, _, _, _, _, _, _, _, _, st⟩ := hp
        exact ⟨.inl (.inl (st _ _ nChM nChN nChW nSCh.symm eCh5)), .inl (.inl (st _ _ nSpM nSpN nSpW nSpS eSp))⟩
      · obtain ⟨y7, y8, y9, cs', ts', wy', qs, row, rfl, hw6, ek6, pre, bit6, fo6, eSt6, hpr, hrm, st⟩ := hp
        obtain ⟨U, x1, x2, rfl, hU, rfl, g1, g2⟩ := hy
        have tup5 : ∀ b xs, H5 b = some (.tup xs) → H6 b = some (.tup xs) := fun b xs e => st b _ (ne_of e (s45 _ _ hw4.met) (fun y => nomatch y)) (ne_of e (s45 _ _ hw4.num.ob) (fun y => nomatch y)) (by obtain ⟨ws, e2, _⟩ := hw4.ways; exact ne_of e (s45 _ _ e2) (fun y => nomatch y)) (ne_of e (s5 _ _ upd_same) (fun y => nomatch y)) e
        have hjf : j < fs.length := by omega
        have hjp : j < ps.length := by omega
        have e1 : x1 = .ref fs[j] := by
          have g1' : (fs.map V.ref)[j]? = some x1 := g1
          rw [List.getElem?_map, List.getElem?_eq_getElem hjf] at g1'
          exact (Option.some.inj g1').symm
        have e2 : x2 = .ref ps[j] := by
          have g2' : (ps.map V.ref)[j]? = some x2 := g2
          rw [List.getElem?_map, List.getElem?_eq_getElem hjp] at g2'
          exact (Option.some.inj g2').symm
        subst e1 e2
        obtain ⟨bs, hb1, hb2⟩ := awGet hf4 (List.getElem?_eq_getElem hjf)
        obtain ⟨sb, hs1, ac, hs2, hs3⟩ := awGet hps (List.getElem?_eq_getElem hjp)
        have sU := same_new (o := .tup [.ref fs[j], .ref ps[j]]) hU
        have eb7 := sU _ _ (tup5 _ _ (s45 _ _ hb2))
        have e27 := sU _ _ (tup5 _ _ hs2)
        have e37 := sU _ _ (tup5 _ _ hs3)
        refine ⟨U, [.ref fs[j], .ref ps[j]], rfl, .inl (.inl upd_same), rfl, .ref fs[j], [.ref ps[j]], rfl, .ref ps[j], [], rfl, ps[j], [.int sb.1, .ref ac], rfl, .inl (.inl e27), rfl, .int sb.1, [.ref ac], rfl, .ref ac, [], rfl, rfl, rfl, ?_⟩
        have nUs : U ≠ St := fun z => by rw [z, eSt6] at hU; cases hU
        obtain ⟨dx6, ob6⟩ := hw6.ob
        have hw7 := hw6.same sU
        have l6 := keys_len ek6
        have few6 := few_cs (keys_nd hw6.nd ek6) bit6 l8
        refine ⟨.ref St, rfl, .inl ⟨rfl, _, .inl (.inl (sU _ _ eSt6))⟩, .int sb.1, rfl, .ref Wk, rfl, Wk, dx6, _, rfl, sU _ _ ob6, wF_meet _ _ _, .ref ac, rfl, .int ((mac.length : Nat) : Int), rfl, .ref fs[j], rfl, Wk, M, N, W, ac, fs[j], ts', wy', kC sb.2, ((mac.length : Nat) : Int), bs, rfl, hw7, keyC e37, eb7, by omega, fun H8 ts2 wy2 ix hw8 hix hcase kp8 => ?_⟩
        refine ⟨by show 2 ≤ sizeLine; decide, fun Pq hPq => ?_⟩
        have sP := same_new (o := .tup [.int sb.1, .int ((ix : Nat) : Int)]) hPq
        have eSt8 := kp8 _ _ nSM nSN nSW (sU _ _ eSt6)
        have hrl := awLen hpr
        have hrl2 := awLen hrm
        rw [List.length_take, stp_len] at hrl2
        have s8t : TupsStay H6 (upd H8 Pq (.tup [.int sb.1, .int ((ix : Nat) : Int)])) := fun b xs e => by
          have e7 := sU _ _ e
          obtain ⟨ws7, ew7, _⟩ := hw7.ways
          exact sP _ _ (kp8 b _ (ne_of e7 hw7.met (fun y => nomatch y)) (ne_of e7 hw7.num.ob (fun y => nomatch y)) (ne_of e7 ew7 (fun y => nomatch y)) e7)
        have nPS : Pq ≠ St := fun z => by rw [z, eSt8] at hPq; cases hPq
        have eSt9 := sP _ _ eSt8
        have tS := tups_put (o := .lst (qs.map V.ref ++ [V.ref Pq])) eSt9
        -- the carries so far
        obtain ⟨cs2, ek2, pre2, bit2, fo2, hcx⟩ : ∃ cs2 : List (List Int), ts2.map (·.1) = cs2.map kC ∧ (∀ (i : Nat) c, cs'[i]? = some c → cs2[i]? = some c) ∧ (∀ c ∈ cs2, c.length = ds.length ∧ ∀ x ∈ c, Bit x) ∧ FOrd (stp m ds o) cs2 ∧ cs2[ix]? = some sb.2 := by
          obtain ⟨b', hb'⟩ := hix
          rcases hcase with ⟨rfl, rfl⟩ | ⟨rfl, rfl, rfl, _⟩
          · obtain ⟨c, hc, ec⟩ := keys_at ek6 hb'
            exact ⟨cs', ek6, fun _ _ z => z, bit6, fo6, by rw [hc, kC_inj ec]⟩
          · refine ⟨cs' ++ [sb.2], by rw [List.map_append, List.map_append, ek6]; rfl, fun i c z => ?_, fun c hc => ?_, fo6.push (pre _ _ hc0) hs1 fun p' t' a' s' g1 g2 g3 => ?_, ?_⟩
            · rw [List.getElem?_append_left (List.getElem?_eq_some_iff.mp z).1]
              exact z
            · rcases List.mem_append.mp hc with hc | hc
              · exact bit6 c hc
              · rw [List.mem_singleton.mp hc]
                obtain ⟨bs', h1, e⟩ := List.mem_map.mp (List.mem_of_getElem? hs1)
                rw [← e]
                exact ⟨nxt_len c0l.symm, nxt_bits (bts_bits (allB_ok m bs' h1).2 c0b) c0b⟩
            · rcases g1 with g1 | ⟨rfl, g1⟩
              · obtain ⟨c, w1, w2⟩ := wm.each p' _ (List.getElem?_eq_getElem g1)
                have w3 := pre _ _ w1
                rw [g2] at w3
                obtain rfl := Option.some.inj w3
                obtain ⟨e, _, _, j', _, w6⟩ := awGet2 w2 g3
                exact ⟨j', pre _ _ w6⟩
              · have w3 := pre _ _ hc0
                rw [g2] at w3
                obtain rfl := Option.some.inj w3
                obtain ⟨e, _, _, j', _, w6⟩ := awGet2 hrm (show (List.take j (stp m ds o a'))[t']? = some s' by rw [List.getElem?_take_of_lt g1]; exact g3)
                exact ⟨j', w6⟩
            · rw [l6, List.getElem?_append_right (Nat.le_refl _), Nat.sub_self]
              rfl
        refine ⟨St, _, _, rfl, rfl, eSt9, ?_, _, _, _, cs2, ts2, wy2, qs ++ [Pq], row ++ [(sb.1, ((ix : Nat) : Int))], rfl, ?_, ek2, fun i c z => pre2 i c (pre i c z), bit2, fo2, ?_, ?_, ?_, ?_⟩
        · rw [List.length_map]
          exact small1000 (by omega)
        · refine (hw8.same sP).stay tS fun c u hc e => ?_
          rw [upd_ne ?_]
          · exact e
          · rcases hc with rfl | rfl | rfl | rfl
            · exact nSWk.symm
            · exact nSM.symm
            · exact nSN.symm
            · exact nSW.symm
        · rw [upd_same, List.map_append]
          rfl
        · exact awSnoc (F := fun (q : Addr) (e : Int × Int) => (upd (upd H8 Pq (.tup [.int sb.1, .int ((ix : Nat) : Int)])) St (.lst (qs.map V.ref ++ [V.ref Pq]))) q = some (.tup [.int e.1, .int e.2])) (tS _ _ upd_same) (prat_stay tS (prat_stay s8t hpr))
        · rw [List.take_add_one, hs1]
          exact awSnoc (F := fun (e : Int × Int) (s : Int × List Int) => e.1 = s.1 ∧ ∃ j : Nat, e.2 = (j : Int) ∧ cs2[j]? = some s.2) ⟨rfl, ix, rfl, hcx⟩ (awMap (fun e s z => ⟨z.1, z.2.elim fun i y => ⟨i, y.1, pre2 i _ y.2⟩⟩) hrm)
        · intro b u n1 n2 n3 n4 e
          rw [upd_ne n4]
          exact sP _ _ (kp8 b u n1 n2 n3 (sU _ _ (st b u n1 n2 n3 n4 e)))
      · obtain ⟨y7, y8, y9, cs', ts', wy', qs, row, rfl, hw6, ek6, pre, bit6, fo6, eSt6, hpr, hrm, st⟩ := hp
        rw [← stp_len m ds o c0, List.take_length] at hrm
        have eMc6 := st _ _ nMM nMN nMW nSMc.symm (s45 _ _ eMc)
        have tup5 : TupsStay H5 H6 := fun b xs e => st b _ (ne_of e (s45 _ _ hw4.met) (fun y => nomatch y)) (ne_of e (s45 _ _ hw4.num.ob) (fun y => nomatch y)) (by obtain ⟨ws, e2, _⟩ := hw4.ways; exact ne_of e (s45 _ _ e2) (fun y => nomatch y)) (ne_of e (s5 _ _ upd_same) (fun y => nomatch y)) e
        have t46 : TupsStay H4 H6 := (Same.tups s45).trans tup5
        have tM := tups_put (o := .lst (ls.map V.ref ++ [V.ref St])) eMc6
        refine ⟨.ref Mc, rfl, .inl ⟨rfl, _, .inl (.inl eMc6)⟩, .ref St, rfl, Mc, _, _, rfl, rfl, eMc6, ?_, _, ?_, _, _, _, _, _, _, cs', ts', wy', ls ++ [St], mac ++ [row], rfl, ?_, ek6, ⟨keys_nd hw6.nd ek6, pre _ _ wm.first, bit6, fun i r hi => ?_, fo6⟩, ?_, ?_, ?_, fun l hl => ?_, ?_, tat_stay tM (tat_stay t46 hf4), ?_, rfl⟩
        · rw [List.length_map]
          exact small1000 (by omega)
        · rw [List.length_append]
          show 257 - (mac.length + 1) < 257 - mac.length
          omega
        · refine hw6.stay tM fun c u hc e => ?_
          rw [upd_ne ?_]
          · exact e
          · obtain ⟨dx6, ob6⟩ := hw6.ob
            rcases hc with rfl | rfl | rfl | rfl
            · exact ne_of ob6 eMc6 (fun y => nomatch y)
            · exact nMM.symm
            · exact nMN.symm
            · exact nMW.symm
        · by_cases hil : i < mac.length
          · rw [List.getElem?_append_left hil] at hi
            obtain ⟨c, h1, h2⟩ := wm.each i r hi
            exact ⟨c, pre _ _ h1, awMap (fun e s z => ⟨z.1, z.2.elim fun i y => ⟨i, y.1, pre i _ y.2⟩⟩) h2⟩
          · rw [List.getElem?_append_right (by omega)] at hi
            have hi2 := (List.getElem?_eq_some_iff.mp hi).1
            simp only [List.length_cons, List.length_nil] at hi2
            have ei : i = mac.length := by omega
            subst ei
            rw [Nat.sub_self] at hi
            obtain rfl := Option.some.inj hi
            exact ⟨c0, pre _ _ hc0, hrm⟩
        · rw [List.length_append]
          have h1 := (List.getElem?_eq_some_iff.mp (pre _ _ hc0)).1
          show mac.length + 1 ≤ cs'.length
          omega
        · rw [upd_same, List.map_append]
          rfl
        · refine awSnoc (F := RowL (upd H6 Mc (.lst (ls.map V.ref ++ [V.ref St])))) ⟨qs, ?_, prat_stay tM hpr⟩ (macl_stay (t46.trans tM) (fun l hl xs e => ?_) hmac)
          · rw [upd_ne nSMc]
            exact eSt6
          · obtain ⟨l1, l2, l3, l4⟩ := lsne l hl
            rw [upd_ne l4]
            exact st _ _ l1 l2 l3 (nSls l hl) (s45 _ _ e)
        · rcases List.mem_append.mp hl with hl | hl
          · exact lsne l hl
          · rw [List.mem_singleton.mp hl]
            exact ⟨nSM, nSN, nSW, nSMc⟩
        · rw [upd_ne nMCh.symm]
          exact st _ _ nChM nChN nChW nSCh.symm eCh5
        · intro b u e
          have e5 := s45 _ _ (s4 b u e)
          rw [upd_ne (ne_of_none e hMc0)]
          exact st b u (ne_of_none e hM0) (ne_of_none e hN0) (ne_of_none e hW0) (ne_of_none e hSt0) e5
    · have nlt : ¬ mac.length < cs.length := fun z => e (by
        apply decide_eq_true
        rw [List.length_map, List.length_map]
        omega)
      exact ⟨.ref Mc, rfl, q H4 Mc ls cs mac s4 hMc0 eMc hmac wm (by omega)⟩
/-! ### numbered -/
abbrev zs (ns : List Nat) : List Int := ns.map Int.ofNat
structure NumOf (ks : List NestedKey) (ns : List Nat) : Prop where
  len : ns.length = ks.length
  inj : ∀ (i j a : Nat) x y, ns[i]? = some a → ns[j]? = some a → ks[i]? = some x → ks[j]? = some y → x = y
  rg : ∀ i v : Nat, ns[i]? = some (v + 1) → ∃ j, j < i ∧ ns[j]? = some v
  same : ∀ (i j : Nat), ks[i]? = ks[j]? → ns[i]? = ns[j]?
structure FI (ks : List NestedKey) (i : Nat) (us : List NestedKey) : Prop where
  nd : us.Nodup
  all : ∀ (j : Nat) k, j < i → ks[j]? = some k → k ∈ us
  src : ∀ k ∈ us, ∃ j, j < i ∧ ks[j]? = some k
  rg : ∀ (v j : Nat) k, us[v + 1]? = some k → ks[j]? = some k → ∃ j' k', j' < j ∧ us[v]? = some k' ∧ ks[j']? = some k'
  len : us.length ≤ i
theorem FI.zero {ks : List NestedKey} : FI ks 0 [] := ⟨.nil, (fun j k h => absurd h (Nat.not_lt_zero _)), (fun _ z => nomatch z), (fun v j k h => by simp at h), Nat.le_refl _⟩
theorem FI.old {ks us : List NestedKey} {i : Nat} {k : NestedKey} (h : FI ks i us) (hk : ks[i]? = some k) (hm : k ∈ us) : FI ks (i + 1) us := by
  refine ⟨h.nd, fun j k' hj e => ?_, fun k' hk' => ?_, h.rg, Nat.le_succ_of_le h.len⟩
  · by_cases hji : j = i
    · rw [hji, hk] at e
      exact Option.some.inj e ▸ hm
    · exact h.all j k' (by omega) e
  · obtain ⟨j, h1, h2⟩ := h.src k' hk'
    exact ⟨j, by omega, h2⟩
theorem FI.new {ks us : List NestedKey} {i : Nat} {k : NestedKey} (h : FI ks i us) (hk : ks[i]? = some k) (hm : k ∉ us) : FI ks (i + 1) (us ++ [k]) := by
  refine ⟨?_, fun j k' hj e => ?_, fun k' hk' => ?_, fun v j k' hv e => ?_, by rw [List.length_append]; exact Nat.succ_le_succ h.len⟩
  · rw [List.nodup_append]
    refine ⟨h.nd, by simp, fun a ha b hb => ?_⟩
    rw [List.mem_singleton.mp hb]
    exact fun z => hm (z ▸ ha)
  · by_cases hji : j = i
    · rw [hji, hk] at e
      rw [← Option.some.inj e]
      simp
    · exact List.mem_append_left _ (h.all j k' (by omega) e)
  · rcases List.mem_append.mp hk' with h1 | h1
    · obtain ⟨j, h2, h3⟩ := h.src k' h1
      exact ⟨j, by omega, h3⟩
    · rw [List.mem_singleton.mp h1]
      exact ⟨i, by omega, hk⟩
  · by_cases hl : v + 1 < us.length
    · rw [List.getElem?_append_left hl] at hv
      obtain ⟨j', k2, h1, h2, h3⟩ := h.rg v j k' hv e
      exact ⟨j', k2, h1, by rw [List.getElem?_append_left (by omega)]; exact h2, h3⟩
    · rw [List.getElem?_append_right (by omega)] at hv
      have hv0 : v + 1 - us.length = 0 := by
        have := (List.getElem?_eq_some_iff.mp hv).1
        simp at this
        exact this
      rw [hv0] at hv
      have hkk : k = k' := by simpa using hv
      subst hkk
      have hlv : v < us.length := by omega
      obtain ⟨j', h1, h2⟩ := h.src us[v] (List.getElem_mem hlv)
      refine ⟨j', us[v], ?_, by rw [List.getElem?_append_left hlv, List.getElem?_eq_getElem hlv], h2⟩
      by_cases hji : j < i
      · exact absurd (h.all j k hji e) hm
      · omega
def idxN (us : List NestedKey) (k : NestedKey) : Nat := us.findIdx fun u => decide (u = k)
theorem idxN_at {us : List NestedKey} {k : NestedKey} (h : k ∈ us) : us[idxN us k]? = some k := by
  have hl : idxN us k < us.length := List.findIdx_lt_length_of_exists ⟨k, h, by simp⟩
  rw [List.getElem?_eq_getElem hl]
  exact congrArg some (of_decide_eq_true (List.findIdx_getElem (w := hl)))
theorem FI.done {ks us : List NestedKey} (h : FI ks ks.length us) : NumOf ks (ks.map (idxN us)) := by
  have key : ∀ (i a : Nat), (ks.map (idxN us))[i]? = some a → ∃ x, ks[i]? = some x ∧ us[a]? = some x := fun i a e => by
    rw [List.getElem?_map] at e
    cases hx : ks[i]? with
    | none => rw [hx] at e; cases e
    | some x =>
      rw [hx] at e
      have e' : idxN us x = a := Option.some.inj e
      exact ⟨x, rfl, e' ▸ idxN_at (h.all i x (List.getElem?_eq_some_iff.mp hx).1 hx)⟩
  refine ⟨List.length_map _, fun i j a x y h1 h2 h3 h4 => ?_, fun i v e => ?_, fun i j e => by rw [List.getElem?_map, List.getElem?_map, e]⟩
  · obtain ⟨x', e1, e2⟩ := key i a h1
    obtain ⟨y', e3, e4⟩ := key j a h2
    rw [h3] at e1
    rw [h4] at e3
    rw [Option.some.inj e1, Option.some.inj e3]
    exact Option.some.inj (e2.symm.trans e4)
  · obtain ⟨x, e1, e2⟩ := key i _ e
    obtain ⟨j', k', h1, h2, h3⟩ := h.rg v i x e2 e1
    refine ⟨j', h1, ?_⟩
    rw [List.getElem?_map, h3]
    have hk' := h.all j' k' (List.getElem?_eq_some_iff.mp h3).1 h3
    have := idxN_at hk'
    exact congrArg some ((List.getElem?_inj (List.getElem?_eq_some_iff.mp this).1 h.nd).mp (this.trans h2.symm))
theorem NumOf.le {ks : List NestedKey} {ns : List Nat} (h : NumOf ks ns) : ∀ (v i : Nat), ns[i]? = some v → v ≤ i
  | 0, _, _ => Nat.zero_le _
  | v + 1, i, e => by
    obtain ⟨j, h1, h2⟩ := h.rg i v e
    have := h.le v j h2
    omega
abbrev KeysAt (H : Hp) : List Addr → List NestedKey → Prop := Paired fun b k => KeyN H (.ref b) k
theorem keysat_stay {H H' : Hp} (t : TupsStay H H') {bs : List Addr} {ks : List NestedKey} (h : KeysAt H bs ks) : KeysAt H' bs ks := awMap (fun b k z => keyn_stay t z) h
def spNu : Sp := fun vs H Q _ => ∃ (L : Addr) (bs : List Addr) (ks : List NestedKey), vs = [.ref L] ∧ H L = some (.lst (bs.map V.ref)) ∧ KeysAt H bs ks ∧ bs.length ≤ 256 ∧
  ∀ H' p ns, Same H H' → H p = none → H' p = some (.lst ((zs ns).map V.int)) → NumOf ks ns → Q (.ref p) H'
theorem ok_nu {f : Addr} {fd : FuncData} {k : Nat} (F : Fun K "numbered" "numbered" s_numbered f fd) (mn : mg "len" = none) : FnOk P w K mg base CX0 (k + 1) f fd ["looks"] spNu := by
  refine F.ok sc_numbered (fun vs H Q E h => ?_) (fun cdv A outer s H vs Q E hr h => ?_)
  · obtain ⟨L, bs, ks, rfl, _⟩ := h
    rfl
  · obtain ⟨L, bs, ks, rfl, eL, hk, hl, q⟩ := h
    refine ⟨_, pss_cons (ps_set (i := 1) sc_numbered.nd rfl (.inr rfl) (pe_ndnew (P := P) (w := w) rfl rfl))
      (pss_cons (ps_for PassesOwn.never rfl (pi_list (pv 0)) (pg_name (i := 2) sc_numbered.nd rfl (.inl rfl))
        (pss_one (ps_expr (pe_nsetd (P := P) (w := w) rfl rfl hr.units (pv 1) (pa_cons (pv 2) (pa_cons (pe_callB (call_lenN (P := P) (w := w) rfl rfl) (by rfl) mn PySem.boot_len (pa_cons (pv 1) pa_nil)) pa_nil))))))
      (pss_one (ps_ret (pe_lc (own := [("look", 2)]) (g := gName 2) (by rfl) sc_numbered.nd (pi_list (pv 0)) (blkOk_by (own := [("look", 2)]) (N := N_numbered) (sc := defScope s_numbered) (by decide +kernel))
        (fun _ _ _ _ _ => pg_name (i := 2) sc_numbered.nd rfl (Or.inl rfl)) (fun _ _ _ _ _ => pts_nil) (fun _ _ _ _ _ => pe_ndget (P := P) (w := w) rfl rfl hr.units (pv 1) (pv 2) (fun _ _ => rfl)))))), ?_⟩
    intro N hN
    have sN := same_new (o := NDO P w N []) hN
    have nLN : L ≠ N := ne_of_none eL hN
    have kl := awLen hk
    refine ⟨.ref L, rfl, L, rfl, ⟨_, .inl (.inl (sN _ _ eL))⟩, for_list (K := K) (a := L) (xs := bs.map V.ref) (fun i σ H3 => ∃ y2 ts, σ = [some (.ref L), some (.ref N), y2] ∧ ND P w H3 N (numE ts) ∧ FI ks i (ts.map (·.1)) ∧ Same H H3)
      ⟨none, [], rfl, nd_nil, FI.zero, sN⟩ (fun i σ H3 _ hp => ?_) (fun i x σ H3 hx hp => ?_) (fun σ H3 hp => ?_)⟩
    · obtain ⟨_, _, _, _, _, s3⟩ := hp
      exact .inl (.inl (s3 _ _ eL))
    · obtain ⟨y2, ts, rfl, nd3, fi, s3⟩ := hp
      have hi : i < bs.length := by
        have := (List.getElem?_eq_some_iff.mp hx).1
        rwa [List.length_map] at this
      have hx' : x = .ref bs[i] := by
        rw [List.getElem?_map, List.getElem?_eq_getElem hi] at hx
        exact (Option.some.inj hx).symm
      subst hx'
      obtain ⟨key, hk1, hk2⟩ := awGet hk (List.getElem?_eq_getElem hi)
      have hk3 := keyn_stay (Same.tups s3) hk2
      have tl := fi.len
      rw [List.length_map] at tl
      refine ⟨.ref N, rfl, ⟨N, _, rfl, nd3⟩, .ref bs[i], rfl, .ref N, rfl, N, _, rfl, nd3, N, _, key, bs[i], _, rfl, rfl, nd3, hk3, ?_, fun y hy => ?_, fun hn => ?_⟩
      · rw [numE_len]
        exact small1000 (by omega)
      · obtain ⟨b, hb⟩ := getN_some hy
        obtain ⟨j, t, ht, he⟩ := numE_mem hb
        have : key ∈ ts.map (·.1) := List.mem_map.mpr ⟨t, List.mem_of_getElem? ht, (Prod.mk.inj he).1.symm⟩
        exact ⟨some (.ref bs[i]), ts, rfl, nd3, fi.old hk1 this, s3⟩
      · have nm : key ∉ ts.map (·.1) := fun z => by
          obtain ⟨t, h1, h2⟩ := List.mem_map.mp z
          obtain ⟨j, hj⟩ := List.mem_iff_getElem?.mp h1
          have := numE_some (k := key) (b := t.2) fi.nd (by rw [hj, ← h2])
          rw [hn] at this
          cases this
        refine ⟨some (.ref bs[i]), ts ++ [(key, bs[i])], rfl, ?_, ?_, fun b u e => ?_⟩
        · rw [numE_snoc, numE_len]
          exact nd_put nd3 hk3
        · rw [List.map_append]
          exact fi.new hk1 nm
        · rw [upd_ne (ne_of_none e hN)]
          exact s3 b u e
    · obtain ⟨y2, ts, rfl, nd3, fi, s3⟩ := hp
      rw [List.length_map, kl] at fi
      refine ⟨.ref L, rfl, L, rfl, ⟨_, .inl (.inl (s3 _ _ eL))⟩, fun D hD => ?_⟩
      refine lc_it (walk_list (K := K) (a := L) (xs := bs.map V.ref)) (fun i H4 => H4 D = some (.lst ((zs ((ks.map (idxN (ts.map (·.1)))).take i)).map V.int)) ∧ Same H3 H4) ⟨upd_same, same_new hD⟩ (fun i H4 _ hp => .inl (.inl (hp.2 _ _ (s3 _ _ eL)))) (fun i x H4 H5 hi hp hy => ?_) (fun H4 hp => ?_)
      · obtain ⟨eD, s4⟩ := hp
        obtain ⟨rfl, hx⟩ := hy
        have hi2 : i < bs.length := by rwa [List.length_map] at hi
        have hx' : x = .ref bs[i] := by
          rw [List.getElem?_map, List.getElem?_eq_getElem hi2] at hx
          exact (Option.some.inj hx).symm
        subst hx'
        obtain ⟨key, hk1, hk2⟩ := awGet hk (List.getElem?_eq_getElem hi2)
        have hm := fi.all i key (by omega) hk1
        have hat := idxN_at hm
        obtain ⟨t, ht1, ht2⟩ : ∃ t, ts[idxN (ts.map (·.1)) key]? = some t ∧ t.1 = key := by
          rw [List.getElem?_map] at hat
          cases ht : ts[idxN (ts.map (·.1)) key]? with
          | none => rw [ht] at hat; cases hat
          | some t => rw [ht] at hat; exact ⟨t, rfl, Option.some.inj hat⟩
        have hg := numE_some (k := key) (b := t.2) fi.nd (by rw [ht1, ← ht2])
        refine ⟨rfl, .ref N, rfl, .ref bs[i], rfl, N, _, key, _, rfl, nd_same nd3 s4, keyn_stay (Same.tups (s3.trans s4)) hk2, hg, _, eD, ?_, ?_, fun b u e => ?_⟩
        · rw [List.length_map, List.length_map, List.length_take]
          exact small1000 (by omega)
        · rw [upd_same, List.take_add_one, List.getElem?_map, hk1]
          simp [zs]
        · rw [upd_ne (ne_of_none e hD)]
          exact s4 b u e
      · obtain ⟨eD, s4⟩ := hp
        rw [List.length_map, kl, ← List.length_map (f := idxN (ts.map (·.1))), List.take_length] at eD
        exact q H4 D _ (s3.trans s4) (s3.free hD) eD fi.done
/-! ### kinds_of_states -/
abbrev RG (ns : List Nat) : Prop := ∀ i v : Nat, ns[i]? = some (v + 1) → ∃ j, j < i ∧ ns[j]? = some v
abbrev Finer (ns ps : List Nat) : Prop := ∀ i j a x y : Nat, ns[i]? = some a → ns[j]? = some a → ps[i]? = some x → ps[j]? = some y → x = y
theorem rg_down {ps : List Nat} (rg : RG ps) : ∀ d v i : Nat, ps[i]? = some (v + d) → ∃ j : Nat, ps[j]? = some v
  | 0, v, i, h => ⟨i, h⟩
  | d + 1, v, i, h => by
    obtain ⟨j, _, h2⟩ := rg i (v + d) h
    exact rg_down rg d v j h2
theorem coarse {ps ns : List Nat} {M m : Nat} (hl : ps.length = ns.length) (rgp : RG ps) (hM : M ∈ ps) (hm : ∀ x ∈ ns, x ≤ m) (hle : m ≤ M) (ref : Finer ns ps) : Finer ps ns := by
  have at_ : ∀ v, v ≤ M → ∃ i : Nat, ps[i]? = some v := fun v hv => by
    obtain ⟨i, hi⟩ := List.mem_iff_getElem?.mp hM
    exact rg_down rgp (M - v) v i (by rw [hi]; congr 1; omega)
  let r : Nat → Nat := fun v => ps.findIdx fun u => decide (u = v)
  have hr : ∀ v, v ≤ M → ps[r v]? = some v := fun v hv => by
    obtain ⟨i, hi⟩ := at_ v hv
    have hlt : r v < ps.length := List.findIdx_lt_length_of_exists ⟨v, List.mem_of_getElem? hi, by simp⟩
    rw [List.getElem?_eq_getElem hlt]
    exact congrArg some (of_decide_eq_true (List.findIdx_getElem (w := hlt)))
  have hn : ∀ v, v ≤ M → ∃ a, ns[r v]? = some a ∧ ns.getD (r v) 0 = a := fun v hv => by
    have hlt : r v < ns.length := by
      rw [← hl]
      exact (List.getElem?_eq_some_iff.mp (hr v hv)).1
    exact ⟨ns[r v], List.getElem?_eq_getElem hlt, by simp [List.getD, List.getElem?_eq_getElem hlt]⟩
  have nd : ((List.range (M + 1)).map fun v => ns.getD (r v) 0).Nodup := by
    refine List.pairwise_map.mpr (List.Pairwise.imp_of_mem (fun {a b} ha hb hab z => hab ?_) List.nodup_range)
    rw [List.mem_range] at ha hb
    obtain ⟨x, h1, h2⟩ := hn a (by omega)
    obtain ⟨y, h3, h4⟩ := hn b (by omega)
    rw [h2, h4] at z
    subst z
    exact ref _ _ x a b h1 h3 (hr a (by omega)) (hr b (by omega))
  have cov : ∀ x, x ∈ ns → ∃ v, v ≤ M ∧ ns[r v]? = some x := fun x hx => by
    by_cases h : x ∈ (List.range (M + 1)).map fun v => ns.getD (r v) 0
    · obtain ⟨v, h1, h2⟩ := List.mem_map.mp h
      rw [List.mem_range] at h1
      obtain ⟨a, h3, h4⟩ := hn v (by omega)
      exact ⟨v, by omega, by rw [h3, ← h4, ← h2]⟩
    · exfalso
      have := pigeon (x :: (List.range (M + 1)).map fun v => ns.getD (r v) 0) (List.range (M + 1)) (List.nodup_cons.mpr ⟨h, nd⟩) fun y hy => by
        rw [List.mem_range]
        rcases List.mem_cons.mp hy with rfl | hy
        · have := hm _ hx
          omega
        · obtain ⟨v, h1, h2⟩ := List.mem_map.mp hy
          rw [List.mem_range] at h1
          obtain ⟨a, h3, h4⟩ := hn v (by omega)
          have := hm a (List.mem_of_getElem? h3)
          have h2' : ns.getD (r v) 0 = y := h2
          omega
      rw [List.length_cons, List.length_map, List.length_range] at this
      omega
  intro i j a x y h1 h2 h3 h4
  obtain ⟨v, v1, v2⟩ := cov x (List.mem_of_getElem? h3)
  obtain ⟨u, u1, u2⟩ := cov y (List.mem_of_getElem? h4)
  have e1 := ref i (r v) x a v h3 v2 h1 (hr v v1)
  have e2 := ref j (r u) y a u h4 u2 h2 (hr u u1)
  have : v = u := by omega
  subst this
  rw [v2] at u2
  exact Option.some.inj u2
abbrev beh (ns : List Nat) (row : MRow) : List Int := row.map fun e => ((ns.getD e.2.toNat 0 : Nat) : Int)
structure MacOk (mac : List MRow) : Prop where
  pos : 0 < mac.length
  few : mac.length ≤ 256
  rows : ∀ row ∈ mac, row.length ≤ 8
  ends : ∀ row ∈ mac, ∀ e ∈ row, ∃ j : Nat, e.2 = (j : Int) ∧ j < mac.length
/-- states that tell alike for ever -/
def Alk (mac : List MRow) (R : Nat → Nat → Prop) : Prop := ∀ i j, R i j → ∃ r s, mac[i]? = some r ∧ mac[j]? = some s ∧ Paired (fun (e e' : Int × Int) => e.1 = e'.1 ∧ R e.2.toNat e'.2.toNat) r s
theorem alk_bits {R : Nat → Nat → Prop} : ∀ {r s : MRow}, Paired (fun (e e' : Int × Int) => e.1 = e'.1 ∧ R e.2.toNat e'.2.toNat) r s → r.map (·.1) = s.map (·.1)
  | _, _, .nil => rfl
  | _, _, .cons h1 h2 => by rw [List.map_cons, List.map_cons, h1.1, alk_bits h2]
theorem alk_beh {ns : List Nat} {R : Nat → Nat → Prop} (h : ∀ i j, R i j → ns[i]? = ns[j]?) : ∀ {r s : MRow}, Paired (fun (e e' : Int × Int) => e.1 = e'.1 ∧ R e.2.toNat e'.2.toNat) r s → beh ns r = beh ns s
  | _, _, .nil => rfl
  | _, _, .cons h1 h2 => by
    have e := alk_beh h h2
    unfold beh at e ⊢
    rw [List.map_cons, List.map_cons, e, List.getD_eq_getElem?_getD, List.getD_eq_getElem?_getD, h _ _ h1.2]
structure KOk (mac : List MRow) (ns : List Nat) : Prop where
  len : ns.length = mac.length
  rg : RG ns
  bits : ∀ (i j a : Nat) r s, ns[i]? = some a → ns[j]? = some a → mac[i]? = some r → mac[j]? = some s → r.map (·.1) = s.map (·.1)
  next : ∀ (i j a : Nat) r s, ns[i]? = some a → ns[j]? = some a → mac[i]? = some r → mac[j]? = some s → beh ns r = beh ns s
  crs : ∀ R, Alk mac R → ∀ i j, R i j → ns[i]? = ns[j]?
structure KInv (mac : List MRow) (ns : List Nat) (many : Nat) : Prop where
  len : ns.length = mac.length
  rg : RG ns
  bits : ∀ (i j a : Nat) r s, ns[i]? = some a → ns[j]? = some a → mac[i]? = some r → mac[j]? = some s → r.map (·.1) = s.map (·.1)
  prev : many = 0 ∨ ∃ (ps : List Nat) (M : Nat), ps.length = mac.length ∧ RG ps ∧ M ∈ ps ∧ many = M + 1 ∧ Finer ns ps ∧ ∀ (i j a : Nat) r s, ns[i]? = some a → ns[j]? = some a → mac[i]? = some r → mac[j]? = some s → beh ps r = beh ps s
  crs : ∀ R, Alk mac R → ∀ i j, R i j → ns[i]? = ns[j]?
theorem rg_le {ns : List Nat} (rg : RG ns) : ∀ (v i : Nat), ns[i]? = some v → v ≤ i
  | 0, _, _ => Nat.zero_le _
  | v + 1, i, e => by
    obtain ⟨j, h1, h2⟩ := rg i v e
    have := rg_le rg v j h2
    omega
theorem KInv.done {mac : List MRow} {ns : List Nat} {many m : Nat} (h : KInv mac ns many) (ok : MacOk mac) (hm : ∀ x ∈ ns, x ≤ m) (hle : m + 1 ≤ many) : KOk mac ns := by
  refine ⟨h.len, h.rg, h.bits, fun i j a r s h1 h2 h3 h4 => ?_, h.crs⟩
  rcases h.prev with e | ⟨ps, M, lp, rgp, hM, rfl, fin, nx⟩
  · omega
  have co := coarse (lp.trans h.len.symm) rgp hM hm (by omega) fin
  have e1 := nx i j a r s h1 h2 h3 h4
  apply List.ext_getElem?
  intro t
  have lr := congrArg List.length (h.bits i j a r s h1 h2 h3 h4)
  rw [List.length_map, List.length_map] at lr
  have e2 := congrArg (fun l : List Int => l[t]?) e1
  rw [List.getElem?_map, List.getElem?_map]
  by_cases ht : t < r.length
  · have ht2 : t < s.length := by omega
    have e3 : (beh ps r)[t]? = (beh ps s)[t]? := e2
    rw [List.getElem?_map, List.getElem?_map, List.getElem?_eq_getElem ht, List.getElem?_eq_getElem ht2] at e3
    rw [List.getElem?_eq_getElem ht, List.getElem?_eq_getElem ht2]
    obtain ⟨x, hx, lx⟩ := ok.ends r (List.mem_of_getElem? h3) r[t] (List.getElem_mem ht)
    obtain ⟨y, hy, ly⟩ := ok.ends s (List.mem_of_getElem? h4) s[t] (List.getElem_mem ht2)
    have e4 : ((ps.getD r[t].2.toNat 0 : Nat) : Int) = ((ps.getD s[t].2.toNat 0 : Nat) : Int) := Option.some.inj e3
    show some ((ns.getD r[t].2.toNat 0 : Nat) : Int) = some ((ns.getD s[t].2.toNat 0 : Nat) : Int)
    rw [hx, hy, Int.toNat_natCast, Int.toNat_natCast] at e4 ⊢
    have hl := h.len
    have px : ps[x]? = some ps[x] := List.getElem?_eq_getElem (by omega)
    have py : ps[y]? = some ps[y] := List.getElem?_eq_getElem (by omega)
    have nx : ns[x]? = some ns[x] := List.getElem?_eq_getElem (by omega)
    have ny : ns[y]? = some ns[y] := List.getElem?_eq_getElem (by omega)
    rw [List.getD_eq_getElem?_getD, List.getD_eq_getElem?_getD, px, py] at e4
    rw [List.getD_eq_getElem?_getD, List.getD_eq_getElem?_getD, nx, ny]
    have e6 : ((ps[x] : Nat) : Int) = ((ps[y] : Nat) : Int) := by simpa using e4
    have e5 : ps[x] = ps[y] := by omega
    have := co x y _ _ _ px (e5 ▸ py) nx ny
    simp [this]
  · rw [List.getElem?_eq_none (by omega), List.getElem?_eq_none (by omega)]
theorem KInv.first {mac : List MRow} {ns : List Nat} (h : NumOf (mac.map fun row => kC (row.map (·.1))) ns) : KInv mac ns 0 := by
  refine ⟨by rw [h.len, List.length_map], h.rg, fun i j a r s h1 h2 h3 h4 => ?_, .inl rfl, fun R hR i j hij => ?_⟩
  · exact kC_inj (h.inj i j a _ _ h1 h2 (by rw [List.getElem?_map, h3]; rfl) (by rw [List.getElem?_map, h4]; rfl))
  · obtain ⟨r, s, h1, h2, h3⟩ := hR i j hij
    exact h.same i j (by rw [List.getElem?_map, List.getElem?_map, h1, h2, Option.map_some, Option.map_some, alk_bits h3])
def kZ (n : Nat) (c : List Int) : NestedKey := .tup [.num (n : Int), kC c]
theorem kZ_inj {n n' : Nat} {c c' : List Int} (h : kZ n c = kZ n' c') : n = n' ∧ c = c' := by
  unfold kZ at h
  have h1 := NestedKey.tup.inj h
  rw [List.cons.injEq, List.cons.injEq] at h1
  have h2 := NestedKey.num.inj h1.1
  exact ⟨by omega, kC_inj h1.2.1⟩
theorem kZ_depth (n : Nat) (c : List Int) : (kZ n c).depth ≤ 8 := by
  unfold kZ kC
  simp [NestedKey.depth, NestedKey.depthAll, nums_depth c]
theorem keyZ {H : Hp} {t b : Addr} {n : Nat} {c : List Int} (h1 : H t = some (.tup [.int (n : Int), .ref b])) (h2 : H b = some (.tup (c.map V.int))) : KeyN H (.ref t) (kZ n c) :=
  ⟨.tup h1 (.cons (.num _) (.cons (.tup h2 (nks_ints H c)) .nil)), kZ_depth n c, t, rfl⟩
theorem KInv.step {mac : List MRow} {ns ns' : List Nat} {many m : Nat} (h : KInv mac ns many) (hm : m ∈ ns) (hn : NumOf ((ns.zip mac).map fun e => kZ e.1 (beh ns e.2)) ns') : KInv mac ns' (m + 1) := by
  have zl : (ns.zip mac).length = mac.length := by rw [List.length_zip, h.len, Nat.min_self]
  have key : ∀ (i j a x y : Nat) r s, ns'[i]? = some a → ns'[j]? = some a → ns[i]? = some x → ns[j]? = some y → mac[i]? = some r → mac[j]? = some s → x = y ∧ beh ns r = beh ns s := fun i j a x y r s h1 h2 h3 h4 h5 h6 => by
    have z1 : (ns.zip mac)[i]? = some (x, r) := List.getElem?_zip_eq_some.mpr ⟨h3, h5⟩
    have z2 : (ns.zip mac)[j]? = some (y, s) := List.getElem?_zip_eq_some.mpr ⟨h4, h6⟩
    exact kZ_inj (hn.inj i j a _ _ h1 h2 (by rw [List.getElem?_map, z1]; rfl) (by rw [List.getElem?_map, z2]; rfl))
  have at_ : ∀ (i : Nat) r, mac[i]? = some r → ∃ x : Nat, ns[i]? = some x := fun i r e => by
    have := (List.getElem?_eq_some_iff.mp e).1
    have hl := h.len
    exact ⟨_, List.getElem?_eq_getElem (by omega)⟩
  refine ⟨by rw [hn.len, List.length_map, zl], hn.rg, fun i j a r s h1 h2 h3 h4 => ?_, .inr ⟨ns, m, h.len, h.rg, hm, rfl, fun i j a x y h1 h2 h3 h4 => ?_, fun i j a r s h1 h2 h3 h4 => ?_⟩, fun R hR i j hij => ?_⟩
  · obtain ⟨x, hx⟩ := at_ i r h3
    obtain ⟨y, hy⟩ := at_ j s h4
    obtain ⟨rfl, _⟩ := key i j a x y r s h1 h2 hx hy h3 h4
    exact h.bits i j x r s hx hy h3 h4
  · have l1 := (List.getElem?_eq_some_iff.mp h3).1
    have l2 := (List.getElem?_eq_some_iff.mp h4).1
    have hl := h.len
    exact (key i j a x y _ _ h1 h2 h3 h4 (List.getElem?_eq_getElem (by omega)) (List.getElem?_eq_getElem (by omega))).1
  · obtain ⟨x, hx⟩ := at_ i r h3
    obtain ⟨y, hy⟩ := at_ j s h4
    exact (key i j a x y r s h1 h2 hx hy h3 h4).2
  · obtain ⟨r, s, h1, h2, h3⟩ := hR i j hij
    obtain ⟨x, hx⟩ := at_ i r h1
    have hy : ns[j]? = some x := (h.crs R hR i j hij).symm.trans hx
    have z1 : (ns.zip mac)[i]? = some (x, r) := List.getElem?_zip_eq_some.mpr ⟨hx, h1⟩
    have z2 : (ns.zip mac)[j]? = some (x, s) := List.getElem?_zip_eq_some.mpr ⟨hy, h2⟩
    exact hn.same i j (by rw [List.getElem?_map, List.getElem?_map, z1, z2, Option.map_some, Option.map_some, alk_beh (h.crs R hR) h3])
def spKi : Sp := fun vs H Q _ => ∃ (p : Addr) (ls : List Addr) (mac : List MRow), vs = [.ref p] ∧ H p = some (.lst (ls.map V.ref)) ∧ MacL H ls mac ∧ MacOk mac ∧
  ∀ H' q ns, Same H H' → H q = none → H' q = some (.lst ((zs ns).map V.int)) → KOk mac ns → Q (.ref q) H'
def KSt (H : Hp) (p : Addr) (mac : List MRow) (n : Nat) (σ : L2.St) (H4 : Hp) : Prop := ∃ y3 y4 y5 y6 Kd ns many, σ = [some (.ref p), some (.ref Kd), some (.int ((many : Nat) : Int)), y3, y4, y5, y6] ∧ H4 Kd = some (.lst ((zs ns).map V.int)) ∧ KInv mac ns many ∧ Same H H4 ∧ H Kd = none ∧ n = 300 - many
theorem mem_zs {ns : List Nat} {m : Int} (h : m ∈ zs ns) : ∃ k : Nat, k ∈ ns ∧ m = (k : Int) := by
  obtain ⟨k, h1, h2⟩ := List.mem_map.mp h
  exact ⟨k, h1, h2.symm⟩
theorem macl_same {H H' : Hp} (s : Same H H') {ls : List Addr} {mac : List MRow} (h : MacL H ls mac) : MacL H' ls mac := macl_stay (Same.tups s) (fun l _ xs e => s _ _ e) h
abbrev TupsAt (H : Hp) : List Addr → List (List Int) → Prop := Paired fun b c => H b = some (.tup (c.map V.int))
abbrev rTupOf (K : PySem.W.Frag) : List V → Hp → VK → Prop := fun xs H Q => ∃ p ys, xs = [.ref p] ∧ ((SqL K H p ys ∧ ∀ l, H l = none → Q (.ref l) (upd H l (.tup ys))) ∨ (SqT K H p ys ∧ Q (.ref p) H))
abbrev scKa : Scope := ⟨.function, [(".0", .local), ("state", .local), ("tuple", .globalImplicit)], false, false, []⟩
abbrev scKb : Scope := ⟨.function, [(".0", .local), ("state", .local), ("tuple", .globalImplicit), ("kinds", .cell)], false, false, []⟩
abbrev scKc : Scope := ⟨.function, [(".0", .local), ("bit", .local), ("after", .local), ("kinds", .free)], false, false, []⟩
theorem ok_ki {f fN : Addr} {fd fdN : FuncData} {k : Nat} (F : Fun K "kinds_of_states" "kinds_of_states" s_kinds_of_states f fd)
    (GN : FnOk P w K mg base CX0 (k + 1) fN fdN ["looks"] spNu) (kN : PySem.W.keepIn K (.ref fN) = true) (bN : Binds K fdN ["looks"] []) (gN : mg "numbered" = some (.ref fN))
    (mx : mg "max" = none) (mt : mg "tuple" = none) (ml : mg "list" = none) (mz : mg "zip" = none) : FnOk P w K mg base CX0 (k + 2) f fd ["machine"] spKi := by
  refine F.ok sc_kinds_of_states (fun vs H Q E h => ?_) (fun cdv A outer s H vs Q E hr h => ?_)
  · obtain ⟨p, ls, mac, rfl, _⟩ := h
    rfl
  · obtain ⟨p, ls, mac, rfl, ep, hmac, ok, q⟩ := h
    refine ⟨_, pss_cons (ps_set (i := 1) sc_kinds_of_states.nd rfl (.inr rfl) (pe_call GN hr (by rfl) gN kN bN .nil pass0 (pa_cons
        (pe_lc (own := [("state", 6)]) (g := gName 6) (by rfl) sc_kinds_of_states.nd (pi_list (pv 0)) (blkOk_by (own := [("state", 6)]) (N := N_kinds_of_states) (sc := defScope s_kinds_of_states) (by decide +kernel))
          (fun _ _ _ _ _ => pg_name (i := 6) sc_kinds_of_states.nd rfl (Or.inl rfl)) (fun _ _ _ _ _ => pts_nil)
          (fun _ _ _ _ _ => pe_callTy (T := "tuple") (r := rTupOf K) call_tuple_of (by rfl) mt (by decide +kernel) (pa_cons
            (pe_lc (wi := iList K (tVar 6)) (own := [("bit", 4), ("after", 5)]) (g := gTup K 2 (gCons (gName 4) (gCons (gName 5) gNil))) (by rfl) sc_kinds_of_states.nd (pi_list (pv 6)) (blkOk_by (own := [("bit", 4), ("after", 5)]) (N := N_kinds_of_states) (sc := scKa) (by decide +kernel))
              (fun _ _ _ _ _ => pg_tup rfl (pgs_cons (pg_name (i := 4) sc_kinds_of_states.nd rfl (.inl rfl)) (pgs_cons (pg_name (i := 5) sc_kinds_of_states.nd rfl (.inl rfl)) pgs_nil))) (fun _ _ _ _ _ => pts_nil)
              (fun _ _ _ _ _ => pv 4)) pa_nil))) pa_nil)))
      (pss_cons (ps_set (i := 2) sc_kinds_of_states.nd rfl (.inl rfl) pe_int)
      (pss_cons (ps_while PassesOwn.never (pt_cmpR op_lt (pv 2) (pe_op op_add (pe_callB (cr_max rfl) (by rfl) mx (by decide +kernel) (pa_cons (pv 1) pa_nil)) pe_int) (nomark _))
        (pss_cons (ps_set (i := 2) sc_kinds_of_states.nd rfl (.inl rfl) (pe_op op_add (pe_callB (cr_max rfl) (by rfl) mx (by decide +kernel) (pa_cons (pv 1) pa_nil)) pe_int))
        (pss_cons (ps_setLc (i := 3) (own := [("state", 6)]) (g := gName 6) (by rfl) sc_kinds_of_states.nd rfl rfl (sw_true rfl rfl rfl (by decide +kernel)) (pi_list (pv 0)) (blkOk_by (own := [("state", 6)]) (N := N_kinds_of_states) (sc := defScope s_kinds_of_states) (by decide +kernel))
          (fun _ _ _ _ _ => pg_name (i := 6) sc_kinds_of_states.nd rfl (Or.inl rfl)) (fun _ _ _ _ _ => pts_nil)
          (fun _ _ _ _ _ => pe_callTy (T := "tuple") (r := rTupOf K) call_tuple_of (by rfl) mt (by decide +kernel) (pa_cons
            (pe_lc (wi := iList K (tVar 6)) (own := [("bit", 4), ("after", 5)]) (g := gTup K 2 (gCons (gName 4) (gCons (gName 5) gNil))) (by rfl) sc_kinds_of_states.nd (pi_list (pv 6)) (by exact blkOk_by (own := [("bit", 4), ("after", 5)]) (N := N_kinds_of_states) (sc := scKb) (scope := scKc) (by decide +kernel))
              (fun _ _ _ _ _ => pg_tup rfl (pgs_cons (pg_name (i := 4) sc_kinds_of_states.nd rfl (.inl rfl)) (pgs_cons (pg_name (i := 5) sc_kinds_of_states.nd rfl (.inl rfl)) pgs_nil))) (fun _ _ _ _ _ => pts_nil)
              (fun _ _ _ _ _ => pe_ix (r := rIxL K) ix_list (pv 1) (pv 5) (fun _ _ => rfl))) pa_nil)))
        (pss_one (ps_set (i := 1) sc_kinds_of_states.nd rfl (.inr rfl) (pe_call GN hr (by rfl) gN kN bN .nil pass0 (pa_cons (pe_listZip (by rfl) (by rfl) ml (by rfl) mz (pa_cons (pv 1) (pa_cons (pv 3) pa_nil))) pa_nil)))))))
      (pss_one (ps_ret (pv 1))))), ?_⟩
    have lml := awLen hmac
    have few := ok.few
    -- the bits of the states
    refine ⟨.ref p, rfl, p, rfl, ⟨_, .inl (.inl ep)⟩, fun D hD => ?_⟩
    refine lc_it (walk_list (K := K) (a := p) (xs := ls.map V.ref)) (fun i H4 => ∃ bs, H4 D = some (.lst (bs.map V.ref)) ∧ TupsAt H4 bs ((mac.map fun row => row.map (·.1)).take i) ∧ Same H H4) ⟨[], upd_same, .nil, same_new hD⟩ (fun i H4 _ hp => ?_) (fun i x H4 H5 hi hp hy => ?_) (fun H4 hp => ?_)
    · obtain ⟨_, _, _, s4⟩ := hp
      exact .inl (.inl (s4 _ _ ep))
    · obtain ⟨bs, eD, hb, s4⟩ := hp
      obtain ⟨rfl, hx⟩ := hy
      have hi2 : i < ls.length := by rwa [List.length_map] at hi
      have hx' : x = .ref ls[i] := by
        rw [List.getElem?_map, List.getElem?_eq_getElem hi2] at hx
        exact (Option.some.inj hx).symm
      subst hx'
      obtain ⟨row, hr1, hr2⟩ := awGet hmac (List.getElem?_eq_getElem hi2)
      obtain ⟨qs, eq, hq⟩ := hr2
      have rm := List.mem_of_getElem? hr1
      have r8 := ok.rows row rm
      have ql := awLen hq
      have bl := awLen hb
      rw [List.length_take] at bl
      refine ⟨rfl, .ref ls[i], rfl, ls[i], rfl, ⟨_, .inl (.inl (s4 _ _ eq))⟩, fun G hG => ?_⟩
      refine lc_it (walk_list (K := K) (a := ls[i]) (xs := qs.map V.ref)) (fun t H6 => H6 G = some (.lst (((row.take t).map (·.1)).map V.int)) ∧ Same H5 H6) ⟨upd_same, same_new hG⟩ (fun t H6 _ hp => .inl (.inl (hp.2 _ _ (s4 _ _ eq)))) (fun t x H6 H7 ht hp hy => ?_) (fun H6 hp => ?_)
      · obtain ⟨eG, s6⟩ := hp
        obtain ⟨rfl, hx⟩ := hy
        have ht2 : t < qs.length := by rwa [List.length_map] at ht
        have hx' : x = .ref qs[t] := by
          rw [List.getElem?_map, List.getElem?_eq_getElem ht2] at hx
          exact (Option.some.inj hx).symm
        subst hx'
        obtain ⟨e, he1, he2⟩ := awGet hq (List.getElem?_eq_getElem ht2)
        have gl : ((row.take t).map (·.1)).length < sizeLine := by
          rw [List.length_map, List.length_take]
          exact small1000 (by omega)
        refine ⟨qs[t], [.int e.1, .int e.2], rfl, .inl (.inl (s6 _ _ (s4 _ _ he2))), rfl, .int e.1, [.int e.2], rfl, .int e.2, [], rfl, rfl, rfl, .int e.1, rfl, _, eG, ?_, ?_, fun b u z => ?_⟩
        · rw [List.length_map]
          exact gl
        · rw [upd_same, List.take_add_one, he1]
          simp
        · rw [upd_ne (ne_of_none z hG)]
          exact s6 b u z
      · obtain ⟨eG, s6⟩ := hp
        rw [List.length_map, ql, List.take_length] at eG
        refine ⟨G, _, rfl, .inl ⟨.inl (.inl eG), fun T hT => ?_⟩⟩
        have sT := same_new (o := .tup ((row.map (·.1)).map V.int)) hT
        have eD2 := (s6.trans sT) _ _ eD
        have tp := tups_put (o := .lst (bs.map V.ref ++ [V.ref T])) eD2
        refine ⟨_, eD2, ?_, bs ++ [T], ?_, ?_, fun b u z => ?_⟩
        · rw [List.length_map]
          exact small1000 (by omega)
        · rw [upd_same, List.map_append]
          rfl
        · rw [List.take_add_one, List.getElem?_map, hr1]
          exact awMap (fun b c z => tp _ _ z) (awSnoc (F := fun (b : Addr) (c : List Int) => (upd H6 T (.tup ((row.map (·.1)).map V.int))) b = some (.tup (c.map V.int))) upd_same (awMap (fun b c z => sT _ _ (s6 _ _ z)) hb))
        · rw [upd_ne (ne_of_none z hD)]
          exact sT _ _ (s6 _ _ (s4 b u z))
    · obtain ⟨bs, eD, hb, s4⟩ := hp
      have hb' : TupsAt H4 bs (mac.map fun row => row.map (·.1)) := by
        rw [List.length_map, lml, ← List.length_map (as := mac) (f := fun row => row.map (·.1)), List.take_length] at hb
        exact hb
      have bl : bs.length = mac.length := by rw [awLen hb', List.length_map]
      have hks : KeysAt H4 bs (mac.map fun row => kC (row.map (·.1))) := paired_of (by rw [bl, List.length_map]) fun j b key h1 h2 => by
        obtain ⟨c, h3, h4⟩ := awGet hb' h1
        rw [List.getElem?_map] at h2 h3
        cases hj : mac[j]? with
        | none => rw [hj] at h2; cases h2
        | some row =>
          rw [hj] at h2 h3
          rw [← Option.some.inj h2]
          rw [← Option.some.inj h3] at h4
          exact keyC h4
      refine ⟨D, bs, _, rfl, eD, hks, by omega, fun H5 Kd ns s5 nK eK hn => ?_⟩
      have nK0 := s4.free nK
      refine ⟨KSt H p mac, ⟨_, none, none, none, none, Kd, ns, 0, rfl, eK, KInv.first hn, s4.trans s5, nK0, rfl⟩, fun n σ H6 hp => ?_⟩
      obtain ⟨y3, y4, y5, y6, Kd, ns, many, rfl, eK, ki, s6, nK0, rfl⟩ := hp
      have nl : 0 < ns.length := by
        rw [ki.len]
        exact ok.pos
      refine ⟨.int many, rfl, .ref Kd, rfl, Kd, zs ns, rfl, .inl (.inl eK), by rwa [List.length_map], fun mI hmI hxI => ?_⟩
      obtain ⟨m, hm, rfl⟩ := mem_zs hmI
      have hx : ∀ x ∈ ns, x ≤ m := fun x hx => by
        have := hxI (x : Int) (List.mem_map.mpr ⟨x, hx, rfl⟩)
        omega
      have m256 : m < 256 := by
        obtain ⟨i, hi⟩ := List.mem_iff_getElem?.mp hm
        have h1 := rg_le ki.rg m i hi
        have h2 := (List.getElem?_eq_some_iff.mp hi).1
        have h3 := ki.len
        omega
      refine ⟨_, _, rfl, rfl, _, _, rfl, rfl, _, rfl, ite2 (fun e => ?_) (fun e => ?_)⟩
      · have lt : many < m + 1 := by
          have := of_decide_eq_true e
          omega
        refine ⟨fun σ' H' => ∃ m', m' < 300 - many ∧ KSt H p mac m' σ' H', fun σ' H' z => z, ?_⟩
        refine ⟨.ref Kd, rfl, Kd, zs ns, rfl, .inl (.inl eK), by rwa [List.length_map], fun mJ hmJ hxJ => ?_⟩
        obtain rfl : mJ = (m : Int) := by
          have h1 := hxI mJ hmJ
          have h2 := hxJ _ hmI
          omega
        refine ⟨_, _, rfl, rfl, ?_⟩
        refine ⟨.ref p, rfl, p, rfl, ⟨_, .inl (.inl (s6 _ _ ep))⟩, fun D hD => ?_⟩
        have hmac' := macl_same s6 hmac
        refine lc_it (walk_list (K := K) (a := p) (xs := ls.map V.ref)) (fun i H7 => ∃ bs, H7 D = some (.lst (bs.map V.ref)) ∧ TupsAt H7 bs ((mac.map (beh ns)).take i) ∧ Same H6 H7) ⟨[], upd_same, .nil, same_new hD⟩ (fun i H7 _ hp => ?_) (fun i x H7 H8 hi hp hy => ?_) (fun H7 hp => ?_)
        · obtain ⟨_, _, _, s7⟩ := hp
          exact .inl (.inl (s7 _ _ (s6 _ _ ep)))
        · obtain ⟨bs, eD, hb, s7⟩ := hp
          obtain ⟨rfl, hx⟩ := hy
          have hi2 : i < ls.length := by rwa [List.length_map] at hi
          have hx' : x = .ref ls[i] := by
            rw [List.getElem?_map, List.getElem?_eq_getElem hi2] at hx
            exact (Option.some.inj hx).symm
          subst hx'
          obtain ⟨row, hr1, hr2⟩ := awGet hmac' (List.getElem?_eq_getElem hi2)
          obtain ⟨qs, eq, hq⟩ := hr2
          have rm := List.mem_of_getElem? hr1
          have r8 := ok.rows row rm
          have ql := awLen hq
          have bl := awLen hb
          rw [List.length_take] at bl
          refine ⟨rfl, .ref ls[i], rfl, ls[i], rfl, ⟨_, .inl (.inl (s7 _ _ eq))⟩, fun G hG => ?_⟩
          refine lc_it (walk_list (K := K) (a := ls[i]) (xs := qs.map V.ref)) (fun t H9 => H9 G = some (.lst ((beh ns (row.take t)).map V.int)) ∧ Same H8 H9) ⟨upd_same, same_new hG⟩ (fun t H9 _ hp => .inl (.inl (hp.2 _ _ (s7 _ _ eq)))) (fun t x H9 H10 ht hp hy => ?_) (fun H9 hp => ?_)
          · obtain ⟨eG, s9⟩ := hp
            obtain ⟨rfl, hx⟩ := hy
            have ht2 : t < qs.length := by rwa [List.length_map] at ht
            have hx' : x = .ref qs[t] := by
              rw [List.getElem?_map, List.getElem?_eq_getElem ht2] at hx
              exact (Option.some.inj hx).symm
            subst hx'
            obtain ⟨e, he1, he2⟩ := awGet hq (List.getElem?_eq_getElem ht2)
            obtain ⟨j, hj1, hj2⟩ := ok.ends row rm e (List.mem_of_getElem? he1)
            have jn : j < ns.length := by
              rw [ki.len]
              exact hj2
            have gd : ns.getD e.2.toNat 0 = ns[j] := by
              rw [hj1, Int.toNat_natCast]
              simp [List.getD, List.getElem?_eq_getElem jn]
            refine ⟨qs[t], [.int e.1, .int e.2], rfl, .inl (.inl (s9 _ _ (s7 _ _ he2))), rfl, .int e.1, [.int e.2], rfl, .int e.2, [], rfl, rfl, rfl, .ref Kd, rfl, .int e.2, rfl, Kd, _, e.2, .int ((ns[j] : Nat) : Int), rfl, rfl, .inl (.inl (s9 _ _ (s7 _ _ eK))), ?_, _, eG, ?_, ?_, fun b u z => ?_⟩
            · rw [hj1]
              exact atI_nat (by rw [List.getElem?_map, List.getElem?_map, List.getElem?_eq_getElem jn]; rfl)
            · rw [List.length_map, List.length_map, List.length_take]
              exact small1000 (by omega)
            · rw [upd_same, List.take_add_one, he1]
              simp [beh, ← gd]
            · rw [upd_ne (ne_of_none z hG)]
              exact s9 b u z
          · obtain ⟨eG, s9⟩ := hp
            rw [List.length_map, ql, List.take_length] at eG
            refine ⟨G, _, rfl, .inl ⟨.inl (.inl eG), fun T hT => ?_⟩⟩
            have sT := same_new (o := .tup ((beh ns row).map V.int)) hT
            have eD2 := (s9.trans sT) _ _ eD
            have tp := tups_put (o := .lst (bs.map V.ref ++ [V.ref T])) eD2
            refine ⟨_, eD2, ?_, bs ++ [T], ?_, ?_, fun b u z => ?_⟩
            · rw [List.length_map]
              exact small1000 (by omega)
            · rw [upd_same, List.map_append]
              rfl
            · rw [List.take_add_one, List.getElem?_map, hr1]
              exact awMap (fun b c z => tp _ _ z) (awSnoc (F := fun (b : Addr) (c : List Int) => (upd H9 T (.tup ((beh ns row).map V.int))) b = some (.tup (c.map V.int))) upd_same (awMap (fun b c z => sT _ _ (s9 _ _ z)) hb))
            · rw [upd_ne (ne_of_none z hD)]
              exact sT _ _ (s9 _ _ (s7 b u z))
        · obtain ⟨bs, eD, hb, s7⟩ := hp
          have hb' : TupsAt H7 bs (mac.map (beh ns)) := by
            rw [List.length_map, lml, ← List.length_map (as := mac) (f := beh ns), List.take_length] at hb
            exact hb
          have bl : bs.length = mac.length := by rw [awLen hb', List.length_map]
          have kl := ki.len
          refine ⟨.ref Kd, rfl, .ref D, rfl, Kd, D, _, _, rfl, .inl (.inl (s7 _ _ eK)), .inl (.inl eD), by rw [List.length_map, List.length_map, List.length_map]; omega, fun H8 Z ts s8 nZ eZ hz => ?_⟩
          have tl : ts.length = mac.length := by
            rw [awLen hz, List.length_zip, List.length_map, List.length_map, List.length_map]
            omega
          have hks : KeysAt H8 ts ((ns.zip mac).map fun e => kZ e.1 (beh ns e.2)) := paired_of (by rw [tl, List.length_map, List.length_zip]; omega) fun j t key h1 h2 => by
            obtain ⟨e, h3, h4⟩ := awGet hz h1
            rw [List.getElem?_map] at h2
            have hj : j < mac.length := by
              have := (List.getElem?_eq_some_iff.mp h1).1
              omega
            have n1 : ns[j]? = some ns[j] := List.getElem?_eq_getElem (by omega)
            have m1 : mac[j]? = some mac[j] := List.getElem?_eq_getElem hj
            have b1 : bs[j]? = some bs[j] := List.getElem?_eq_getElem (by omega)
            have z1 : (ns.zip mac)[j]? = some (ns[j], mac[j]) := List.getElem?_zip_eq_some.mpr ⟨n1, m1⟩
            rw [z1] at h2
            obtain rfl := Option.some.inj h2
            have z2 : (((zs ns).map V.int).zip (bs.map V.ref))[j]? = some (.int ((ns[j] : Nat) : Int), .ref bs[j]) := List.getElem?_zip_eq_some.mpr ⟨by rw [List.getElem?_map, List.getElem?_map, n1]; rfl, by rw [List.getElem?_map, b1]; rfl⟩
            rw [z2] at h3
            obtain rfl := Option.some.inj h3
            obtain ⟨c, h5, h6⟩ := awGet hb' b1
            rw [List.getElem?_map, m1] at h5
            obtain rfl := Option.some.inj h5
            exact keyZ h4 (s8 _ _ h6)
          refine ⟨Z, ts, _, rfl, eZ, hks, by omega, fun H9 Kd2 ns2 s9 nK2 eK2 hn2 => ?_⟩
          have s69 := (s7.trans s8).trans s9
          exact ⟨300 - (m + 1), by omega, some (.ref D), y4, y5, y6, Kd2, ns2, m + 1, rfl, eK2, ki.step hm hn2, s6.trans s69, (s6.trans (s7.trans s8)).free nK2, rfl⟩
      · have ge : m + 1 ≤ many := by
          have : ¬ ((many : Int) < (m : Int) + 1) := fun z => e (decide_eq_true z)
          omega
        exact ⟨.ref Kd, rfl, q H6 Kd ns s6 nK0 eK (ki.done ok hx ge)⟩
/-! ### least_machine -/
abbrev low (ns : List Nat) (row : MRow) : MRow := row.map fun e => (e.1, ((ns.getD e.2.toNat 0 : Nat) : Int))
theorem low_eq {ns : List Nat} : ∀ {r s : MRow}, r.map (·.1) = s.map (·.1) → beh ns r = beh ns s → low ns r = low ns s
  | [], [], _, _ => rfl
  | [], _ :: _, h, _ => nomatch h
  | _ :: _, [], h, _ => nomatch h
  | x :: r, y :: s, h1, h2 => by
    simp only [beh, List.map_cons, List.cons.injEq] at h1 h2
    simp only [low, List.map_cons, List.cons.injEq]
    exact ⟨Prod.ext h1.1 h2.1, low_eq h1.2 h2.2⟩
/-- a machine walks along with the carries of a row -/
def Sim (m : Nat) (ds : List Deed) (o : Int) (lm : List MRow) (S : List Int → Nat → Prop) : Prop :=
  S (ds.map fcD) 0 ∧ ∀ c k, S c k → ∃ row, lm[k]? = some row ∧ Paired (fun (e : Int × Int) (s : Int × List Int) => e.1 = s.1 ∧ ∃ j : Nat, e.2 = (j : Int) ∧ S s.2 j) row (stp m ds o c)
structure LInv (mac : List MRow) (ns : List Nat) (lm : List MRow) (i : Nat) : Prop where
  each : ∀ (k : Nat) row, lm[k]? = some row → ∃ (i0 : Nat) (r : MRow), ns[i0]? = some k ∧ mac[i0]? = some r ∧ row = low ns r
  all : ∀ j k : Nat, j < i → ns[j]? = some k → k < lm.length
  len : lm.length ≤ i
theorem LInv.new {mac lm : List MRow} {ns : List Nat} {i : Nat} {r : MRow} (h : LInv mac ns lm i) (hk : ns[i]? = some lm.length) (hr : mac[i]? = some r) : LInv mac ns (lm ++ [low ns r]) (i + 1) := by
  refine ⟨fun k row e => ?_, fun j k hj e => ?_, by rw [List.length_append]; exact Nat.succ_le_succ h.len⟩
  · by_cases hl : k < lm.length
    · rw [List.getElem?_append_left hl] at e
      exact h.each k row e
    · rw [List.getElem?_append_right (by omega)] at e
      have h2 := (List.getElem?_eq_some_iff.mp e).1
      simp only [List.length_cons, List.length_nil] at h2
      have ek : k = lm.length := by omega
      subst ek
      rw [Nat.sub_self] at e
      exact ⟨i, r, hk, hr, (Option.some.inj e).symm⟩
  · rw [List.length_append]
    show k < lm.length + 1
    by_cases hji : j = i
    · subst hji
      rw [hk] at e
      have := Option.some.inj e
      omega
    · have := h.all j k (by omega) e
      omega
theorem LInv.old {mac lm : List MRow} {ns : List Nat} {i k : Nat} (h : LInv mac ns lm i) (rg : RG ns) (hk : ns[i]? = some k) (hn : k ≠ lm.length) : LInv mac ns lm (i + 1) := by
  refine ⟨h.each, fun j k' hj e => ?_, Nat.le_succ_of_le h.len⟩
  by_cases hji : j = i
  · subst hji
    rw [hk] at e
    obtain rfl := Option.some.inj e
    cases k with
    | zero => omega
    | succ v =>
      obtain ⟨j', h1, h2⟩ := rg j v hk
      have := h.all j' v h1 h2
      omega
  · exact h.all j k' (by omega) e
theorem LInv.sim {mac lm : List MRow} {ns : List Nat} {m : Nat} {ds : List Deed} {o : Int} {cs : List (List Int)} (h : LInv mac ns lm ns.length) (kk : KOk mac ns) (wm : WM m ds o cs mac) (hl : mac.length = cs.length) (pos : 0 < mac.length) :
    Sim m ds o lm fun c k => ∃ i : Nat, cs[i]? = some c ∧ ns[i]? = some k := by
  have nl := kk.len
  refine ⟨⟨0, wm.first, ?_⟩, fun c k => ?_⟩
  · have h0 : ns[0]? = some ns[0] := List.getElem?_eq_getElem (by omega)
    have := rg_le kk.rg _ _ h0
    rw [h0]
    congr 1
    omega
  · rintro ⟨i, h1, h2⟩
    have il := (List.getElem?_eq_some_iff.mp h2).1
    have kl := h.all i k il h2
    obtain ⟨i0, r0, a1, a2, a3⟩ := h.each k lm[k] (List.getElem?_eq_getElem kl)
    have hr : mac[i]? = some mac[i] := List.getElem?_eq_getElem (by omega)
    obtain ⟨c', b1, b2⟩ := wm.each i _ hr
    rw [h1] at b1
    obtain rfl := Option.some.inj b1
    have e1 := kk.bits i0 i k r0 _ a1 h2 a2 hr
    have e2 := kk.next i0 i k r0 _ a1 h2 a2 hr
    refine ⟨_, List.getElem?_eq_getElem kl, ?_⟩
    rw [a3, low_eq e1 e2]
    refine paired_of (by rw [List.length_map, awLen b2]) fun t e s g1 g2 => ?_
    rw [List.getElem?_map] at g1
    cases hx : (mac[i]'(by omega))[t]? with
    | none => rw [hx] at g1; cases g1
    | some x =>
      rw [hx] at g1
      obtain ⟨s', g3, g4, j, g5, g6⟩ := awGet b2 hx
      rw [g2] at g3
      obtain rfl := Option.some.inj g3
      obtain rfl := Option.some.inj g1
      have jl := (List.getElem?_eq_some_iff.mp g6).1
      have nj : ns[j]? = some ns[j] := List.getElem?_eq_getElem (by omega)
      refine ⟨g4, ns.getD x.2.toNat 0, rfl, j, g6, ?_⟩
      rw [g5, Int.toNat_natCast, List.getD_eq_getElem?_getD, nj]
      rfl
theorem wm_ok {m : Nat} {ds : List Deed} {o : Int} {cs : List (List Int)} {mac : List MRow} (wm : WM m ds o cs mac) (hl : mac.length = cs.length) (hm : m ≤ 3) (hn : ds.length ≤ 8) : MacOk mac := by
  have pos : 0 < cs.length := (List.getElem?_eq_some_iff.mp wm.first).1
  refine ⟨by omega, by rw [hl]; exact few_cs wm.nd wm.bits hn, fun row hr => ?_, fun row hr e he => ?_⟩
  · obtain ⟨i, hi⟩ := List.mem_iff_getElem?.mp hr
    obtain ⟨c, _, h2⟩ := wm.each i row hi
    rw [awLen h2, stp_len]
    exact Nat.le_trans (Nat.pow_le_pow_right (by decide) hm) (by decide)
  · obtain ⟨i, hi⟩ := List.mem_iff_getElem?.mp hr
    obtain ⟨c, _, h2⟩ := wm.each i row hi
    obtain ⟨t, ht⟩ := List.mem_iff_getElem?.mp he
    obtain ⟨s, _, _, j, h3, h4⟩ := awGet h2 ht
    exact ⟨j, h3, by rw [hl]; exact (List.getElem?_eq_some_iff.mp h4).1⟩
structure LmOk (m : Nat) (ds : List Deed) (o : Int) (lm : List MRow) : Prop where
  sim : ∃ S, Sim m ds o lm S
  few : lm.length ≤ 256
  src : ∃ cs mac ns, WM m ds o cs mac ∧ mac.length = cs.length ∧ KOk mac ns ∧ LInv mac ns lm ns.length
def spLm : Sp := fun vs H Q _ => ∃ (R : Addr) (m : Nat) (o : Int) (ds : List Deed), vs = [.ref R] ∧ RowAt H R m ds o ∧ RowOk m ds o ∧
  ∀ H' p ls lm, Same H H' → H p = none → H' p = some (.lst (ls.map V.ref)) → MacL H' ls lm → LmOk m ds o lm → Q (.ref p) H'
theorem ok_lm {f fW fK : Addr} {fd fdW fdK : FuncData} {k : Nat} (F : Fun K "least_machine" "least_machine" s_least_machine f fd)
    (GW : FnOk P w K mg base CX0 (k + 5) fW fdW ["row"] spWh) (kW : PySem.W.keepIn K (.ref fW) = true) (bW : Binds K fdW ["row"] []) (gW : mg "whole_machine" = some (.ref fW))
    (GK : FnOk P w K mg base CX0 (k + 2) fK fdK ["machine"] spKi) (kK : PySem.W.keepIn K (.ref fK) = true) (bK : Binds K fdK ["machine"] []) (gK : mg "kinds_of_states" = some (.ref fK))
    (mn : mg "len" = none) (mz : mg "zip" = none) : FnOk P w K mg base CX0 (k + 6) f fd ["row"] spLm := by
  refine F.ok sc_least_machine (fun vs H Q E h => ?_) (fun cdv A outer s H vs Q E hr h => ?_)
  · obtain ⟨R, m, o, ds, rfl, _⟩ := h
    rfl
  · obtain ⟨R, m, o, ds, rfl, hrow, hok, q⟩ := h
    have r2 := hr.mono (show k + 2 ≤ k + 5 by omega)
    refine ⟨_, pss_cons (ps_set (i := 1) sc_least_machine.nd rfl (.inl rfl) (pe_call GW hr (by rfl) gW kW bW .nil pass0 (pa_cons (pv 0) pa_nil)))
      (pss_cons (ps_set (i := 2) sc_least_machine.nd rfl (.inr rfl) (pe_call GK r2 (by rfl) gK kK bK .nil pass0 (pa_cons (pv 1) pa_nil)))
      (pss_cons (ps_set (i := 3) sc_least_machine.nd rfl (.inl rfl) (pe_lst pa_nil))
      (pss_cons (ps_for PassesOwn.never rfl (pi_zip (by rfl) mz (pa_cons (pv 2) (pa_cons (pv 1) pa_nil))) (pg_tup rfl (pgs_cons (pg_name (i := 4) sc_least_machine.nd rfl (.inl rfl)) (pgs_cons (pg_name (i := 5) sc_least_machine.nd rfl (.inl rfl)) pgs_nil)))
        (pss_one (ps_if (pt_cmpR op_eq (pv 4) (pe_callB call_len_seq (by rfl) mn PySem.boot_len (pa_cons (pv 3) pa_nil)) (nomark _))
          (pss_one (ps_expr (pe_bm PySem.F.plainAttrs_list PySem.F.slot_list_append PySem.F.type_list_append mt_append (pv 3) (pa_cons
            (pe_lc (own := [("bit", 6), ("after", 7)]) (g := gTup K 2 (gCons (gName 6) (gCons (gName 7) gNil))) (by rfl) sc_least_machine.nd (pi_list (pv 5)) (blkOk_by (own := [("bit", 6), ("after", 7)]) (N := N_least_machine) (sc := defScope s_least_machine) (by decide +kernel))
              (fun _ _ _ _ _ => pg_tup rfl (pgs_cons (pg_name (i := 6) sc_least_machine.nd rfl (.inl rfl)) (pgs_cons (pg_name (i := 7) sc_least_machine.nd rfl (.inl rfl)) pgs_nil))) (fun _ _ _ _ _ => pts_nil)
              (fun _ _ _ _ _ => pe_tup (pa_cons (pv 6) (pa_cons (pe_ix (r := rIxL K) ix_list (pv 2) (pv 7) (fun _ _ => rfl)) pa_nil)))) pa_nil)))) pss_nil)))
      (pss_one (ps_ret (pv 3)))))), ?_⟩
    refine ⟨.ref R, rfl, R, m, o, ds, rfl, hrow, hok, fun H1 p ls cs mac s1 np ep hmac wm hl => ?_⟩
    have ok := wm_ok wm hl (by have := hok.m3; omega) hok.len
    have few := ok.few
    have lml := awLen hmac
    refine ⟨.ref p, rfl, p, ls, mac, rfl, ep, hmac, ok, fun H2 Kd ns s2 nK eK kk => ?_⟩
    have nl := kk.len
    refine ⟨Nat.zero_le _, fun L hL => ?_⟩
    have sL := same_new (o := .lst []) hL
    have nLK : Kd ≠ L := ne_of_none eK hL
    have ep2 := s2 _ _ ep
    have npL : p ≠ L := ne_of_none ep2 hL
    have hmac2 := macl_same s2 hmac
    refine ⟨.ref Kd, rfl, .ref p, rfl, Kd, p, _, _, rfl, .inl (.inl (sL _ _ eK)), .inl (.inl (sL _ _ ep2)), for_it (walk_zip (K := K) (a := Kd) (b := p) (xs := (zs ns).map V.int) (ys := ls.map V.ref) (n := ns.length) (by rw [List.length_map, List.length_map, List.length_map]; omega)) (fun i σ H3 => ∃ y4 y5 y6 y7 ms lm, σ = [some (.ref R), some (.ref p), some (.ref Kd), some (.ref L), y4, y5, y6, y7] ∧ H3 L = some (.lst (ms.map V.ref)) ∧ MacL H3 ms lm ∧ LInv mac ns lm i ∧ (∀ l ∈ ms, l ≠ L) ∧ ∀ b u, H2 b = some u → H3 b = some u)
      ⟨none, none, none, none, [], [], rfl, upd_same, .nil, ⟨fun k row e => by simp at e, fun j k hj => absurd hj (Nat.not_lt_zero _), Nat.le_refl _⟩, (fun _ z => nomatch z), sL⟩ (fun i σ H3 _ hp => ?_) (fun i x σ H3 H4 hi hp hy => ?_) (fun σ H3 hp => ?_)⟩
    · obtain ⟨_, _, _, _, _, _, _, _, _, _, _, st⟩ := hp
      exact ⟨.inl (.inl (st _ _ eK)), .inl (.inl (st _ _ ep2))⟩
    · obtain ⟨y4, y5, y6, y7, ms, lm, rfl, eL, hms, li, nms, st⟩ := hp
      obtain ⟨U, x1, x2, rfl, hU, rfl, g1, g2⟩ := hy
      have hil : i < ls.length := by omega
      have e1 : x1 = .int ((ns[i] : Nat) : Int) := by
        have g1' : ((zs ns).map V.int)[i]? = some x1 := g1
        rw [List.getElem?_map, List.getElem?_map, List.getElem?_eq_getElem hi] at g1'
        exact (Option.some.inj g1').symm
      have e2 : x2 = .ref ls[i] := by
        have g2' : (ls.map V.ref)[i]? = some x2 := g2
        rw [List.getElem?_map, List.getElem?_eq_getElem hil] at g2'
        exact (Option.some.inj g2').symm
      subst e1 e2
      have sU := same_new (o := .tup [.int ((ns[i] : Nat) : Int), .ref ls[i]]) hU
      have eLU := sU _ _ eL
      have mll := awLen hms
      have lil := li.len
      refine ⟨U, [.int ((ns[i] : Nat) : Int), .ref ls[i]], rfl, .inl (.inl upd_same), rfl, .int ((ns[i] : Nat) : Int), [.ref ls[i]], rfl, .ref ls[i], [], rfl, rfl, ?_⟩
      refine ⟨.int ((ns[i] : Nat) : Int), rfl, .ref L, rfl, L, _, rfl, .inl (.inl (.inl eLU)), rfl, _, rfl, ite2 (fun e => ?_) (fun e => ?_)⟩
      · have hk : ns[i]? = some lm.length := by
          rw [List.getElem?_eq_getElem hi]
          have := V.int.inj (of_decide_eq_true e)
          rw [List.length_map] at this
          congr 1
          omega
        obtain ⟨row, hr1, qs, eq, hq⟩ := awGet hmac2 (List.getElem?_eq_getElem hil)
        have rm := List.mem_of_getElem? hr1
        have r8 := ok.rows row rm
        have ql := awLen hq
        have st2 : ∀ b u, H2 b = some u → upd H3 U (.tup [.int ((ns[i] : Nat) : Int), .ref ls[i]]) b = some u := fun b u z => sU _ _ (st b u z)
        refine ⟨.ref L, rfl, .inl ⟨rfl, _, .inl (.inl eLU)⟩, .ref ls[i], rfl, ls[i], rfl, ⟨_, .inl (.inl (st2 _ _ eq))⟩, fun G hG => ?_⟩
        refine lc_it (walk_list (K := K) (a := ls[i]) (xs := qs.map V.ref)) (fun t H6 => ∃ ws, H6 G = some (.lst (ws.map V.ref)) ∧ PrAt H6 ws ((low ns row).take t) ∧ Same (upd H3 U (.tup [.int ((ns[i] : Nat) : Int), .ref ls[i]])) H6) ⟨[], upd_same, .nil, same_new hG⟩ (fun t H6 _ hp => ?_) (fun t x H6 H7 ht hp hy => ?_) (fun H6 hp => ?_)
        · obtain ⟨_, _, _, s6⟩ := hp
          exact .inl (.inl (s6 _ _ (st2 _ _ eq)))
        · obtain ⟨ws, eG, hw, s6⟩ := hp
          obtain ⟨rfl, hx⟩ := hy
          have ht2 : t < qs.length := by rwa [List.length_map] at ht
          have hx' : x = .ref qs[t] := by
            rw [List.getElem?_map, List.getElem?_eq_getElem ht2] at hx
            exact (Option.some.inj hx).symm
          subst hx'
          obtain ⟨e, he1, he2⟩ := awGet hq (List.getElem?_eq_getElem ht2)
          obtain ⟨j, hj1, hj2⟩ := ok.ends row rm e (List.mem_of_getElem? he1)
          have jn : j < ns.length := by omega
          have gd : ns.getD e.2.toNat 0 = ns[j] := by
            rw [hj1, Int.toNat_natCast]
            simp [List.getD, List.getElem?_eq_getElem jn]
          have wl := awLen hw
          rw [List.length_take] at wl
          refine ⟨qs[t], [.int e.1, .int e.2], rfl, .inl (.inl (s6 _ _ (st2 _ _ he2))), rfl, .int e.1, [.int e.2], rfl, .int e.2, [], rfl, rfl, rfl, .int e.1, rfl, .ref Kd, rfl, .int e.2, rfl, Kd, _, e.2, .int ((ns[j] : Nat) : Int), rfl, rfl, .inl (.inl (s6 _ _ (st2 _ _ eK))), ?_, by show 2 ≤ sizeLine; decide, fun T hT => ?_⟩
          · rw [hj1]
            exact atI_nat (by rw [List.getElem?_map, List.getElem?_map, List.getElem?_eq_getElem jn]; rfl)
          have sT := same_new (o := .tup [.int e.1, .int ((ns[j] : Nat) : Int)]) hT
          have eG2 := sT _ _ eG
          have tp := tups_put (o := .lst (ws.map V.ref ++ [V.ref T])) eG2
          refine ⟨_, eG2, ?_, ws ++ [T], ?_, ?_, fun b u z => ?_⟩
          · rw [List.length_map]
            exact small1000 (by omega)
          · rw [upd_same, List.map_append]
            rfl
          · rw [List.take_add_one, List.getElem?_map, he1, Option.map_some, gd]
            exact prat_stay tp (awSnoc (F := fun (q : Addr) (e' : Int × Int) => (upd H7 T (.tup [.int e.1, .int ((ns[j] : Nat) : Int)])) q = some (.tup [.int e'.1, .int e'.2])) upd_same (prat_stay (Same.tups sT) hw))
          · rw [upd_ne (ne_of_none z hG)]
            exact sT _ _ (s6 b u z)
        · obtain ⟨ws, eG, hw, s6⟩ := hp
          rw [List.length_map, ql, ← List.length_map (as := row) (f := fun e => (e.1, ((ns.getD e.2.toNat 0 : Nat) : Int))), List.take_length] at hw
          have eL6 := s6 _ _ eLU
          have tp := tups_put (o := .lst (ms.map V.ref ++ [V.ref G])) eL6
          have nGL : G ≠ L := fun z => by rw [z, eLU] at hG; cases hG
          refine ⟨L, _, _, rfl, rfl, eL6, ?_, _, _, _, _, ms ++ [G], lm ++ [low ns row], rfl, ?_, ?_, li.new hk hr1, fun l hl => ?_, fun b u z => ?_⟩
          · rw [List.length_map]
            exact small1000 (by omega)
          · rw [upd_same, List.map_append]
            rfl
          · refine awSnoc (F := RowL (upd H6 L (.lst (ms.map V.ref ++ [V.ref G])))) ⟨ws, ?_, prat_stay tp hw⟩ (macl_stay ((Same.tups (sU.trans s6)).trans tp) (fun l hl xs z => ?_) hms)
            · rw [upd_ne nGL]
              exact eG
            · rw [upd_ne (nms l hl)]
              exact s6 _ _ (sU _ _ z)
          · rcases List.mem_append.mp hl with hl | hl
            · exact nms l hl
            · rw [List.mem_singleton.mp hl]
              exact nGL
          · rw [upd_ne (ne_of_none z hL)]
            exact s6 _ _ (st2 b u z)
      · have hk : ns[i] ≠ lm.length := fun z => e (by
          apply decide_eq_true
          rw [List.length_map, mll, z])
        exact ⟨_, _, _, _, ms, lm, rfl, eLU, macl_same sU hms, li.old kk.rg (List.getElem?_eq_getElem hi) hk, nms, fun b u z => sU _ _ (st b u z)⟩
    · obtain ⟨y4, y5, y6, y7, ms, lm, rfl, eL, hms, li, nms, st⟩ := hp
      have lil := li.len
      exact ⟨.ref L, rfl, q H3 L ms lm (fun b u z => st _ _ (s2 _ _ (s1 b u z))) ((s1.trans s2).free hL) eL hms ⟨⟨_, li.sim kk wm hl ok.pos⟩, by omega, cs, mac, ns, wm, hl, kk, li⟩⟩
/-! ### the least machine is one only -/
/-- what a kind of states tells, and the kinds behind it -/
def nxK (mac : List MRow) (ns : List Nat) (k : Nat) : List (Int × Nat) := (mac.getD (ns.findIdx fun u => decide (u = k)) []).map fun e => (e.1, ns.getD e.2.toNat 0)
theorem fst_at {ns : List Nat} {k i : Nat} (h : ns[i]? = some k) : ns[ns.findIdx fun u => decide (u = k)]? = some k ∧ (ns.findIdx fun u => decide (u = k)) ≤ i := by
  have hlt : (ns.findIdx fun u => decide (u = k)) < ns.length := List.findIdx_lt_length_of_exists ⟨k, List.mem_of_getElem? h, by simp⟩
  refine ⟨?_, ?_⟩
  · rw [List.getElem?_eq_getElem hlt]
    exact congrArg some (of_decide_eq_true (List.findIdx_getElem (w := hlt)))
  · apply Nat.le_of_not_lt
    intro z
    have := List.not_of_lt_findIdx z
    obtain ⟨hl, e⟩ := List.getElem?_eq_some_iff.mp h
    exact absurd e (of_decide_eq_false this)
theorem low_nx {ns : List Nat} : ∀ {r s : MRow}, r.map (·.1) = s.map (·.1) → beh ns r = beh ns s → (r.map fun e => (e.1, ns.getD e.2.toNat 0)) = s.map fun e => (e.1, ns.getD e.2.toNat 0)
  | [], [], _, _ => rfl
  | [], _ :: _, h, _ => nomatch h
  | _ :: _, [], h, _ => nomatch h
  | x :: r, y :: s, h1, h2 => by
    simp only [beh, List.map_cons, List.cons.injEq] at h1 h2
    simp only [List.map_cons, List.cons.injEq]
    exact ⟨Prod.ext h1.1 (Int.ofNat.inj h2.1), low_nx h1.2 h2.2⟩
theorem nxK_at {mac : List MRow} {ns : List Nat} (kk : KOk mac ns) {i k : Nat} {r : MRow} (h : ns[i]? = some k) (hr : mac[i]? = some r) : nxK mac ns k = r.map fun e => (e.1, ns.getD e.2.toNat 0) := by
  obtain ⟨h1, _⟩ := fst_at h
  have l1 := (List.getElem?_eq_some_iff.mp h1).1
  have kl := kk.len
  have e : mac[ns.findIdx fun u => decide (u = k)]? = some (mac[ns.findIdx fun u => decide (u = k)]'(by omega)) := List.getElem?_eq_getElem (by omega)
  unfold nxK
  rw [List.getD_eq_getElem?_getD, e]
  exact low_nx (kk.bits _ _ _ _ _ h1 h e hr) (kk.next _ _ _ _ _ h1 h e hr)
theorem rg_first {ns : List Nat} (rg : RG ns) {k i j x : Nat} (hi : ns[i]? = some k) (hj : ns[j]? = some x) (lt : j < ns.findIdx fun u => decide (u = k)) : x < k := by
  apply Nat.lt_of_not_le
  intro z
  -- from x down to k within j
  have dn : ∀ (d y j' : Nat), ns[j']? = some y → y = k + d → ∃ j2, j2 ≤ j' ∧ ns[j2]? = some k := fun d => by
    induction d with
    | zero => intro y j' e1 e2; exact ⟨j', Nat.le_refl _, by rw [e1, e2]; rfl⟩
    | succ d ih =>
      intro y j' e1 e2
      obtain ⟨j3, g1, g2⟩ := rg j' (k + d) (by rw [e1, e2]; rfl)
      obtain ⟨j2, g3, g4⟩ := ih _ j3 g2 rfl
      exact ⟨j2, by omega, g4⟩
  obtain ⟨j2, g1, g2⟩ := dn (x - k) x j hj (by omega)
  have := (fst_at g2).2
  omega
theorem rg_max {ns : List Nat} (rg : RG ns) {k i : Nat} (hi : ns[i]? = some k) : ∀ v, v ≤ k → ∃ j : Nat, ns[j]? = some v := fun v hv => rg_down rg (k - v) v i (by rw [hi]; congr 1; omega)
/-- the kinds come in the order in which they are first met -/
theorem ford_kinds {m : Nat} {ds : List Deed} {o : Int} {cs : List (List Int)} {mac : List MRow} {ns : List Nat} (wm : WM m ds o cs mac) (hl : mac.length = cs.length) (kk : KOk mac ns) {n : Nat} (hn : ∀ k, k < n ↔ k ∈ ns) : FOrd (nxK mac ns) (List.range n) := by
  have kl := kk.len
  intro k c hk hc
  have hkn := (List.getElem?_eq_some_iff.mp hc).1
  rw [List.length_range] at hkn
  rw [List.getElem?_range hkn] at hc
  obtain rfl := Option.some.inj hc
  obtain ⟨i0, hi0⟩ := List.mem_iff_getElem?.mp ((hn k).mp hkn)
  obtain ⟨hi, _⟩ := fst_at hi0
  have before : ∀ (j x : Nat), ns[j]? = some x → j < (ns.findIdx fun u => decide (u = k)) → x < k := fun j x hj lt => rg_first kk.rg hi0 hj lt
  generalize (ns.findIdx fun u => decide (u = k)) = i at hi before
  have il := (List.getElem?_eq_some_iff.mp hi).1
  have ipos : 0 < i := by
    apply Nat.pos_of_ne_zero
    rintro rfl
    have := rg_le kk.rg _ _ hi
    omega
  obtain ⟨p, t, a, s, p1, p2, p3, p4, p5⟩ := wm.fo i cs[i] ipos (List.getElem?_eq_getElem (by omega))
  have np : ns[p]? = some ns[p] := List.getElem?_eq_getElem (by omega)
  have pk := before p _ np p1
  -- the state behind a state
  have beh_ : ∀ (p' t' : Nat) (a' : List Int) (s' : Int × List Int) (j : Nat), cs[p']? = some a' → (stp m ds o a')[t']? = some s' → cs[j]? = some s'.2 → ∃ (x y : Nat) (b : Int), ns[p']? = some x ∧ ns[j]? = some y ∧ (nxK mac ns x)[t']? = some (b, y) := fun p' t' a' s' j q1 q2 q3 => by
    have pl := (List.getElem?_eq_some_iff.mp q1).1
    have jl := (List.getElem?_eq_some_iff.mp q3).1
    have er : mac[p']? = some mac[p'] := List.getElem?_eq_getElem (by omega)
    obtain ⟨c, w1, w2⟩ := wm.each p' _ er
    rw [q1] at w1
    obtain rfl := Option.some.inj w1
    obtain ⟨e, w3, w4, j', w5, w6⟩ := awGet2 w2 q2
    have ej := nd_idx wm.nd w6 q3
    subst ej
    have nx : ns[p']? = some ns[p'] := List.getElem?_eq_getElem (by omega)
    have ny : ns[j']? = some ns[j'] := List.getElem?_eq_getElem (by omega)
    refine ⟨_, _, e.1, nx, ny, ?_⟩
    rw [nxK_at kk nx er, List.getElem?_map, w3, Option.map_some, w5, Int.toNat_natCast, List.getD_eq_getElem?_getD, ny]
    rfl
  obtain ⟨x, y, b, x1, y1, x2⟩ := beh_ p t a s i p2 p3 (by rw [p4]; exact List.getElem?_eq_getElem (by omega))
  rw [np] at x1
  obtain rfl := Option.some.inj x1
  rw [hi] at y1
  obtain rfl := Option.some.inj y1
  have rangeAt : ∀ v, v < n → (List.range n)[v]? = some v := fun v hv => List.getElem?_range hv
  refine ⟨ns[p], t, ns[p], (b, k), pk, rangeAt _ (by omega), x2, rfl, fun p' t' a' s' h1 h2 h3 => ?_⟩
  have p'n := (List.getElem?_eq_some_iff.mp h2).1
  rw [List.length_range] at p'n
  rw [rangeAt _ p'n] at h2
  obtain rfl := Option.some.inj h2
  -- the first state of the kind p'
  obtain ⟨i1, hi1⟩ := List.mem_iff_getElem?.mp ((hn p').mp p'n)
  obtain ⟨f1, _⟩ := fst_at hi1
  have fp : (ns.findIdx fun u => decide (u = p')) < p ∨ (ns.findIdx fun u => decide (u = p')) = p ∧ t' < t := by
    rcases h1 with h1 | ⟨h1, h4⟩
    · left
      apply Nat.lt_of_not_le
      intro z
      rcases Nat.lt_or_eq_of_le z with z | z
      · have := rg_first kk.rg hi1 np z
        omega
      · rw [← z, np] at f1
        have := Option.some.inj f1
        omega
    · have := (fst_at (ns := ns) (k := p') (i := p) (by rw [np, h1])).2
      rcases Nat.lt_or_eq_of_le this with z | z
      · exact .inl z
      · exact .inr ⟨z, h4⟩
  generalize (ns.findIdx fun u => decide (u = p')) = i2 at f1 fp
  have i2l := (List.getElem?_eq_some_iff.mp f1).1
  have ec : cs[i2]? = some (cs[i2]'(by omega)) := List.getElem?_eq_getElem (by omega)
  have er : mac[i2]? = some (mac[i2]'(by omega)) := List.getElem?_eq_getElem (by omega)
  obtain ⟨c, w1, w2⟩ := wm.each i2 _ er
  rw [ec] at w1
  obtain rfl := Option.some.inj w1
  have h3' := h3
  rw [nxK_at kk f1 er, List.getElem?_map] at h3'
  cases ht : (mac[i2]'(by omega))[t']? with
  | none => rw [ht] at h3'; cases h3'
  | some e =>
    obtain ⟨s2, v1, v2, j2, v3, v4⟩ := awGet w2 ht
    obtain ⟨j, g1, g2⟩ := p5 i2 t' _ s2 fp ec v1
    obtain ⟨x', y', b', x3, y3, x4⟩ := beh_ i2 t' _ s2 j ec v1 g2
    rw [f1] at x3
    obtain rfl := Option.some.inj x3
    rw [h3] at x4
    obtain rfl := Option.some.inj x4
    have := before j _ y3 g1
    exact ⟨y', this, rangeAt _ (by omega)⟩
theorem linv_mem {mac lm : List MRow} {ns : List Nat} (h : LInv mac ns lm ns.length) (k : Nat) : k < lm.length ↔ k ∈ ns := by
  constructor
  · intro hk
    obtain ⟨i0, r, h1, _⟩ := h.each k lm[k] (List.getElem?_eq_getElem hk)
    exact List.mem_of_getElem? h1
  · intro hk
    obtain ⟨j, hj⟩ := List.mem_iff_getElem?.mp hk
    exact h.all j k (List.getElem?_eq_some_iff.mp hj).1 hj
theorem linv_row {mac lm : List MRow} {ns : List Nat} (h : LInv mac ns lm ns.length) (kk : KOk mac ns) {k : Nat} {row : MRow} (e : lm[k]? = some row) : row = (nxK mac ns k).map fun e => (e.1, (e.2 : Int)) := by
  obtain ⟨i0, r, h1, h2, h3⟩ := h.each k row e
  rw [h3, nxK_at kk h1 h2, List.map_map]
  rfl
/-- a machine that was numbered in another way, kind by kind as they are met -/
structure LNum (mac : List MRow) (ns : List Nat) (os : List Nat) (fm : List MRow) : Prop where
  nd : (os.map fun i => ns.getD i 0).Nodup
  first : os[0]? = some 0
  bnd : ∀ i ∈ os, i < ns.length
  fo : FOrd (nxK mac ns) (os.map fun i => ns.getD i 0)
  each : ∀ (k : Nat) row, fm[k]? = some row → ∃ i r, os[k]? = some i ∧ mac[i]? = some r ∧ Paired (fun (e e' : Int × Int) => e'.1 = e.1 ∧ ∃ j i' : Nat, e'.2 = (j : Int) ∧ os[j]? = some i' ∧ ns.getD i' 0 = ns.getD e.2.toNat 0) r row
theorem LNum.eq {m : Nat} {ds : List Deed} {o : Int} {cs : List (List Int)} {mac lm fm : List MRow} {ns os : List Nat} (h : LNum mac ns os fm) (hf : fm.length = os.length) (wm : WM m ds o cs mac) (hl : mac.length = cs.length) (kk : KOk mac ns) (li : LInv mac ns lm ns.length) : fm = lm := by
  have kl := kk.len
  have pos : 0 < cs.length := (List.getElem?_eq_some_iff.mp wm.first).1
  have fo := ford_kinds wm hl kk (linv_mem li)
  have getd : ∀ i, i < ns.length → ns[i]? = some (ns.getD i 0) := fun i hi => by rw [List.getD_eq_getElem?_getD, List.getElem?_eq_getElem hi]; rfl
  have z0 : ns[0]? = some 0 := by
    have h0 : ns[0]? = some ns[0] := List.getElem?_eq_getElem (by omega)
    have := rg_le kk.rg _ _ h0
    rw [h0]
    congr 1
    omega
  have lpos : 0 < lm.length := (linv_mem li 0).mpr (List.mem_of_getElem? z0)
  have opos : 0 < os.length := (List.getElem?_eq_some_iff.mp h.first).1
  have eq := ford_eq h.nd List.nodup_range (by rw [List.getElem?_map, h.first, List.getElem?_range lpos, Option.map_some, List.getD_eq_getElem?_getD, z0]; rfl) h.fo fo (fun a ha s hs => ?_) (fun a ha s hs => ?_) (by rwa [List.length_map]) (by rwa [List.length_range])
  · -- so the numbers are the kinds
    have ol : os.length = lm.length := by
      have := congrArg List.length eq
      rwa [List.length_map, List.length_range] at this
    have kind : ∀ (k i : Nat), os[k]? = some i → ns.getD i 0 = k := fun k i e => by
      have h1 : (os.map fun i => ns.getD i 0)[k]? = some (ns.getD i 0) := by rw [List.getElem?_map, e]; rfl
      rw [eq, List.getElem?_range (by have := (List.getElem?_eq_some_iff.mp e).1; omega)] at h1
      exact (Option.some.inj h1).symm
    refine List.ext_getElem (by omega) fun k h1 h2 => ?_
    obtain ⟨i, r, e1, e2, e3⟩ := h.each k _ (List.getElem?_eq_getElem h1)
    have ki := kind k i e1
    have ni : ns[i]? = some k := by rw [getd i (h.bnd i (List.mem_of_getElem? e1)), ki]
    rw [linv_row li kk (List.getElem?_eq_getElem h2), nxK_at kk ni e2, List.map_map]
    apply List.ext_getElem?
    intro t
    rw [List.getElem?_map]
    cases ht : r[t]? with
    | none =>
      rw [Option.map_none, List.getElem?_eq_none_iff, ← awLen e3]
      exact List.getElem?_eq_none_iff.mp ht
    | some e =>
      obtain ⟨e', g1, g2, j, i', g3, g4, g5⟩ := awGet e3 ht
      rw [g1, Option.map_some]
      refine congrArg some (Prod.ext g2 ?_)
      rw [g3, ← kind j i' g4, g5]
      rfl
  · -- closed: the rows of fm
    obtain ⟨i, hi, rfl⟩ := List.mem_map.mp ha
    obtain ⟨k, hk⟩ := List.mem_iff_getElem?.mp hi
    have kl2 := (List.getElem?_eq_some_iff.mp hk).1
    obtain ⟨i', r, e1, e2, e3⟩ := h.each k fm[k] (List.getElem?_eq_getElem (by omega))
    rw [hk] at e1
    obtain rfl := Option.some.inj e1
    rw [nxK_at kk (getd i (h.bnd i hi)) e2] at hs
    obtain ⟨e, g1, rfl⟩ := List.mem_map.mp hs
    obtain ⟨t, ht⟩ := List.mem_iff_getElem?.mp g1
    obtain ⟨e', _, _, j, i', _, g4, g5⟩ := awGet e3 ht
    rw [← g5]
    exact List.mem_map.mpr ⟨i', List.mem_of_getElem? g4, rfl⟩
  · rw [List.mem_range] at ha ⊢
    obtain ⟨i, hi⟩ := List.mem_iff_getElem?.mp ((linv_mem li a).mp ha)
    have il := (List.getElem?_eq_some_iff.mp hi).1
    have er : mac[i]? = some (mac[i]'(by omega)) := List.getElem?_eq_getElem (by omega)
    rw [nxK_at kk hi er] at hs
    obtain ⟨e, g1, rfl⟩ := List.mem_map.mp hs
    obtain ⟨t, ht⟩ := List.mem_iff_getElem?.mp g1
    obtain ⟨c, w1, w2⟩ := wm.each i _ er
    obtain ⟨s', _, _, j, v3, v4⟩ := awGet w2 ht
    have jl := (List.getElem?_eq_some_iff.mp v4).1
    refine (linv_mem li _).mpr ?_
    rw [v3, Int.toNat_natCast]
    exact List.mem_of_getElem? (getd j (by omega))
/-- the machine of all carries is one only -/
theorem wm_eq {m : Nat} {ds : List Deed} {o : Int} {cs cs' : List (List Int)} {mac mac' : List MRow} (wm : WM m ds o cs mac) (hl : mac.length = cs.length) (wm' : WM m ds o cs' mac') (hl' : mac'.length = cs'.length) : mac = mac' := by
  have cl : ∀ {cs : List (List Int)} {mac : List MRow}, WM m ds o cs mac → mac.length = cs.length → ∀ a ∈ cs, ∀ s ∈ stp m ds o a, s.2 ∈ cs := fun {cs mac} wm hl a ha s hs => by
    obtain ⟨i, hi⟩ := List.mem_iff_getElem?.mp ha
    have il := (List.getElem?_eq_some_iff.mp hi).1
    obtain ⟨c, w1, w2⟩ := wm.each i _ (List.getElem?_eq_getElem (show i < mac.length by omega))
    rw [hi] at w1
    obtain rfl := Option.some.inj w1
    obtain ⟨t, ht⟩ := List.mem_iff_getElem?.mp hs
    obtain ⟨e, _, _, j, _, w6⟩ := awGet2 w2 ht
    exact List.mem_of_getElem? w6
  have pos : 0 < cs.length := (List.getElem?_eq_some_iff.mp wm.first).1
  have pos' : 0 < cs'.length := (List.getElem?_eq_some_iff.mp wm'.first).1
  have eq := ford_eq wm.nd wm'.nd (wm.first.trans wm'.first.symm) wm.fo wm'.fo (cl wm hl) (cl wm' hl') pos pos'
  subst eq
  refine List.ext_getElem (by omega) fun i h1 h2 => ?_
  obtain ⟨c, a1, a2⟩ := wm.each i _ (List.getElem?_eq_getElem h1)
  obtain ⟨c', b1, b2⟩ := wm'.each i _ (List.getElem?_eq_getElem h2)
  rw [a1] at b1
  obtain rfl := Option.some.inj b1
  refine List.ext_getElem (by rw [awLen a2, awLen b2]) fun t g1 g2 => ?_
  obtain ⟨s, e1, e2, j, e3, e4⟩ := awGet a2 (List.getElem?_eq_getElem g1)
  obtain ⟨s', d1, d2, j', d3, d4⟩ := awGet b2 (List.getElem?_eq_getElem g2)
  rw [e1] at d1
  obtain rfl := Option.some.inj d1
  refine Prod.ext (e2.trans d2.symm) ?_
  rw [e3, d3, nd_idx wm.nd e4 d4]
/-! ### kept_steps -/
/-- the kept steps of some carries -/
structure Kept (H : Hp) (m : Nat) (ds : List Deed) (o : Int) (es : List (List Int × Addr)) : Prop where
  nd : (es.map (·.1)).Nodup
  bits : ∀ e ∈ es, e.1.length = ds.length ∧ ∀ x ∈ e.1, Bit x
  each : ∀ e ∈ es, ∃ ps, H e.2 = some (.lst (ps.map V.ref)) ∧ StAt H ps (stp m ds o e.1)
def spKs : Sp := fun vs H Q _ => ∃ (D R C : Addr) (m : Nat) (o : Int) (ds : List Deed) (cs : List Int) (es : List (List Int × Addr)), vs = [.ref D, .ref R, .ref C] ∧ H D = some (.dT (emb V.ref es)) ∧ Kept H m ds o es ∧ RowAt H R m ds o ∧ RowOk m ds o ∧ H C = some (.tup (cs.map V.int)) ∧ cs.length = ds.length ∧ (∀ x ∈ cs, Bit x) ∧
  ∀ H' p ps es', But D H H' → H' D = some (.dT (emb V.ref es')) → Kept H' m ds o es' → (∀ e ∈ es, e ∈ es') → (∀ e ∈ es', e ∈ es ∨ H e.2 = none) → (cs, p) ∈ es' → H' p = some (.lst (ps.map V.ref)) → StAt H' ps (stp m ds o cs) → Q (.ref p) H'
theorem ok_ks {f fS : Addr} {fd fdS : FuncData} {k : Nat} (F : Fun K "kept_steps" "kept_steps" s_kept_steps f fd)
    (GS : FnOk P w K mg base CX0 (k + 4) fS fdS ["row", "carry"] spSt) (kS : PySem.W.keepIn K (.ref fS) = true) (bS : Binds K fdS ["row", "carry"] []) (gS : mg "steps" = some (.ref fS)) : FnOk P w K mg base CX0 (k + 5) f fd ["kept", "row", "carry"] spKs := by
  refine F.ok sc_kept_steps (fun vs H Q E h => ?_) (fun cdv A outer s H vs Q E hr h => ?_)
  · obtain ⟨D, R, C, m, o, ds, cs, es, rfl, _⟩ := h
    rfl
  · obtain ⟨D, R, C, m, o, ds, cs, es, rfl, eD, kp, hrow, hok, eC, hcl, hcb, q⟩ := h
    have hu := hu_of hr
    refine ⟨_, pss_mid (ps_if (pt_cmp (pc_dnotin hu (pv 2) (pv 0))) (pss_one (ps_dput hu (pv 0) (pv 2) (pe_call GS hr (by rfl) gS kS bS .nil pass0 (pa_cons (pv 1) (pa_cons (pv 2) pa_nil))) rfl)) pss_nil)
      (pss_one (ps_ret (pe_dget hu (pv 0) (pv 2) (fun _ _ => rfl)))), ?_⟩
    have key : ∀ {H' : Hp}, H' C = some (.tup (cs.map V.int)) → H' C = some (.tup ((kI cs).map kV)) := fun e => by rw [kI_V]; exact e
    have l8 := hok.len
    refine ⟨fun σ2 H2 => ∃ es', σ2 = [some (.ref D), some (.ref R), some (.ref C)] ∧ But D H H2 ∧ H2 C = some (.tup (cs.map V.int)) ∧ H2 D = some (.dT (emb V.ref es')) ∧ Kept H2 m ds o es' ∧ (∀ e ∈ es, e ∈ es') ∧ (∀ e ∈ es', e ∈ es ∨ H e.2 = none) ∧ ∃ p, (cs, p) ∈ es', ?_, ?_⟩
    · refine ⟨.ref C, rfl, .ref D, rfl, D, _, rfl, DGet.t eD (key eC), _, rfl, ?_⟩
      rw [emb_get]
      cases eg : getA es cs with
      | some p =>
        exact ⟨es, rfl, But.refl D H, eC, eD, kp, fun e h => h, fun e h => .inl h, p, getA_some eg⟩
      | none =>
        refine ⟨.ref R, rfl, .ref C, rfl, R, C, m, o, ds, cs, rfl, hrow, hok, eC, hcl, fun H1 p ps s1 np ep hs => ?_⟩
        have eD1 := s1 _ _ eD
        have npD : p ≠ D := fun z => by rw [z, eD] at np; cases np
        refine ⟨.ref D, rfl, .ref C, rfl, D, _, rfl, DPut.t eD1 (key (s1 _ _ eC)) ?_, putA es cs p, rfl, ?_, ?_, ?_, ?_, ?_, ?_, ?_⟩
        · unfold emb
          rw [List.length_map]
          have := few_keys kp.nd kp.bits l8
          exact small1000 (by omega)
        · intro b u nb e
          rw [upd_ne nb]
          exact s1 b u e
        · rw [upd_ne (ne_of eC eD (fun z => nomatch z))]
          exact s1 _ _ eC
        · rw [upd_same, emb_put]
        · have ts : TupsStay H1 (upd H1 D (.dT (putK (emb V.ref es) (kI cs) (.ref p)))) := fun b xs e => by
            rw [upd_ne (ne_of e eD1 (fun z => nomatch z))]
            exact e
          refine ⟨putA_nodup kp.nd, fun e he => ?_, fun e he => ?_⟩
          · rcases mem_putA.mp he with rfl | ⟨h1, _⟩
            · exact ⟨hcl, hcb⟩
            · exact kp.bits e h1
          · rcases mem_putA.mp he with rfl | ⟨h1, _⟩
            · refine ⟨ps, ?_, stat_stay ts hs⟩
              rw [upd_ne npD]
              exact ep
            · obtain ⟨ps2, h2, h3⟩ := kp.each e h1
              refine ⟨ps2, ?_, stat_stay ts (stat_stay (Same.tups s1) h3)⟩
              rw [upd_ne (ne_of (s1 _ _ h2) eD1 (fun z => nomatch z))]
              exact s1 _ _ h2
        · intro e he
          refine mem_putA.mpr (.inr ⟨he, fun z => ?_⟩)
          exact getA_none.mp eg (List.mem_map.mpr ⟨e, he, z⟩)
        · intro e he
          rcases mem_putA.mp he with rfl | ⟨h1, _⟩
          · exact .inr np
          · exact .inl h1
        · exact ⟨p, mem_putA.mpr (.inl rfl)⟩
    · rintro σ2 H2 ⟨es', rfl, b2, eC2, eD2, kp2, hsub, hnew, p, hp⟩
      obtain ⟨ps, e1, e2⟩ := kp2.each _ hp
      refine ⟨.ref D, rfl, .ref C, rfl, D, .ref p, rfl, ?_, q H2 p ps es' b2 eD2 kp2 hsub hnew hp e1 e2⟩
      have g := DGet.t eD2 (key eC2)
      rw [emb_get, getA_of kp2.nd hp] at g
      exact g
/-! ### refusals raised -/
theorem app_len (x y : Str) : (x ++ y).length = x.length + y.length := by
  rw [TL.len_tl, TL.tl_append, List.length_append, ← TL.len_tl, ← TL.len_tl]
theorem js_len {acc y : Str} {a b : Nat} (h1 : acc.length ≤ a) (h2 : y.length ≤ b) (h : a + b ≤ 1000) : (acc ++ y).length ≤ sizeLine ∧ (acc ++ y).length ≤ a + b := by
  rw [app_len, sizeLine_eq]
  omega
theorem iX_len {i : Int} (h : i.natAbs < 10 ^ 3) : (Str.ofString (toString i)).length ≤ 4 := by
  rw [PySem.ofString_length]
  exact int_text_length_le10 (k := 3) (by decide) h
theorem log_small {i : Int} (h : i.natAbs < 1000) : i.natAbs.log2 < 1920 := by
  by_cases e : i.natAbs = 0
  · rw [e]; decide
  · have := (Nat.log2_lt (k := 10) e).mpr (Nat.lt_trans h (by decide))
    omega
theorem neT {x y : Int} (h : (!decide (V.int x = V.int y)) = true) : ¬ x = y := fun e => by
  rw [decide_eq_true (congrArg V.int e)] at h
  cases h
theorem neF {x y : Int} (h : ¬ (!decide (V.int x = V.int y)) = true) : x = y := by
  by_cases e : x = y
  · exact e
  · exfalso
    apply h
    rw [decide_eq_false (fun z => e (V.int.inj z))]
    rfl
/-- a class of the program whose instances are raised -/
structure Rai (K : PySem.W.Frag) (mg : Str → Option Value) (x : Str) (C : Addr) : Prop where
  q : PySem.W.excIn K C [.type "ValueError", .type "Exception", .type "BaseException", .type "object"] "ValueError.__new__" = true
  g : mg x = some (.ref C)
  k : PySem.W.keepIn K (.ref C) = true
  s : PySem.W.subIn K (.ref C) (.type "BaseException") = some true
  t : PySem.W.typeIn K (.ref C) = some (.type "type")
/-! ### all words -/
def ob (ds : List Deed) (o : Int) (c bs : List Int) : Int := (bts ds c bs).getD o.toNat 0
def nc (ds : List Deed) (c bs : List Int) : List Int := nxt ds c (bts ds c bs)
def wsum (t : Nat) : Nat → (List Int → Nat) → Nat
  | 0, f => f []
  | m + 1, f => ((List.range t).map fun (x : Nat) => wsum t m fun r => f ((x : Int) :: r)).sum
def comb (bs ys : List Int) : List Int := List.zipWith (fun b y => b + 2 * y) bs ys
theorem wsum_congr {t : Nat} : ∀ {m : Nat} {f g : List Int → Nat}, (∀ xs, xs.length = m → (∀ x ∈ xs, 0 ≤ x ∧ x < (t : Int)) → f xs = g xs) → wsum t m f = wsum t m g
  | 0, f, g, h => h [] rfl (fun _ z => nomatch z)
  | m + 1, f, g, h => by
    unfold wsum
    congr 1
    refine List.map_congr_left fun x hx => wsum_congr fun xs hl hb => h _ (by rw [List.length_cons, hl]) fun y hy => ?_
    rcases List.mem_cons.mp hy with rfl | hy
    · have := List.mem_range.mp hx
      omega
    · exact hb y hy
theorem sum_add {α : Type} (f g : α → Nat) : ∀ l : List α, (l.map fun x => f x + g x).sum = (l.map f).sum + (l.map g).sum
  | [] => rfl
  | x :: l => by
    rw [List.map_cons, List.map_cons, List.map_cons, List.sum_cons, List.sum_cons, List.sum_cons, sum_add f g l]
    omega
theorem sum_swap {α β : Type} (f : α → β → Nat) : ∀ (l : List α) (k : List β), (l.map fun x => (k.map fun y => f x y).sum).sum = (k.map fun y => (l.map fun x => f x y).sum).sum
  | [], k => by
    rw [List.map_nil, List.sum_nil]
    induction k with
    | nil => rfl
    | cons y k ih => rw [List.map_cons, List.sum_cons, ← ih]; rfl
  | x :: l, k => by
    rw [List.map_cons, List.sum_cons, sum_swap f l k, ← sum_add]
    rfl
theorem wsum_sum {α : Type} (t : Nat) (L : List α) : ∀ (m : Nat) (f : α → List Int → Nat), wsum t m (fun xs => (L.map fun a => f a xs).sum) = (L.map fun a => wsum t m (f a)).sum
  | 0, _ => rfl
  | m + 1, f => by
    show ((List.range t).map fun (x : Nat) => wsum t m fun r => (L.map fun a => f a ((x : Int) :: r)).sum).sum = _
    have : (fun (x : Nat) => wsum t m fun r => (L.map fun a => f a ((x : Int) :: r)).sum) = fun (x : Nat) => (L.map fun a => wsum t m fun r => f a ((x : Int) :: r)).sum := funext fun x => wsum_sum t L m fun a r => f a ((x : Int) :: r)
    rw [this, sum_swap]
    rfl
theorem range_two (g : Nat → Nat) : ∀ t : Nat, ((List.range (2 * t)).map g).sum = ((List.range t).map fun y => g (2 * y) + g (2 * y + 1)).sum
  | 0 => rfl
  | t + 1 => by
    have e : 2 * (t + 1) = 2 * t + 1 + 1 := by omega
    rw [e, List.range_succ, List.range_succ, List.range_succ, List.map_append, List.map_append, List.map_append, List.sum_append, List.sum_append, List.sum_append, range_two g t]
    simp
    omega
theorem ext2_sum (g : List Int → Nat) : ∀ l : List (List Int), ((ext2 l).map g).sum = (l.map fun b => g (b ++ [0]) + g (b ++ [1])).sum
  | [] => rfl
  | b :: l => by
    show ((([b ++ [0], b ++ [1]] : List (List Int)) ++ ext2 l).map g).sum = _
    rw [List.map_append, List.sum_append, ext2_sum g l, List.map_cons, List.sum_cons]
    simp
theorem allB_front : ∀ (m : Nat) (g : List Int → Nat), ((allB (m + 1)).map g).sum = ((allB m).map fun bs => g (0 :: bs) + g (1 :: bs)).sum
  | 0, g => by
    show ((ext2 [[]]).map g).sum = _
    rw [ext2_sum]
    rfl
  | m + 1, g => by
    have e : allB (m + 1 + 1) = ext2 (allB (m + 1)) := rfl
    rw [e, ext2_sum, allB_front m, show allB (m + 1) = ext2 (allB m) from rfl, ext2_sum]
    congr 1
    refine List.map_congr_left fun bs _ => ?_
    show g (0 :: (bs ++ [0])) + g (0 :: (bs ++ [1])) + (g (1 :: (bs ++ [0])) + g (1 :: (bs ++ [1]))) = g (0 :: (bs ++ [0])) + g (1 :: (bs ++ [0])) + (g (0 :: (bs ++ [1])) + g (1 :: (bs ++ [1])))
    omega
theorem wsum_two (t : Nat) : ∀ (m : Nat) (f : List Int → Nat), wsum (2 * t) m f = ((allB m).map fun bs => wsum t m fun ys => f (comb bs ys)).sum
  | 0, f => by
    show f [] = ([[]].map fun bs => wsum t 0 fun ys => f (comb bs ys)).sum
    simp [wsum, comb]
  | m + 1, f => by
    rw [allB_front]
    show ((List.range (2 * t)).map fun (x : Nat) => wsum (2 * t) m fun r => f ((x : Int) :: r)).sum = _
    rw [range_two]
    have e1 : ∀ x : Nat, wsum (2 * t) m (fun r => f ((x : Int) :: r)) = ((allB m).map fun bs => wsum t m fun ys => f ((x : Int) :: comb bs ys)).sum := fun x => wsum_two t m fun r => f ((x : Int) :: r)
    have e2 : (fun (y : Nat) => wsum (2 * t) m (fun r => f (((2 * y : Nat) : Int) :: r)) + wsum (2 * t) m (fun r => f (((2 * y + 1 : Nat) : Int) :: r))) = fun (y : Nat) => ((allB m).map fun bs => (wsum t m fun ys => f (((2 * y : Nat) : Int) :: comb bs ys)) + wsum t m fun ys => f (((2 * y + 1 : Nat) : Int) :: comb bs ys)).sum := funext fun y => by
      rw [e1, e1, ← sum_add]
    rw [e2, sum_swap]
    congr 1
    refine List.map_congr_left fun bs _ => ?_
    show _ = ((List.range t).map fun (y : Nat) => wsum t m fun r => f (comb (0 :: bs) ((y : Int) :: r))).sum + ((List.range t).map fun (y : Nat) => wsum t m fun r => f (comb (1 :: bs) ((y : Int) :: r))).sum
    rw [← sum_add]
    congr 1
    refine List.map_congr_left fun y _ => ?_
    have a0 : ((2 * y : Nat) : Int) = 0 + 2 * (y : Int) := by omega
    have a1 : ((2 * y + 1 : Nat) : Int) = 1 + 2 * (y : Int) := by omega
    rw [a0, a1]
    rfl
theorem wsum_one : ∀ m : Nat, wsum 1 m (fun _ => 1) = 1
  | 0 => rfl
  | m + 1 => by
    show ((List.range 1).map fun (_ : Nat) => wsum 1 m fun _ => 1).sum = 1
    rw [wsum_one m]
    rfl
theorem wsum_zero (t : Nat) : ∀ m : Nat, wsum t m (fun _ => 0) = 0
  | 0 => rfl
  | m + 1 => by
    show ((List.range t).map fun (_ : Nat) => wsum t m fun _ => 0).sum = 0
    rw [wsum_zero t m, List.map_const', List.sum_replicate_nat, Nat.mul_zero]
theorem comb_mod : ∀ {bs ys : List Int}, bs.length = ys.length → (∀ x ∈ bs, Bit x) → (comb bs ys).map (· % 2) = bs ∧ (comb bs ys).map (· / 2) = ys
  | [], [], _, _ => ⟨rfl, rfl⟩
  | [], _ :: _, h, _ => by simp at h
  | _ :: _, [], h, _ => by simp at h
  | b :: bs, y :: ys, h, hb => by
    obtain ⟨h1, h2⟩ := comb_mod (bs := bs) (ys := ys) (by simpa using h) fun x hx => hb x (List.mem_cons_of_mem _ hx)
    have hbb := hb b List.mem_cons_self
    have e1 : (b + 2 * y) % 2 = b := by rcases hbb with rfl | rfl <;> omega
    have e2 : (b + 2 * y) / 2 = y := by rcases hbb with rfl | rfl <;> omega
    refine ⟨?_, ?_⟩
    · show (b + 2 * y) % 2 :: (comb bs ys).map (· % 2) = _
      rw [h1, e1]
    · show (b + 2 * y) / 2 :: (comb bs ys).map (· / 2) = _
      rw [h2, e2]
theorem bits_eq {v u : Int} : ∀ (w : Nat), (∀ s, s < w → bitA s v = bitA s u) → v % 2 ^ w = u % 2 ^ w
  | 0, _ => by
    rw [Int.pow_zero, Int.emod_one, Int.emod_one]
  | w + 1, h => by
    have ih := bits_eq w fun s hs => h s (by omega)
    have hb := h w (by omega)
    have e1 := low_next v (pw_pos w)
    have e2 := low_next u (pw_pos w)
    rw [Int.mul_comm 2, ← Int.pow_succ] at e1 e2
    unfold bitA at hb
    rw [e1, e2, ih, hb]
/-! ### xs[::-1] -/
section revs
variable {X : Cx} {e st : Expr} {te ts : TE} {pos p2 : Pos}
theorem range_get {α : Type} : ∀ l : List α, (List.range l.length).filterMap (l[·]?) = l
  | [] => rfl
  | x :: l => by
    rw [List.length_cons, List.range_succ_eq_map, List.filterMap_cons]
    show x :: ((List.range l.length).map Nat.succ).filterMap _ = _
    rw [List.filterMap_map]
    congr 1
    exact range_get l
theorem fm_congr {α β : Type} {f g : α → Option β} : ∀ l : List α, (∀ x ∈ l, f x = g x) → l.filterMap f = l.filterMap g
  | [], _ => rfl
  | x :: l, h => by
    rw [List.filterMap_cons, List.filterMap_cons, h x List.mem_cons_self, fm_congr l fun y hy => h y (List.mem_cons_of_mem _ hy)]
theorem slicePick_rev (its : List Value) : slicePick its.toArray none none (some (-1)) = its.reverse.toArray := by
  unfold slicePick
  congr 1
  have hb : sliceBounds none none (some (-1)) its.toArray.size = ((its.length : Int) - 1, -1, -1) := by
    simp [sliceBounds]
  rw [hb]
  unfold sliceRange
  have hc : (if (-1 : Int) > 0 then (if ((its.length : Int) - 1) < -1 then (-1 - ((its.length : Int) - 1) + -1 - 1) / -1 else 0) else (if ((its.length : Int) - 1) > -1 then (((its.length : Int) - 1) - -1 - -1 - 1) / (- -1) else 0)) = (its.length : Int) := by
    rw [if_neg (by decide)]
    by_cases h : ((its.length : Int) - 1) > -1
    · rw [if_pos h, show (- -1 : Int) = 1 by decide, Int.ediv_one]
      omega
    · rw [if_neg h]
      omega
  show ((List.range (if (-1 : Int) > 0 then (if ((its.length : Int) - 1) < -1 then (-1 - ((its.length : Int) - 1) + -1 - 1) / -1 else 0) else (if ((its.length : Int) - 1) > -1 then (((its.length : Int) - 1) - -1 - -1 - 1) / (- -1) else 0)).toNat).map fun (k : Nat) => ((its.length : Int) - 1 + -1 * (k : Int)).toNat).filterMap (its.toArray[·]?) = its.reverse
  rw [hc, Int.toNat_natCast, List.filterMap_map]
  have e := range_get its.reverse
  rw [List.length_reverse] at e
  refine Eq.trans (fm_congr _ fun k hk => ?_) e
  have hk' := List.mem_range.mp hk
  show its.toArray[((its.length : Int) - 1 + -1 * (k : Int)).toNat]? = its.reverse[k]?
  rw [List.getElem?_toArray, List.getElem?_reverse hk']
  congr 1
  omega
def tRev (K : PySem.W.Frag) (te ts : TE) : TE := fun σ H Q => te σ H fun x H1 => ts σ H1 fun y H2 => ∃ a xs, y = .int (-1) ∧ x = .ref a ∧ SqL K H2 a xs ∧ ∀ p, H2 p = none → Q (.ref p) (upd H2 p (.lst xs.reverse))
theorem pe_rev (he : PE X e te) (hs : PE X st ts) : PE X (.Subscript e (.Slice none none (some st) p2) pos) (tRev X.K te ts) := by
  refine ⟨fun pins s σ H Q I h => ?_⟩
  refine Subscript_ (thn (he.run pins s σ H _ I h) ?_)
  rintro v s1 ⟨x, H1, I1, r1, q1⟩
  apply wpAny_Slice
  rw [evalPart_none]
  refine wpAny_pure ?_
  refine wpAny_pure ?_
  rw [evalPart_some]
  refine thn (hs.run pins s1 σ H1 _ I1 q1) ?_
  rintro vs s3 ⟨y, H3, I3, ry, a, xs, rfl, rfl, hx, q3⟩
  obtain ⟨tk, rfl⟩ := ry
  cases r1
  have I4 : Inv X pins σ H3 { s3 with heap := s3.heap.push { cls := .type "slice", data := .fields #[.none, .none, .int (-1) tk] } } := I3.kept (t' := s3.toks) fun b ob q => Heap.get?_push_of_some _ q
  obtain ⟨its, r, ht, hz⟩ := I4.list hx
  have hlen := r.length
  show wpAny (model X.prog X.w) X.A (subscriptTail e (.Slice none none (some st) p2) (.ref a) (.ref s3.heap.objs.size)) (EP X pins σ Q) X.xe { s3 with heap := s3.heap.push { cls := .type "slice", data := .fields #[.none, .none, .int (-1) tk] } }
  refine tail_any (ops := [.ref a, .ref s3.heap.objs.size]) ht.isList.typeIs slot_list_getitem.lookup ?_ (by with_unfolding_all rfl)
  refine wpAny_getItem_list_slice ht.isList (Heap.IsSliceOf.new ..) .none .none (.int (-1) tk) (by decide) ?_ (by rw [List.size_toArray] <;> omega)
  rw [slicePick_rev]
  refine ⟨.ref _, _, I4.laid (t' := s3.toks) (o := .lst xs.reverse) (fun b ob q => Heap.get?_push_of_some _ q) (Nat.le_refl _) ?_, rfl, q3 _ ?_⟩
  · exact ⟨by rw [List.length_reverse]; exact hz, _, 0, r.reverse, Heap.get?_push_size _ rfl⟩
  · exact I4.hok.fresh (Nat.le_refl _)
end revs
/-! ### both_steps, of steps -/
abbrev Bst2 := (Int × List Int) × (Int × List Int)
def BsE2 (H : Hp) (t : Addr) (e : Bst2) : Prop := ∃ c c1 c2, H t = some (.tup [.int e.1.1, .int e.2.1, .ref c]) ∧ H c = some (.tup [.ref c1, .ref c2]) ∧ H c1 = some (.tup (e.1.2.map V.int)) ∧ H c2 = some (.tup (e.2.2.map V.int))
abbrev BsAt2 (H : Hp) : List Addr → List Bst2 → Prop := Paired (BsE2 H)
theorem bse2_stay {H H' : Hp} (t : TupsStay H H') {a : Addr} {e : Bst2} (h : BsE2 H a e) : BsE2 H' a e := by
  obtain ⟨c, c1, c2, h1, h2, h3, h4⟩ := h
  exact ⟨c, c1, c2, t _ _ h1, t _ _ h2, t _ _ h3, t _ _ h4⟩
theorem bsat2_stay {H H' : Hp} (t : TupsStay H H') {ts : List Addr} {l : List Bst2} (h : BsAt2 H ts l) : BsAt2 H' ts l := awMap (fun _ _ z => bse2_stay t z) h
def StL (H : Hp) (l : Addr) (r : List (Int × List Int)) : Prop := ∃ qs, H l = some (.lst (qs.map V.ref)) ∧ StAt H qs r
def spBs2 : Sp := fun vs H Q _ => ∃ (l1 l2 : Addr) (r1 r2 : List (Int × List Int)), vs = [.ref l1, .ref l2] ∧ StL H l1 r1 ∧ StL H l2 r2 ∧ r1.length = r2.length ∧ r1.length ≤ 8 ∧
  ∀ H' p ts, Same H H' → H p = none → H' p = some (.lst (ts.map V.ref)) → BsAt2 H' ts (r1.zip r2) → Q (.ref p) H'
theorem ok_bs2 {f : Addr} {fd : FuncData} {k : Nat} (F : Fun K "both_steps" "both_steps" s_both_steps f fd) (mz : mg "zip" = none) : FnOk P w K mg base CX0 (k + 1) f fd ["ones", "others"] spBs2 := by
  refine F.ok sc_both_steps (fun vs H Q E h => ?_) (fun cdv A outer s H vs Q E hr h => ?_)
  · obtain ⟨l1, l2, r1, r2, rfl, _⟩ := h
    rfl
  · obtain ⟨l1, l2, r1, r2, rfl, ⟨qs1, e1, h1⟩, ⟨qs2, e2, h2⟩, hl, h8, q⟩ := h
    refine ⟨_, pss_one (ps_ret (pe_lc (own := [("bit", 2), ("after", 3), ("others_bit", 4), ("others_after", 5)]) (g := gTup K 2 (gCons (gTup K 2 (gCons (gName 2) (gCons (gName 3) gNil))) (gCons (gTup K 2 (gCons (gName 4) (gCons (gName 5) gNil))) gNil))) (by rfl) sc_both_steps.nd (pi_zip (by rfl) mz (pa_cons (pv 0) (pa_cons (pv 1) pa_nil)))
        (blkOk_by (own := [("bit", 2), ("after", 3), ("others_bit", 4), ("others_after", 5)]) (N := N_both_steps) (sc := defScope s_both_steps) (by decide +kernel))
        (fun _ _ _ _ _ => pg_tup rfl (pgs_cons (pg_tup rfl (pgs_cons (pg_name (i := 2) sc_both_steps.nd rfl (.inl rfl)) (pgs_cons (pg_name (i := 3) sc_both_steps.nd rfl (.inl rfl)) pgs_nil))) (pgs_cons (pg_tup rfl (pgs_cons (pg_name (i := 4) sc_both_steps.nd rfl (.inl rfl)) (pgs_cons (pg_name (i := 5) sc_both_steps.nd rfl (.inl rfl)) pgs_nil))) pgs_nil)))
        (fun _ _ _ _ _ => pts_nil) (fun _ _ _ _ _ => pe_tup (pa_cons (pv 2) (pa_cons (pv 4) (pa_cons (pe_tup (pa_cons (pv 3) (pa_cons (pv 5) pa_nil))) pa_nil)))))), ?_⟩
    have q1 := awLen h1
    have q2 := awLen h2
    refine ⟨.ref l1, rfl, .ref l2, rfl, l1, l2, _, _, rfl, .inl (.inl e1), .inl (.inl e2), fun L hL => ?_⟩
    refine lc_it (walk_zip (K := K) (a := l1) (b := l2) (xs := qs1.map V.ref) (ys := qs2.map V.ref) (n := r1.length) (by rw [List.length_map, List.length_map, q1, q2, ← hl, Nat.min_self])) (fun j H4 => ∃ ts, H4 L = some (.lst (ts.map V.ref)) ∧ BsAt2 H4 ts ((r1.zip r2).take j) ∧ Same H H4) ⟨[], upd_same, .nil, same_new hL⟩ (fun j H4 _ h4 => ?_) (fun j x H4 H5 hj h4 hx => ?_) (fun H4 h4 => ?_)
    · obtain ⟨_, _, _, s4⟩ := h4
      exact ⟨.inl (.inl (s4 _ _ e1)), .inl (.inl (s4 _ _ e2))⟩
    · obtain ⟨ts, eL, hts, s4⟩ := h4
      obtain ⟨U, x1, x2, rfl, hU, rfl, g1, g2⟩ := hx
      have hj1 : j < qs1.length := by omega
      have hj2 : j < qs2.length := by omega
      have e1' : x1 = .ref qs1[j] := by
        have g1' : (qs1.map V.ref)[j]? = some x1 := g1
        rw [List.getElem?_map, List.getElem?_eq_getElem hj1] at g1'
        exact (Option.some.inj g1').symm
      have e2' : x2 = .ref qs2[j] := by
        have g2' : (qs2.map V.ref)[j]? = some x2 := g2
        rw [List.getElem?_map, List.getElem?_eq_getElem hj2] at g2'
        exact (Option.some.inj g2').symm
      subst e1' e2'
      obtain ⟨a, ha1, ca, ha2, ha3⟩ := awGet h1 (List.getElem?_eq_getElem hj1)
      obtain ⟨b, hb1, cb, hb2, hb3⟩ := awGet h2 (List.getElem?_eq_getElem hj2)
      have sU := same_new (o := .tup [.ref qs1[j], .ref qs2[j]]) hU
      have f1 := sU _ _ (s4 _ _ ha2)
      have f2 := sU _ _ (s4 _ _ hb2)
      refine ⟨U, [.ref qs1[j], .ref qs2[j]], rfl, .inl (.inl upd_same), rfl, .ref qs1[j], [.ref qs2[j]], rfl, qs1[j], [.int a.1, .ref ca], rfl, .inl (.inl f1), rfl, .int a.1, [.ref ca], rfl, .ref ca, [], rfl, rfl, .ref qs2[j], [], rfl, qs2[j], [.int b.1, .ref cb], rfl, .inl (.inl f2), rfl, .int b.1, [.ref cb], rfl, .ref cb, [], rfl, rfl, rfl, rfl, ?_⟩
      refine ⟨.int a.1, rfl, .int b.1, rfl, .ref ca, rfl, .ref cb, rfl, (by show 2 ≤ sizeLine; decide), fun C hC => ⟨(by show 3 ≤ sizeLine; decide), fun T hT => ?_⟩⟩
      have sC := same_new (o := .tup [.ref ca, .ref cb]) hC
      have sT := same_new (o := .tup [.int a.1, .int b.1, .ref C]) hT
      have s5 := sU.trans (sC.trans sT)
      have eL5 := s5 _ _ eL
      have lt := awLen hts
      rw [List.length_take] at lt
      have hz : (r1.zip r2)[j]? = some (a, b) := by
        rw [List.getElem?_zip_eq_some]
        exact ⟨ha1, hb1⟩
      refine ⟨_, eL5, ?_, ts ++ [T], ?_, ?_, ?_⟩
      · rw [List.length_map]
        exact small1000 (by omega)
      · rw [upd_same, List.map_append]
        rfl
      · rw [List.take_add_one, hz]
        exact bsat2_stay (tups_put eL5) (awSnoc (F := BsE2 _) (y := (a, b)) ⟨C, ca, cb, upd_same, sT _ _ upd_same, s5 _ _ (s4 _ _ ha3), s5 _ _ (s4 _ _ hb3)⟩ (bsat2_stay (Same.tups s5) hts))
      · intro b' u e
        rw [upd_ne (ne_of_none e hL)]
        exact s5 _ _ (s4 _ _ e)
    · obtain ⟨ts, eL, hts, s4⟩ := h4
      have : (r1.zip r2).length = r1.length := by rw [List.length_zip, ← hl, Nat.min_self]
      rw [← this, List.take_length] at hts
      exact q H4 L ts s4 hL eL hts
/-! ### Walk.bits_to -/
abbrev sWalk_bits_to : Stmt := inClass c_Walk 2
theorem scWb : FnScope ["self", "number", "told", "bits"] ["self", "number"] (defScope sWalk_bits_to) := ⟨rfl, rfl, rfl, by decide +kernel, rfl, by decide +kernel, by decide +kernel⟩
/-- the bits on the way to a number: each way's own ahead is less -/
def pth (wy : List (Int × List Int)) : Nat → Nat → List (List Int)
  | 0, _ => []
  | f + 1, i => if i = 0 then [] else match wy[i]? with | some e => pth wy f e.1.toNat ++ [e.2] | none => []
def WayOk (wy : List (Int × List Int)) : Prop := ∀ (j : Nat) e, wy[j]? = some e → 0 < j → 0 ≤ e.1 ∧ e.1 < (j : Int)
theorem pth_fuel {wy : List (Int × List Int)} (h : WayOk wy) : ∀ (f g i : Nat), i ≤ f → i ≤ g → pth wy f i = pth wy g i
  | 0, 0, _, _, _ => rfl
  | 0, g + 1, i, h1, _ => by
    obtain rfl : i = 0 := by omega
    show [] = if (0 : Nat) = 0 then [] else _
    rw [if_pos rfl]
  | f + 1, 0, i, _, h1 => by
    obtain rfl : i = 0 := by omega
    show (if (0 : Nat) = 0 then [] else _) = []
    rw [if_pos rfl]
  | f + 1, g + 1, i, h1, h2 => by
    show (if i = 0 then [] else _) = (if i = 0 then [] else _)
    by_cases hi : i = 0
    · rw [if_pos hi, if_pos hi]
    · rw [if_neg hi, if_neg hi]
      cases e : wy[i]? with
      | none => rfl
      | some x =>
        have := h i x e (by omega)
        dsimp only
        rw [pth_fuel h f g x.1.toNat (by omega) (by omega)]
def path (wy : List (Int × List Int)) (i : Nat) : List (List Int) := pth wy i i
theorem path_zero (wy : List (Int × List Int)) : path wy 0 = [] := rfl
theorem path_next {wy : List (Int × List Int)} (h : WayOk wy) {i : Nat} {e : Int × List Int} (hi : 0 < i) (he : wy[i]? = some e) : path wy i = path wy e.1.toNat ++ [e.2] := by
  obtain ⟨k, rfl⟩ : ∃ k, i = k + 1 := ⟨i - 1, by omega⟩
  have := h _ e he hi
  show (if k + 1 = 0 then [] else match wy[k + 1]? with | some e => pth wy k e.1.toNat ++ [e.2] | none => []) = _
  rw [if_neg (by omega), he]
  show pth wy k e.1.toNat ++ [e.2] = _
  rw [pth_fuel h k e.1.toNat e.1.toNat (by omega) (Nat.le_refl _)]
  rfl
theorem awRev {α β : Type} {F : α → β → Prop} : ∀ {l : List α} {l2 : List β}, Paired F l l2 → Paired F l.reverse l2.reverse
  | _, _, .nil => .nil
  | _, _, .cons r t => by
    rw [List.reverse_cons, List.reverse_cons]
    exact awSnoc r (awRev t)
def spBtz (P : Program) (w : World) (C : Addr) : Sp := fun vs H Q _ => ∃ (p M N W : Addr) (ts : List WT) (wy : List (Int × List Int)) (i : Nat), vs = [.ref p, .int (i : Int)] ∧ WalkAt P w C H p M N W ts wy ∧ i < wy.length ∧ wy.length ≤ 1000000 ∧ WayOk wy ∧
  ∀ H' L bl, Same H H' → H L = none → H' L = some (.lst (bl.map V.ref)) → TAt H' bl (path wy i) → Q (.ref L) H'
set_option maxHeartbeats 1000000 in
theorem ok_bt {f C : Addr} {fd : FuncData} {k : Nat} (F : Fun K "bits_to" "Walk.bits_to" sWalk_bits_to f fd) (T : WCls K mg C) : FnOk P w K mg base CX0 (k + 1) f fd ["self", "number"] (spBtz P w C) := by
  refine F.ok scWb (fun vs H Q E h => ?_) (fun cdv A outer s H vs Q E hr h => ?_)
  · obtain ⟨p, M, N, W, ts, wy, i, rfl, _⟩ := h
    rfl
  · obtain ⟨p, M, N, W, ts, wy, i, rfl, hw, hi, hl, wok, q⟩ := h
    refine ⟨_, pss_cons (ps_set (i := 2) scWb.nd rfl (.inl rfl) (pe_lst pa_nil))
      (pss_cons (ps_while PassesOwn.never (pt_cmpR op_gt (pv 1) pe_int (nomark _))
        (pss_cons (ps_asg (pe_ix ix_list (pe_fld (pv 0) rfl) (pv 1) (fun _ _ => rfl)) (pg_tup rfl (pgs_cons (pg_name (i := 1) scWb.nd rfl (.inl rfl)) (pgs_cons (pg_name (i := 3) scWb.nd rfl (.inl rfl)) pgs_nil))))
        (pss_one (ps_expr (pe_bm PySem.F.plainAttrs_list PySem.F.slot_list_append PySem.F.type_list_append mt_append (pv 2) (pa_cons (pv 3) pa_nil))))))
      (pss_one (ps_ret (pe_rev (pv 2) (pe_un un_neg pe_int))))), ?_⟩
    refine ⟨Nat.zero_le _, fun L hL => ?_⟩
    have sL := same_new (o := .lst []) hL
    refine ⟨fun n σ H3 => ∃ (y3 : Option V) (j : Nat) (acc : List (List Int)) (bl : List Addr), n = j ∧ σ = [some (.ref p), some (.int (j : Int)), some (.ref L), y3] ∧ j < wy.length ∧ path wy i = path wy j ++ acc.reverse ∧ acc.length + j ≤ i ∧ H3 L = some (.lst (bl.map V.ref)) ∧ TAt H3 bl acc ∧ Same H H3, ⟨i, none, i, [], [], rfl, rfl, hi, (by rw [List.reverse_nil, List.append_nil]), by simp, upd_same, .nil, sL⟩, fun n σ H3 hp => ?_⟩
    obtain ⟨y3, j, acc, bl, hnj, rfl, hj, hpth, hacc, eL, hbl, s3⟩ := hp
    refine ⟨.int (j : Int), rfl, _, 0, rfl, rfl, _, rfl, ite2 (fun e => ?_) (fun e => ?_)⟩
    · have hj0 : 0 < j := by
        have := of_decide_eq_true e
        omega
      have hw3 := hw.same s3
      obtain ⟨dxw, ob3⟩ := hw3.ob
      obtain ⟨ws, eW, hws⟩ := hw3.ways
      obtain ⟨x, hx, bb, hx2, hx3⟩ := awGet2 hws (List.getElem?_eq_getElem hj)
      have wk := wok j wy[j] (List.getElem?_eq_getElem hj) hj0
      have hat : atI (ws.map V.ref) (j : Int) = some (.ref x) := atI_nat (by rw [List.getElem?_map, hx]; rfl)
      refine ⟨fun σ' H' => ∃ m', m' < n ∧ ∃ (y3 : Option V) (j : Nat) (acc : List (List Int)) (bl : List Addr), m' = j ∧ σ' = [some (.ref p), some (.int (j : Int)), some (.ref L), y3] ∧ j < wy.length ∧ path wy i = path wy j ++ acc.reverse ∧ acc.length + j ≤ i ∧ H' L = some (.lst (bl.map V.ref)) ∧ TAt H' bl acc ∧ Same H H', fun σ' H' h => h, ?_⟩
      refine ⟨.ref p, rfl, p, C, dxw, _, _, rfl, ob3, T.cl, T.nW, wF_ways _ _ _, .int (j : Int), rfl, W, _, (j : Int), .ref x, rfl, rfl, .inl (.inl eW), hat, x, [.int wy[j].1, .ref bb], rfl, .inl (.inl hx2), rfl, .int wy[j].1, [.ref bb], rfl, .ref bb, [], rfl, rfl, ?_⟩
      have lb := awLen hbl
      refine ⟨.ref L, rfl, .inl ⟨rfl, _, .inl (.inl eL)⟩, .ref bb, rfl, L, _, _, rfl, rfl, eL, ?_, wy[j].1.toNat, by omega, some (.ref bb), wy[j].1.toNat, acc ++ [wy[j].2], bl ++ [bb], rfl, ?_, by omega, ?_, ?_, ?_, ?_, ?_⟩
      · rw [List.length_map, sizeLine_eq]
        omega
      · have : ((wy[j].1.toNat : Nat) : Int) = wy[j].1 := by omega
        rw [this]
        rfl
      · rw [hpth, path_next wok hj0 (List.getElem?_eq_getElem hj), List.reverse_append, List.append_assoc]
        rfl
      · rw [List.length_append]
        show acc.length + 1 + _ ≤ i
        omega
      · rw [upd_same, List.map_append]
        rfl
      · exact tat_stay (tups_put eL) (awSnoc (F := fun (f : Addr) (b : List Int) => H3 f = some (.tup (b.map V.int))) hx3 hbl)
      · intro b u z
        rw [upd_ne (ne_of_none z hL)]
        exact s3 _ _ z
    · have hj0 : j = 0 := by
        have : ¬ ((j : Int) > 0) := fun z => e (decide_eq_true z)
        omega
      subst hj0
      rw [path_zero, List.nil_append] at hpth
      refine ⟨.ref L, rfl, _, rfl, L, _, rfl, rfl, .inl (.inl eL), fun Z hZ => ?_⟩
      have sZ := same_new (o := .lst (bl.map V.ref).reverse) hZ
      refine q _ Z bl.reverse (s3.trans sZ) (s3.free hZ) ?_ ?_
      · rw [upd_same, List.map_reverse]
      · rw [hpth]
        exact tat_stay (Same.tups sZ) (awRev hbl)
/-! ### words_of -/
def colW : List (List Int) → Nat → Int
  | [], _ => 0
  | c :: cs, j => c.getD j 0 + 2 * colW cs j
theorem colW_snoc (c : List Int) (j : Nat) : ∀ cs : List (List Int), colW (cs ++ [c]) j = colW cs j + c.getD j 0 * 2 ^ cs.length
  | [] => by
    show c.getD j 0 + 2 * 0 = 0 + c.getD j 0 * 1
    omega
  | d :: cs => by
    show d.getD j 0 + 2 * colW (cs ++ [c]) j = d.getD j 0 + 2 * colW cs j + c.getD j 0 * 2 ^ (cs.length + 1)
    have e : c.getD j 0 * 2 ^ (cs.length + 1) = 2 * (c.getD j 0 * 2 ^ cs.length) := by rw [Int.pow_succ, ← Int.mul_assoc, Int.mul_comm]
    rw [colW_snoc c j cs, e]
    omega
/-- the words whose bits are told by columns -/
def wofL (m : Nat) (cs : List (List Int)) : List Int := (List.range m).map (colW cs)
theorem wofL_len (m : Nat) (cs : List (List Int)) : (wofL m cs).length = m := by
  unfold wofL
  rw [List.length_map, List.length_range]
/-- the first so many words have taken in a further column -/
def wofP (m : Nat) (cs : List (List Int)) (c : List Int) (k : Nat) : List Int := (List.range m).map fun j => if j < k then colW (cs ++ [c]) j else colW cs j
theorem wofP_zero (m : Nat) (cs : List (List Int)) (c : List Int) : wofP m cs c 0 = wofL m cs := by
  unfold wofP wofL
  exact List.map_congr_left fun j _ => if_neg (Nat.not_lt_zero _)
theorem wofP_all (m : Nat) (cs : List (List Int)) (c : List Int) : wofP m cs c m = wofL m (cs ++ [c]) := by
  unfold wofP wofL
  exact List.map_congr_left fun j hj => if_pos (List.mem_range.mp hj)
theorem wofP_next {m : Nat} {cs : List (List Int)} {c : List Int} {k : Nat} (hk : k < m) : wofP m cs c (k + 1) = (wofP m cs c k).set k (colW cs k + c.getD k 0 * 2 ^ cs.length) := by
  have l : ∀ n, (wofP m cs c n).length = m := fun n => by
    unfold wofP
    rw [List.length_map, List.length_range]
  refine List.ext_getElem? fun i => ?_
  by_cases hi : i < m
  · by_cases e : i = k
    · subst e
      rw [List.getElem?_set_self (by rw [l]; exact hi)]
      unfold wofP
      rw [List.getElem?_map, List.getElem?_range hi]
      show some (if i < i + 1 then _ else _) = _
      rw [if_pos (by omega), colW_snoc]
    · rw [List.getElem?_set_ne (by omega)]
      unfold wofP
      rw [List.getElem?_map, List.getElem?_map, List.getElem?_range hi]
      show some (if i < k + 1 then _ else _) = some (if i < k then _ else _)
      by_cases h2 : i < k
      · rw [if_pos (by omega), if_pos h2]
      · rw [if_neg (by omega), if_neg h2]
  · rw [List.getElem?_eq_none (by rw [l]; omega), List.getElem?_eq_none (by rw [List.length_set, l]; omega)]
def rIxN (K : PySem.W.Frag) : V → V → Hp → VK → Prop := fun x y H Q => ∃ p xs i v, x = .ref p ∧ y = .int i ∧ 0 ≤ i ∧ SqL K H p xs ∧ atI xs i = some v ∧ Q v H
theorem get_listN {X : Cx} : PGet X (rIxN X.K) := by
  intro pins s σ H o i ov iv Q I ro ri h
  obtain ⟨p, xs, i, z, rfl, rfl, h0, hq, he, q⟩ := h
  cases ro
  obtain ⟨t, rfl⟩ := ri
  obtain ⟨its, r, pl, hz⟩ := I.list hq
  obtain ⟨j, h1, h2, h3, h4, h5⟩ := atI_get he
  obtain ⟨w, ew, rw'⟩ := r.get h2
  have hl := r.length
  have hn := line63
  have fin : EP X pins σ Q w s := ⟨z, H, I, rw', q⟩
  have hj : i.toNat = j := by
    rw [seqIndex_of h0 h5] at h1
    exact Option.some.inj h1
  exact wpAny_getItem_list pl.isList h0 (by omega) (by rw [hj]; simpa using ew) fin
def spWf : Sp := fun vs H Q _ => ∃ (m : Nat) (L : Addr) (bl : List Addr) (cols : List (List Int)), vs = [.int (m : Int), .ref L] ∧ m ≤ 3 ∧ H L = some (.lst (bl.map V.ref)) ∧ TAt H bl cols ∧ cols.length ≤ 1000000 ∧ (∀ c ∈ cols, c.length = m ∧ ∀ x ∈ c, Bit x) ∧
  ∀ H' p, Same H H' → H p = none → H' p = some (.lst ((wofL m cols).map V.int)) → Q (.ref p) H'
set_option maxHeartbeats 1000000 in
theorem ok_wf {f : Addr} {fd : FuncData} {k : Nat} (F : Fun K "words_of" "words_of" s_words_of f fd) (me : mg "enumerate" = none) : FnOk P w K mg base CX0 (k + 1) f fd ["many", "columns"] spWf := by
  refine F.ok sc_words_of (fun vs H Q E h => ?_) (fun cdv A outer s H vs Q E hr h => ?_)
  · obtain ⟨m, L, bl, cols, rfl, _⟩ := h
    rfl
  · obtain ⟨m, L, bl, cols, rfl, m3, eL, hbl, hcl, hco, q⟩ := h
    refine ⟨_, pss_cons (ps_set (i := 2) sc_words_of.nd rfl (.inl rfl) (pe_op op_rep (pe_lst (pa_cons pe_int pa_nil)) (pv 0)))
      (pss_cons (ps_for PassesOwn.never rfl (pi_enum (by rfl) me (pa_cons (pv 1) pa_nil)) (pg_tup rfl (pgs_cons (pg_name (i := 3) sc_words_of.nd rfl (.inl rfl)) (pgs_cons (pg_name (i := 4) sc_words_of.nd rfl (.inl rfl)) pgs_nil)))
        (pss_one (ps_for PassesOwn.never rfl (pi_enumT (by rfl) me (pa_cons (pv 4) pa_nil)) (pg_tup rfl (pgs_cons (pg_name (i := 5) sc_words_of.nd rfl (.inl rfl)) (pgs_cons (pg_name (i := 6) sc_words_of.nd rfl (.inl rfl)) pgs_nil)))
          (pss_one (ps_augS (pv 2) (pv 5) get_listN (pe_op op_shl (pv 6) (pv 3)) ip_add set_list)))))
      (pss_one (ps_ret (pv 2)))), ?_⟩
    refine ⟨(by show 1 ≤ sizeLine; decide), fun Z hZ => ?_⟩
    have sZ := same_new (o := .lst [.int 0]) hZ
    refine ⟨.int (m : Int), rfl, Z, (m : Int), _, rfl, rfl, upd_same, by omega, by omega, ?_, fun Wl hWl => ?_⟩
    · show 1 * (m : Int).toNat ≤ sizeLine
      rw [sizeLine_eq]
      omega
    have e0 : (List.replicate (m : Int).toNat [V.int 0]).flatten = (wofL m []).map V.int := by
      rw [Int.toNat_natCast]
      have hm : m = 0 ∨ m = 1 ∨ m = 2 ∨ m = 3 := by omega
      rcases hm with rfl | rfl | rfl | rfl <;> rfl
    rw [e0]
    have sW := sZ.trans (same_new (o := .lst ((wofL m []).map V.int)) hWl)
    have nW : H Wl = none := sZ.free hWl
    have bll := awLen hbl
    have nLW : L ≠ Wl := ne_of_none eL nW
    refine ⟨.ref L, rfl, L, _, rfl, .inl (.inl (sW _ _ eL)), for_it (walk_enum (K := K) (a := L) (xs := bl.map V.ref)) (fun t σ H3 => ∃ y3 y4 y5 y6, σ = [some (.int (m : Int)), some (.ref L), some (.ref Wl), y3, y4, y5, y6] ∧ H3 Wl = some (.lst ((wofL m (cols.take t)).map V.int)) ∧ Same H H3)
      ⟨none, none, none, none, rfl, upd_same, sW⟩ (fun t σ H3 _ hp => ?_) (fun t x σ H3 H4 ht hp hy => ?_) (fun σ H3 hp => ?_)⟩
    · obtain ⟨_, _, _, _, _, _, s3⟩ := hp
      exact .inl (.inl (s3 _ _ eL))
    · obtain ⟨y3, y4, y5, y6, rfl, eW, s3⟩ := hp
      obtain ⟨U, x1, x2, rfl, hU, rfl, g1, g2⟩ := hy
      obtain rfl : V.int (t : Nat) = x1 := Option.some.inj g1
      have ht2 : t < bl.length := by rwa [List.length_map] at ht
      have hx2 : x2 = .ref bl[t] := by
        have g2' : (bl.map V.ref)[t]? = some x2 := g2
        rw [List.getElem?_map, List.getElem?_eq_getElem ht2] at g2'
        exact (Option.some.inj g2').symm
      subst hx2
      obtain ⟨c, hc1, hc2⟩ := awGet hbl (List.getElem?_eq_getElem ht2)
      have hc2' : H bl[t] = some (.tup (c.map V.int)) := hc2
      obtain ⟨cl, cb⟩ := hco c (List.mem_of_getElem? hc1)
      have tl : (cols.take t).length = t := by rw [List.length_take]; omega
      have sU := same_new (o := .tup [.int (t : Nat), .ref bl[t]]) hU
      have eB := sU _ _ (s3 _ _ hc2')
      have eW4 := sU _ _ eW
      obtain ⟨r, hr'⟩ : ∃ r, r = bl[t] := ⟨_, rfl⟩
      have eU : upd H3 U (.tup [.int (t : Nat), .ref r]) U = some (.tup [.int (t : Nat), .ref r]) := upd_same
      rw [← hr'] at eB eW4 sU ⊢
      obtain ⟨H4, hH4⟩ : ∃ H4, H4 = upd H3 U (.tup [.int (t : Nat), .ref r]) := ⟨_, rfl⟩
      rw [← hH4] at eB eW4 sU eU ⊢
      refine ⟨U, [.int (t : Nat), .ref r], rfl, .inl (.inl eU), rfl, .int (t : Nat), [.ref r], rfl, .ref r, [], rfl, rfl, ?_⟩
      refine ⟨.ref r, rfl, r, _, rfl, SqT.of eB, for_it (walk_enumT (K := K) (a := r) (xs := c.map V.int)) (fun j σ H5 => ∃ y5 y6, σ = [some (.int (m : Int)), some (.ref L), some (.ref Wl), some (.int (t : Nat)), some (.ref r), y5, y6] ∧ H5 Wl = some (.lst ((wofP m (cols.take t) c j).map V.int)) ∧ ∀ b u, b ≠ Wl → H4 b = some u → H5 b = some u)
        ⟨y5, y6, rfl, by rw [wofP_zero]; exact eW4, fun _ _ _ e => e⟩ (fun j σ H5 _ hp => ?_) (fun j x σ H5 H6 hj hp hy => ?_) (fun σ H5 hp => ?_)⟩
      · obtain ⟨_, _, _, _, st⟩ := hp
        exact SqT.of (st _ _ (ne_of eB eW4 (fun z => nomatch z)) eB)
      · obtain ⟨y5, y6, rfl, eW5, st⟩ := hp
        obtain ⟨V1, x1, x2, rfl, hV, rfl, g1, g2⟩ := hy
        obtain rfl : V.int (j : Nat) = x1 := Option.some.inj g1
        have hj2 : j < c.length := by rwa [List.length_map] at hj
        have hjm : j < m := by omega
        have hx2 : x2 = .int c[j] := by
          have g2' : (c.map V.int)[j]? = some x2 := g2
          rw [List.getElem?_map, List.getElem?_eq_getElem hj2] at g2'
          exact (Option.some.inj g2').symm
        subst hx2
        have cj : c.getD j 0 = c[j] := by rw [List.getD_eq_getElem?_getD, List.getElem?_eq_getElem hj2]; rfl
        have bj := cb _ (List.getElem_mem hj2)
        have sV := same_new (o := .tup [.int (j : Nat), .int c[j]]) hV
        have eW6 := sV _ _ eW5
        have wl : (wofP m (cols.take t) c j).length = m := by
          unfold wofP
          rw [List.length_map, List.length_range]
        have wj : (wofP m (cols.take t) c j).getD j 0 = colW (cols.take t) j := by
          unfold wofP
          rw [List.getD_eq_getElem?_getD, List.getElem?_map, List.getElem?_range hjm]
          show (if j < j then _ else _) = _
          rw [if_neg (Nat.lt_irrefl _)]
        have hat := atI_ints (l := wofP m (cols.take t) c j) (o := (j : Int)) (by omega) (by omega)
        rw [Int.toNat_natCast, wj] at hat
        refine ⟨V1, [.int (j : Nat), .int c[j]], rfl, .inl (.inl upd_same), rfl, .int (j : Nat), [.int c[j]], rfl, .int c[j], [], rfl, rfl, ?_⟩
        refine ⟨.ref Wl, rfl, .int (j : Nat), rfl, Wl, _, (j : Int), _, rfl, rfl, by omega, .inl (.inl eW6), hat, .int c[j], rfl, .int (t : Nat), rfl, _, _, rfl, rfl, ⟨by omega, by omega, ?_⟩, _, _, rfl, rfl, Wl, _, (j : Int), j, rfl, rfl, eW6, ?_, some (.int (j : Nat)), some (.int c[j]), rfl, ?_, fun b u nb e => ?_⟩
        · rcases bj with e | e <;> rw [e] <;> decide
        · unfold ixN
          rw [List.length_map, wl, if_pos (by omega), if_pos (by omega)]
          rfl
        · rw [upd_same, wofP_next hjm, tl, cj, List.map_set]
          rfl
        · rw [upd_ne nb]
          exact sV _ _ (st b u nb e)
      · obtain ⟨y5', y6', rfl, eW5, st⟩ := hp
        rw [List.length_map, cl, wofP_all] at eW5
        refine ⟨_, _, _, _, rfl, ?_, fun b u e => st _ _ (ne_of_none e nW) (sU _ _ (s3 _ _ e))⟩
        rw [List.take_add_one, hc1]
        exact eW5
    · obtain ⟨y3, y4, y5, y6, rfl, eW, s3⟩ := hp
      rw [List.length_map, bll, List.take_length] at eW
      exact ⟨.ref Wl, rfl, q _ Wl s3 nW eW⟩
/-! ### words told by columns: their bits, the carries on the way -/
theorem colW_range {j : Nat} : ∀ {cs : List (List Int)}, (∀ c ∈ cs, Bit (c.getD j 0)) → 0 ≤ colW cs j ∧ colW cs j < 2 ^ cs.length
  | [], _ => ⟨Int.le_refl _, by show (0 : Int) < 1; decide⟩
  | c :: cs, h => by
    obtain ⟨a, b⟩ := colW_range (cs := cs) fun x hx => h x (List.mem_cons_of_mem _ hx)
    have hb := h c List.mem_cons_self
    have e : (2 : Int) ^ (c :: cs).length = 2 * 2 ^ cs.length := by rw [List.length_cons, Int.pow_succ, Int.mul_comm]
    rw [e]
    show 0 ≤ c.getD j 0 + 2 * colW cs j ∧ c.getD j 0 + 2 * colW cs j < 2 * 2 ^ cs.length
    rcases hb with z | z <;> rw [z] <;> omega
theorem colW_bit {j : Nat} : ∀ {cs : List (List Int)} {t : Nat} {c : List Int}, (∀ c ∈ cs, Bit (c.getD j 0)) → cs[t]? = some c → bitA t (colW cs j) = c.getD j 0
  | [], _, _, _, e => by simp at e
  | c :: cs, 0, d, h, e => by
    obtain rfl : c = d := Option.some.inj e
    have hb := h c List.mem_cons_self
    show (c.getD j 0 + 2 * colW cs j) / 1 % 2 = c.getD j 0
    rcases hb with z | z <;> rw [z] <;> omega
  | c :: cs, t + 1, d, h, e => by
    have ih := colW_bit (cs := cs) (t := t) (c := d) (j := j) (fun x hx => h x (List.mem_cons_of_mem _ hx)) (by simpa using e)
    have hb := h c List.mem_cons_self
    rw [← ih]
    unfold bitA
    show (c.getD j 0 + 2 * colW cs j) / 2 ^ (t + 1) % 2 = colW cs j / 2 ^ t % 2
    have e2 : (2 : Int) ^ (t + 1) = 2 * 2 ^ t := by rw [Int.pow_succ, Int.mul_comm]
    rw [e2, ← Int.ediv_ediv_of_nonneg (by decide)]
    have e3 : (c.getD j 0 + 2 * colW cs j) / 2 = colW cs j := by rcases hb with z | z <;> rw [z] <;> omega
    rw [e3]
theorem wofL_bits {m t : Nat} {cs : List (List Int)} {c : List Int} (h : ∀ c ∈ cs, c.length = m ∧ ∀ x ∈ c, Bit x) (e : cs[t]? = some c) : (wofL m cs).map (bitA t) = c := by
  have bt : ∀ (j : Nat) c, c ∈ cs → Bit (c.getD j 0) := fun j c hc => by
    rw [List.getD_eq_getElem?_getD]
    cases e : c[j]? with
    | none => exact bit0
    | some y => exact (h c hc).2 y (List.mem_of_getElem? e)
  obtain ⟨cl, _⟩ := h c (List.mem_of_getElem? e)
  refine List.ext_getElem? fun i => ?_
  unfold wofL
  rw [List.map_map, List.getElem?_map]
  by_cases hi : i < m
  · rw [List.getElem?_range hi]
    show some (bitA t (colW cs i)) = c[i]?
    rw [colW_bit (fun c hc => bt i c hc) e, List.getElem?_eq_getElem (by omega), List.getD_eq_getElem?_getD, List.getElem?_eq_getElem (by omega)]
    rfl
  · rw [List.getElem?_eq_none (by rw [List.length_range]; omega), List.getElem?_eq_none (by omega)]
    rfl
theorem wofL_range {m : Nat} {cs : List (List Int)} (h : ∀ c ∈ cs, c.length = m ∧ ∀ x ∈ c, Bit x) : ∀ x ∈ wofL m cs, 0 ≤ x ∧ x < 2 ^ cs.length := by
  intro x hx
  obtain ⟨j, _, rfl⟩ := List.mem_map.mp hx
  refine colW_range fun c hc => ?_
  rw [List.getD_eq_getElem?_getD]
  cases e : c[j]? with
  | none => exact bit0
  | some y => exact (h c hc).2 y (List.mem_of_getElem? e)
/-- the carry behind some columns -/
def runC (ds : List Deed) : List Int → List (List Int) → List Int
  | c, [] => c
  | c, b :: bs => runC ds (nc ds c b) bs
theorem runC_snoc (ds : List Deed) (b : List Int) : ∀ (bs : List (List Int)) (c : List Int), runC ds c (bs ++ [b]) = nc ds (runC ds c bs) b
  | [], _ => rfl
  | x :: bs, c => runC_snoc ds b bs (nc ds c x)
theorem crry_run {m : Nat} {ds : List Deed} {cs : List (List Int)} (h : ∀ c ∈ cs, c.length = m ∧ ∀ x ∈ c, Bit x) : ∀ t, t ≤ cs.length → crry ds (wofL m cs) t = runC ds (ds.map fcD) (cs.take t)
  | 0, _ => rfl
  | t + 1, ht => by
    have e : cs[t]? = some cs[t] := List.getElem?_eq_getElem (by omega)
    rw [List.take_add_one, e]
    show nxt ds (crry ds (wofL m cs) t) (bts ds (crry ds (wofL m cs) t) ((wofL m cs).map (bitA t))) = runC ds (ds.map fcD) (cs.take t ++ [cs[t]])
    rw [runC_snoc, crry_run h t (by omega), wofL_bits h e]
    rfl
/-! ### pairs of carries walked through by breadth: what it shows -/
abbrev PC := List Int × List Int
def dep (wy : List (Int × List Int)) (i : Nat) : Nat := (path wy i).length
/-- the pair behind a pair -/
def nx2 (ds1 ds2 : List Deed) (q : PC) (bs : List Int) : PC := (nc ds1 q.1 bs, nc ds2 q.2 bs)
structure Bfs (m : Nat) (ds1 : List Deed) (o1 : Int) (ds2 : List Deed) (o2 : Int) (ps : List PC) (wy : List (Int × List Int)) (cu : Nat) : Prop where
  first : ps[0]? = some (ds1.map fcD, ds2.map fcD)
  ways : WayOk wy
  len : wy.length = ps.length
  link : ∀ (j : Nat) e, wy[j]? = some e → 0 < j → e.2 ∈ allB m ∧ ∃ q, ps[e.1.toNat]? = some q ∧ ps[j]? = some (nx2 ds1 ds2 q e.2)
  done : ∀ (i : Nat) q, i < cu → ps[i]? = some q → ∀ bs ∈ allB m, ob ds1 o1 q.1 bs = ob ds2 o2 q.2 bs ∧ ∃ i' : Nat, ps[i']? = some (nx2 ds1 ds2 q bs) ∧ dep wy i' ≤ dep wy i + 1
  mono : ∀ i j : Nat, i ≤ j → j < ps.length → dep wy i ≤ dep wy j
theorem bfs_path {m : Nat} {ds1 ds2 : List Deed} {o1 o2 : Int} {ps : List PC} {wy : List (Int × List Int)} {cu : Nat} (h : Bfs m ds1 o1 ds2 o2 ps wy cu) : ∀ (n i : Nat) q, i ≤ n → ps[i]? = some q → (∀ b ∈ path wy i, b ∈ allB m) ∧ q = (runC ds1 (ds1.map fcD) (path wy i), runC ds2 (ds2.map fcD) (path wy i))
  | n, 0, q, _, hq => by
    rw [h.first] at hq
    obtain rfl := Option.some.inj hq
    exact ⟨(fun _ z => nomatch z), rfl⟩
  | 0, i + 1, q, hi, _ => by omega
  | n + 1, i + 1, q, hi, hq => by
    have hl : i + 1 < wy.length := by
      rw [h.len]
      exact (List.getElem?_eq_some_iff.mp hq).1
    have he : wy[i + 1]? = some wy[i + 1] := List.getElem?_eq_getElem hl
    obtain ⟨hb, q0, hq0, hq1⟩ := h.link _ _ he (by omega)
    have wk := h.ways _ _ he (by omega)
    obtain ⟨ih1, ih2⟩ := bfs_path h n wy[i + 1].1.toNat q0 (by omega) hq0
    rw [hq] at hq1
    obtain rfl := Option.some.inj hq1
    rw [path_next h.ways (by omega) he]
    refine ⟨fun b hb' => ?_, ?_⟩
    · rcases List.mem_append.mp hb' with z | z
      · exact ih1 b z
      · rw [List.mem_singleton.mp z]
        exact hb
    · rw [runC_snoc, runC_snoc, ih2]
      rfl
/-- whoever is reached in fewer steps than the current one has been looked at -/
theorem bfs_below {m : Nat} {ds1 ds2 : List Deed} {o1 o2 : Int} {ps : List PC} {wy : List (Int × List Int)} {cu : Nat} (h : Bfs m ds1 o1 ds2 o2 ps wy cu) (hc : cu < ps.length) (cols : Nat → List Int) (hcols : ∀ t, cols t ∈ allB m) {pc : Nat → PC} (h0 : pc 0 = (ds1.map fcD, ds2.map fcD)) (hs : ∀ t, pc (t + 1) = nx2 ds1 ds2 (pc t) (cols t)) :
    ∀ t, t ≤ dep wy cu → ∃ i : Nat, ps[i]? = some (pc t) ∧ dep wy i ≤ t
  | 0, _ => ⟨0, by rw [h0]; exact h.first, Nat.le_refl _⟩
  | t + 1, ht => by
    obtain ⟨i, hi, hd⟩ := bfs_below h hc cols hcols h0 hs t (by omega)
    have lt : i < cu := by
      by_cases hh : i < cu
      · exact hh
      · have := h.mono cu i (by omega) (List.getElem?_eq_some_iff.mp hi).1
        omega
    obtain ⟨_, i', hi', hd'⟩ := h.done i _ lt hi (cols t) (hcols t)
    exact ⟨i', by rw [hs]; exact hi', by omega⟩
theorem bfs_agree {m : Nat} {ds1 ds2 : List Deed} {o1 o2 : Int} {ps : List PC} {wy : List (Int × List Int)} {cu : Nat} (h : Bfs m ds1 o1 ds2 o2 ps wy cu) (hc : cu < ps.length) (cols : Nat → List Int) (hcols : ∀ t, cols t ∈ allB m) {pc : Nat → PC} (h0 : pc 0 = (ds1.map fcD, ds2.map fcD)) (hs : ∀ t, pc (t + 1) = nx2 ds1 ds2 (pc t) (cols t)) {t : Nat} (ht : t < dep wy cu) :
    ob ds1 o1 (pc t).1 (cols t) = ob ds2 o2 (pc t).2 (cols t) := by
  obtain ⟨i, hi, hd⟩ := bfs_below h hc cols hcols h0 hs t (by omega)
  have lt : i < cu := by
    by_cases hh : i < cu
    · exact hh
    · have := h.mono cu i (by omega) (List.getElem?_eq_some_iff.mp hi).1
      omega
  exact (h.done i _ lt hi (cols t) (hcols t)).1
/-! ### what a walk by breadth shows of worths -/
theorem ob_bit {m n t : Nat} {ds : List Deed} {o : Int} {xs : List Int} (ok : RowOk m ds o) (hm : xs.length = m) (hx : ∀ x ∈ xs, 0 ≤ x ∧ x < 2 ^ n) (ht : t < n) : ob ds o (crry ds xs t) (xs.map (bitA t)) = bitA t ((vals (2 ^ n) ds xs).getD o.toNat 0) := by
  have vl := vals_len (size := 2 ^ n) ds xs
  have o0 := ok.o0
  have o1 := ok.o1
  have m1 := ok.m1
  have ol : o.toNat < (vals (2 ^ n) ds xs).length := by
    rw [vl, hm]
    omega
  unfold ob
  rw [crry_bits ok.deeds hm (by omega) hx ht, List.getD_eq_getElem?_getD, List.getD_eq_getElem?_getD, List.getElem?_map, List.getElem?_eq_getElem ol]
  rfl
theorem wr_range {m n : Nat} {ds : List Deed} {o : Int} {xs : List Int} (ok : RowOk m ds o) (hm : xs.length = m) (hx : ∀ x ∈ xs, 0 ≤ x ∧ x < 2 ^ n) : (vals (2 ^ n) ds xs).getD o.toNat 0 % 2 ^ n = (vals (2 ^ n) ds xs).getD o.toNat 0 := by
  have vl := vals_len (size := 2 ^ n) ds xs
  have o0 := ok.o0
  have o1 := ok.o1
  have ol : o.toNat < (vals (2 ^ n) ds xs).length := by
    rw [vl, hm]
    omega
  rw [List.getD_eq_getElem?_getD, List.getElem?_eq_getElem ol]
  obtain ⟨a, b⟩ := vals_range (pw_pos n) ds xs hx _ (List.getElem_mem ol)
  exact Int.emod_eq_of_lt a b
theorem cols_in {m : Nat} {xs : List Int} (hm : xs.length = m) (t : Nat) : xs.map (bitA t) ∈ allB m := allB_all m _ (by rw [List.length_map, hm]) fun x hx => by
  obtain ⟨y, _, rfl⟩ := List.mem_map.mp hx
  exact bitA_bit t y
/-- at no lesser width do the rows part -/
theorem bfs_least {m : Nat} {ds1 ds2 : List Deed} {o1 o2 : Int} {ps : List PC} {wy : List (Int × List Int)} {cu : Nat} (h : Bfs m ds1 o1 ds2 o2 ps wy cu) (hc : cu < ps.length) (ok1 : RowOk m ds1 o1) (ok2 : RowOk m ds2 o2) {n : Nat} (hn : n ≤ dep wy cu) {xs : List Int} (hm : xs.length = m) (hx : ∀ x ∈ xs, 0 ≤ x ∧ x < 2 ^ n) :
    (vals (2 ^ n) ds1 xs).getD o1.toNat 0 = (vals (2 ^ n) ds2 xs).getD o2.toNat 0 := by
  have e := bits_eq (v := (vals (2 ^ n) ds1 xs).getD o1.toNat 0) (u := (vals (2 ^ n) ds2 xs).getD o2.toNat 0) n fun t ht => by
    rw [← ob_bit ok1 hm hx ht, ← ob_bit ok2 hm hx ht]
    exact bfs_agree h hc (fun t => xs.map (bitA t)) (cols_in hm) (pc := fun t => (crry ds1 xs t, crry ds2 xs t)) rfl (fun _ => rfl) (by omega)
  rwa [wr_range ok1 hm hx, wr_range ok2 hm hx] at e
/-- where the bits are unlike, the words told part the rows -/
theorem bfs_apart {m : Nat} {ds1 ds2 : List Deed} {o1 o2 : Int} {ps : List PC} {wy : List (Int × List Int)} {cu : Nat} {q : PC} {bs : List Int} (h : Bfs m ds1 o1 ds2 o2 ps wy cu) (hq : ps[cu]? = some q) (ok1 : RowOk m ds1 o1) (ok2 : RowOk m ds2 o2) (hb : bs ∈ allB m) (hne : ¬ ob ds1 o1 q.1 bs = ob ds2 o2 q.2 bs) :
    (∀ c ∈ path wy cu ++ [bs], c.length = m ∧ ∀ x ∈ c, Bit x) ∧ ¬ (vals (2 ^ (path wy cu ++ [bs]).length) ds1 (wofL m (path wy cu ++ [bs]))).getD o1.toNat 0 = (vals (2 ^ (path wy cu ++ [bs]).length) ds2 (wofL m (path wy cu ++ [bs]))).getD o2.toNat 0 := by
  obtain ⟨p1, p2⟩ := bfs_path h cu cu q (Nat.le_refl _) hq
  have hall : ∀ c ∈ path wy cu ++ [bs], c.length = m ∧ ∀ x ∈ c, Bit x := fun c hc => by
    rcases List.mem_append.mp hc with z | z
    · exact allB_ok m c (p1 c z)
    · rw [List.mem_singleton.mp z]
      exact allB_ok m bs hb
  refine ⟨hall, fun e => hne ?_⟩
  have hl : (path wy cu ++ [bs]).length = (path wy cu).length + 1 := by rw [List.length_append]; rfl
  have hx := wofL_range hall
  have hm := wofL_len m (path wy cu ++ [bs])
  have hg : (path wy cu ++ [bs])[(path wy cu).length]? = some bs := by rw [List.getElem?_append_right (Nat.le_refl _), Nat.sub_self]; rfl
  have b1 := ob_bit (t := (path wy cu).length) ok1 hm hx (by omega)
  have b2 := ob_bit (t := (path wy cu).length) ok2 hm hx (by omega)
  rw [crry_run hall _ (by omega), wofL_bits hall hg, List.take_left] at b1 b2
  rw [p2, b1, b2, e]
/-! ### a walk by breadth, step by step -/
theorem pth_app {wy : List (Int × List Int)} (h : WayOk wy) (e : Int × List Int) : ∀ (f i : Nat), i < wy.length → pth (wy ++ [e]) f i = pth wy f i
  | 0, _, _ => rfl
  | f + 1, i, hi => by
    show (if i = 0 then [] else _) = (if i = 0 then [] else _)
    by_cases h0 : i = 0
    · rw [if_pos h0, if_pos h0]
    · rw [if_neg h0, if_neg h0, List.getElem?_append_left hi]
      have he : wy[i]? = some wy[i] := List.getElem?_eq_getElem hi
      have := h i _ he (by omega)
      rw [he]
      have hh := pth_app h e f wy[i].1.toNat (by omega)
      dsimp only
      rw [hh]
theorem path_app {wy : List (Int × List Int)} (h : WayOk wy) (e : Int × List Int) {i : Nat} (hi : i < wy.length) : path (wy ++ [e]) i = path wy i := pth_app h e i i hi
theorem dep_app {wy : List (Int × List Int)} (h : WayOk wy) (e : Int × List Int) {i : Nat} (hi : i < wy.length) : dep (wy ++ [e]) i = dep wy i := congrArg List.length (path_app h e hi)
/-- the current one is being looked at, by the first so many bits -/
structure BfsP (m : Nat) (ds1 : List Deed) (o1 : Int) (ds2 : List Deed) (o2 : Int) (ps : List PC) (wy : List (Int × List Int)) (cu k : Nat) (q : PC) : Prop where
  bfs : Bfs m ds1 o1 ds2 o2 ps wy cu
  here : ps[cu]? = some q
  near : ∀ j : Nat, j < ps.length → dep wy j ≤ dep wy cu + 1
  some : ∀ bs ∈ (allB m).take k, ob ds1 o1 q.1 bs = ob ds2 o2 q.2 bs ∧ ∃ i' : Nat, ps[i']? = some (nx2 ds1 ds2 q bs) ∧ dep wy i' ≤ dep wy cu + 1
theorem bfsp_old {m : Nat} {ds1 ds2 : List Deed} {o1 o2 : Int} {ps : List PC} {wy : List (Int × List Int)} {cu k : Nat} {q : PC} {bs : List Int} (h : BfsP m ds1 o1 ds2 o2 ps wy cu k q) (hb : (allB m)[k]? = some bs) (he : ob ds1 o1 q.1 bs = ob ds2 o2 q.2 bs) {i : Nat} (hi : ps[i]? = some (nx2 ds1 ds2 q bs)) : BfsP m ds1 o1 ds2 o2 ps wy cu (k + 1) q := by
  refine ⟨h.bfs, h.here, h.near, fun b hb' => ?_⟩
  rw [List.take_add_one, hb] at hb'
  rcases List.mem_append.mp hb' with z | z
  · exact h.some b z
  · obtain rfl : b = bs := by simpa using z
    exact ⟨he, i, hi, h.near i (List.getElem?_eq_some_iff.mp hi).1⟩
theorem bfsp_new {m : Nat} {ds1 ds2 : List Deed} {o1 o2 : Int} {ps : List PC} {wy : List (Int × List Int)} {cu k : Nat} {q : PC} {bs : List Int} (h : BfsP m ds1 o1 ds2 o2 ps wy cu k q) (hb : (allB m)[k]? = some bs) (he : ob ds1 o1 q.1 bs = ob ds2 o2 q.2 bs) : BfsP m ds1 o1 ds2 o2 (ps ++ [nx2 ds1 ds2 q bs]) (wy ++ [((cu : Int), bs)]) cu (k + 1) q := by
  have hB := h.bfs
  have hc := (List.getElem?_eq_some_iff.mp h.here).1
  have hl := hB.len
  have old : ∀ {j : Nat}, j < ps.length → dep (wy ++ [((cu : Int), bs)]) j = dep wy j := fun {j} hj => dep_app hB.ways _ (by omega)
  have wok : WayOk (wy ++ [((cu : Int), bs)]) := fun j e hj h0 => by
    by_cases hlt : j < wy.length
    · rw [List.getElem?_append_left hlt] at hj
      exact hB.ways j e hj h0
    · rw [List.getElem?_append_right (by omega)] at hj
      have hj1 := (List.getElem?_eq_some_iff.mp hj).1
      have e0 : j - wy.length = 0 := by simp only [List.length_cons, List.length_nil] at hj1; omega
      rw [e0] at hj
      obtain rfl : ((cu : Int), bs) = e := Option.some.inj hj
      show (0 : Int) ≤ (cu : Int) ∧ (cu : Int) < (j : Int)
      omega
  have last : (wy ++ [((cu : Int), bs)])[ps.length]? = some ((cu : Int), bs) := by
    rw [List.getElem?_append_right (by omega), hl, Nat.sub_self]
    rfl
  have dnew : dep (wy ++ [((cu : Int), bs)]) ps.length = dep wy cu + 1 := by
    unfold dep
    rw [path_next wok (by omega) last, List.length_append]
    show (path (wy ++ [((cu : Int), bs)]) (cu : Int).toNat).length + 1 = _
    rw [Int.toNat_natCast, path_app hB.ways _ (by omega)]
  have lift : ∀ {j : Nat} {r : PC}, ps[j]? = some r → (ps ++ [nx2 ds1 ds2 q bs])[j]? = some r := fun {j r} hj => by
    rw [List.getElem?_append_left (List.getElem?_eq_some_iff.mp hj).1]
    exact hj
  have back : ∀ {j : Nat} {r : PC}, j < ps.length → (ps ++ [nx2 ds1 ds2 q bs])[j]? = some r → ps[j]? = some r := fun {j r} hj hr => by
    rwa [List.getElem?_append_left hj] at hr
  have pl : (ps ++ [nx2 ds1 ds2 q bs]).length = ps.length + 1 := by rw [List.length_append]; rfl
  have cases' : ∀ {j : Nat}, j < (ps ++ [nx2 ds1 ds2 q bs]).length → j < ps.length ∨ j = ps.length := fun {j} hj => by omega
  have near' : ∀ j : Nat, j < (ps ++ [nx2 ds1 ds2 q bs]).length → dep (wy ++ [((cu : Int), bs)]) j ≤ dep wy cu + 1 := fun j hj => by
    rcases cases' hj with z | rfl
    · rw [old z]
      exact h.near j z
    · rw [dnew]
      exact Nat.le_refl _
  refine ⟨⟨lift hB.first, wok, by rw [List.length_append, pl, hl]; rfl, fun j e hj h0 => ?_, fun i r hi hr b hb' => ?_, fun i j hij hj => ?_⟩, lift h.here, fun j hj => by rw [old hc]; exact near' j hj, fun b hb' => ?_⟩
  · by_cases hlt : j < wy.length
    · rw [List.getElem?_append_left hlt] at hj
      obtain ⟨a1, r, a2, a3⟩ := hB.link j e hj h0
      exact ⟨a1, r, lift a2, lift a3⟩
    · have hj1 := (List.getElem?_eq_some_iff.mp hj).1
      rw [List.length_append] at hj1
      obtain rfl : j = ps.length := by
        have : j < wy.length + 1 := hj1
        omega
      rw [last] at hj
      obtain rfl : ((cu : Int), bs) = e := Option.some.inj hj
      refine ⟨List.mem_of_getElem? hb, q, ?_, ?_⟩
      · show (ps ++ [nx2 ds1 ds2 q bs])[(cu : Int).toNat]? = _
        rw [Int.toNat_natCast]
        exact lift h.here
      · rw [List.getElem?_append_right (Nat.le_refl _), Nat.sub_self]
        rfl
  · have hi' : i < ps.length := by omega
    obtain ⟨a1, i', a2, a3⟩ := hB.done i r hi (back hi' hr) b hb'
    refine ⟨a1, i', lift a2, ?_⟩
    rw [old hi', old (List.getElem?_eq_some_iff.mp a2).1]
    exact a3
  · rcases cases' hj with z | rfl
    · rw [old z, old (by omega)]
      exact hB.mono i j hij z
    · rw [dnew]
      exact near' i (by omega)
  · rw [List.take_add_one, hb] at hb'
    rw [old hc]
    rcases List.mem_append.mp hb' with z | z
    · obtain ⟨a1, i', a2, a3⟩ := h.some b z
      refine ⟨a1, i', lift a2, ?_⟩
      rw [old (List.getElem?_eq_some_iff.mp a2).1]
      exact a3
    · obtain rfl : b = bs := by simpa using z
      refine ⟨he, ps.length, ?_, by rw [dnew]; exact Nat.le_refl _⟩
      rw [List.getElem?_append_right (Nat.le_refl _), Nat.sub_self]
      rfl
theorem bfsp_done {m : Nat} {ds1 ds2 : List Deed} {o1 o2 : Int} {ps : List PC} {wy : List (Int × List Int)} {cu : Nat} {q : PC} (h : BfsP m ds1 o1 ds2 o2 ps wy cu (allB m).length q) : Bfs m ds1 o1 ds2 o2 ps wy (cu + 1) ∧ ∀ j : Nat, cu + 1 < ps.length → j < ps.length → dep wy j ≤ dep wy (cu + 1) + 1 := by
  refine ⟨⟨h.bfs.first, h.bfs.ways, h.bfs.len, h.bfs.link, fun i r hi hr bs hbs => ?_, h.bfs.mono⟩, fun j hc hj => ?_⟩
  · by_cases hlt : i < cu
    · exact h.bfs.done i r hlt hr bs hbs
    · obtain rfl : i = cu := by omega
      rw [h.here] at hr
      obtain rfl := Option.some.inj hr
      exact h.some bs (by rw [List.take_length]; exact hbs)
  · have a := h.near j hj
    have b := h.bfs.mono cu (cu + 1) (by omega) hc
    omega
theorem bfs_first (m : Nat) (ds1 : List Deed) (o1 : Int) (ds2 : List Deed) (o2 : Int) : Bfs m ds1 o1 ds2 o2 [(ds1.map fcD, ds2.map fcD)] [(0, [])] 0 := by
  refine ⟨rfl, fun j e hj h0 => ?_, rfl, fun j e hj h0 => ?_, fun i r hi => absurd hi (Nat.not_lt_zero _), fun i j hij hj => ?_⟩
  · have := (List.getElem?_eq_some_iff.mp hj).1
    simp only [List.length_cons, List.length_nil] at this
    omega
  · have := (List.getElem?_eq_some_iff.mp hj).1
    simp only [List.length_cons, List.length_nil] at this
    omega
  · simp only [List.length_cons, List.length_nil] at hj
    obtain rfl : j = 0 := by omega
    obtain rfl : i = 0 := by omega
    exact Nat.le_refl _
/-! ### pairs of carries in the heap -/
def kP (c1 c2 : List Int) : NestedKey := .tup [kC c1, kC c2]
theorem kP_inj {a b c d : List Int} (h : kP a b = kP c d) : a = c ∧ b = d := by
  have h1 := NestedKey.tup.inj h
  rw [List.cons.injEq, List.cons.injEq] at h1
  exact ⟨kC_inj h1.1, kC_inj h1.2.1⟩
def PrC (H : Hp) (p : Addr) (q : PC) : Prop := ∃ A B, H p = some (.tup [.ref A, .ref B]) ∧ H A = some (.tup (q.1.map V.int)) ∧ H B = some (.tup (q.2.map V.int))
theorem PrC.stay {H H' : Hp} {p : Addr} {q : PC} (h : PrC H p q) (t : TupsStay H H') : PrC H' p q := by
  obtain ⟨A, B, e1, e2, e3⟩ := h
  exact ⟨A, B, t _ _ e1, t _ _ e2, t _ _ e3⟩
theorem keyP {H : Hp} {T : Addr} {q : PC} (h : PrC H T q) : KeyN H (.ref T) (kP q.1 q.2) := by
  obtain ⟨A, B, e1, e2, e3⟩ := h
  refine ⟨.tup e1 (.cons (keyC e2).1 (.cons (keyC e3).1 .nil)), ?_, T, rfl⟩
  unfold kP kC
  simp [NestedKey.depth, NestedKey.depthAll, nums_depth]
theorem kC_at {H : Hp} {v : V} {c : List Int} (h : NkAt H (kC c) v) : ∃ A, v = .ref A ∧ H A = some (.tup (c.map V.int)) := by
  unfold kC at h
  cases h with
  | tup e hs => exact ⟨_, rfl, by rw [← nks_eq hs]; exact e⟩
theorem prC_of {H : Hp} {T : Addr} {q : PC} (h : NkAt H (kP q.1 q.2) (.ref T)) : PrC H T q := by
  unfold kP at h
  cases h with
  | tup e hs =>
    cases hs with
    | cons h1 h2 =>
      cases h2 with
      | cons h3 h4 =>
        cases h4
        obtain ⟨A, rfl, eA⟩ := kC_at h1
        obtain ⟨B, rfl, eB⟩ := kC_at h3
        exact ⟨A, B, e, eA, eB⟩
abbrev PtAt (H : Hp) : List Addr → List PC → Prop := Paired (PrC H)
theorem ptat_stay {H H' : Hp} (t : TupsStay H H') {qs : List Addr} {l : List PC} (h : PtAt H qs l) : PtAt H' qs l := awMap (fun _ _ e => e.stay t) h
structure PcOk (ds1 ds2 : List Deed) (q : PC) : Prop where
  l1 : q.1.length = ds1.length
  b1 : ∀ x ∈ q.1, Bit x
  l2 : q.2.length = ds2.length
  b2 : ∀ x ∈ q.2, Bit x
theorem nx2_ok {m : Nat} {ds1 ds2 : List Deed} {q : PC} {bs : List Int} (h : PcOk ds1 ds2 q) (hb : bs ∈ allB m) : PcOk ds1 ds2 (nx2 ds1 ds2 q bs) := by
  have h3 := (allB_ok m bs hb).2
  exact ⟨nxt_len h.l1.symm, nxt_bits (bts_bits h3 h.b1) h.b1, nxt_len h.l2.symm, nxt_bits (bts_bits h3 h.b2) h.b2⟩
theorem pc_first (ds1 ds2 : List Deed) : PcOk ds1 ds2 (ds1.map fcD, ds2.map fcD) := ⟨(rch_shp (crry_rch ds1 [] 0)).len, (rch_shp (crry_rch ds1 [] 0)).bits, (rch_shp (crry_rch ds2 [] 0)).len, (rch_shp (crry_rch ds2 [] 0)).bits⟩
/-- as many pairs as there can be -/
theorem few_pairs {ds1 ds2 : List Deed} {ps : List PC} (nd : ps.Nodup) (h : ∀ q ∈ ps, PcOk ds1 ds2 q) (l1 : ds1.length ≤ 8) (l2 : ds2.length ≤ 8) : ps.length ≤ 65536 := by
  have bn : ∀ n : Nat, ∀ c : List Int, c.length = n → (∀ x ∈ c, Bit x) → c ∈ allB n := fun n c hc hb => allB_all n c hc hb
  have sub : ∀ q ∈ ps, q ∈ (allB ds1.length).flatMap fun a => (allB ds2.length).map fun b => (a, b) := fun q hq => by
    have k := h q hq
    exact List.mem_flatMap.mpr ⟨q.1, bn _ _ k.l1 k.b1, List.mem_map.mpr ⟨q.2, bn _ _ k.l2 k.b2, rfl⟩⟩
  have le := pigeon ps _ nd sub
  have key : ∀ L : List (List Int), (L.flatMap fun a => (allB ds2.length).map fun b => (a, b)).length = L.length * 2 ^ ds2.length := by
    intro L
    induction L with
    | nil => simp
    | cons a L ih =>
      rw [List.flatMap_cons, List.length_append, ih, List.length_map, allB_len, List.length_cons, Nat.succ_mul]
      omega
  rw [key, allB_len] at le
  have p1 : 2 ^ ds1.length ≤ 256 := Nat.le_trans (Nat.pow_le_pow_right (by decide) l1) (by decide)
  have p2 : 2 ^ ds2.length ≤ 256 := Nat.le_trans (Nat.pow_le_pow_right (by decide) l2) (by decide)
  have := Nat.mul_le_mul p1 p2
  omega
/-! ### check_pair -/
def spCp (cP : Addr) : Sp := fun vs H Q E => ∃ (R1 R2 : Addr) (m1 m2 o1 o2 : Int) (ds1 ds2 : List Deed), vs = [.ref R1, .ref R2] ∧ RowAt H R1 m1 ds1 o1 ∧ RowAt H R2 m2 ds2 o2 ∧ RowOk m1 ds1 o1 ∧ RowOk m2 ds2 o2 ∧
  (m1 = m2 → Q .non H) ∧ (¬ m1 = m2 → E (.ref cP) none H)
theorem ok_cp {f cP : Addr} {fd : FuncData} {k : Nat} (F : Fun K "check_pair" "check_pair" s_check_pair f fd) (rP : Rai K mg "NoPair" cP) : FnOk P w K mg base (L2.CX P w) (k + 1) f fd ["row", "other"] (spCp cP) := by
  refine F.okX sc_check_pair (fun vs H Q E h => ?_) (fun cdv A outer s H vs Q E hr h => ?_)
  · obtain ⟨R1, R2, m1, m2, o1, o2, ds1, ds2, rfl, _⟩ := h
    rfl
  · obtain ⟨R1, R2, m1, m2, o1, o2, ds1, ds2, rfl, hr1, hr2, ok1, ok2, q, qE⟩ := h
    obtain ⟨D1, rs1, e1, _, _⟩ := id hr1
    obtain ⟨D2, rs2, e2, _, _⟩ := id hr2
    refine ⟨_, pss_one (ps_if (pt_cmpR op_ne (pe_ix ix_tup (pv 0) pe_int (fun _ _ => rfl)) (pe_ix ix_tup (pv 1) pe_int (fun _ _ => rfl)) (nomark _))
        (pss_one (ps_raise rfl (takes_of rfl rfl rfl rfl) (SkE.pmk_own1 PySem.F.excBase_ValueError rP.q rP.g rP.k (raises_own rP.s rP.t) (by rfl) (pe_joined (.cons pe_str (.cons (pe_fmt (pe_ix ix_tup (pv 0) pe_int (fun _ _ => rfl))) (.cons pe_str (.cons (pe_fmt (pe_ix ix_tup (pv 1) pe_int (fun _ _ => rfl))) (.cons pe_str .nil))))))))) pss_nil), ?_⟩
    have a1 := ok1.m1
    have a3 := ok1.m3
    have b1 := ok2.m1
    have b3 := ok2.m3
    refine ⟨.ref R1, rfl, R1, _, 0, .int m1, rfl, rfl, SqT.of e1, row0, .ref R2, rfl, R2, _, 0, .int m2, rfl, rfl, SqT.of e2, row0, ⟨rfl, _, rfl, ite2 (fun hne => ?_) (fun heq => ?_)⟩⟩
    · have l1 : m1.natAbs < 1000 := by omega
      have l2 : m2.natAbs < 1000 := by omega
      have j0 := js_len (acc := Str.empty) (y := "rows of ") (a := 0) (b := 8) (by decide) (by decide +kernel) (by decide)
      have j1 := js_len j0.2 (b := 4) (iX_len l1) (by decide)
      have j2 := js_len (y := " and of ") j1.2 (b := 8) (by decide +kernel) (by decide)
      have j3 := js_len j2.2 (b := 4) (iX_len l2) (by decide)
      have j4 := js_len (y := " inputs") j3.2 (b := 7) (by decide +kernel) (by decide)
      exact ⟨_, rfl, j0.1, .ref R1, rfl, R1, _, 0, .int m1, rfl, rfl, SqT.of e1, row0, .inr ⟨m1, rfl, log_small l1, _, rfl, j1.1, _, rfl, j2.1, .ref R2, rfl, R2, _, 0, .int m2, rfl, rfl, SqT.of e2, row0, .inr ⟨m2, rfl, log_small l2, _, rfl, j3.1, _, rfl, j4.1, qE (neT hne)⟩⟩⟩
    · exact q (neF heq)
/-! ### alike -/
def kQ (q : PC) : NestedKey := kP q.1 q.2
theorem kQ_inj {a b : PC} (h : kQ a = kQ b) : a = b := Prod.ext (kP_inj h).1 (kP_inj h).2
theorem keys_atP {ps : List PC} {ts : List WT} (e : ts.map (·.1) = ps.map kQ) {i : Nat} {t : WT} (h : ts[i]? = some t) : ∃ c, ps[i]? = some c ∧ t.1 = kQ c := by
  have h1 : (ts.map (·.1))[i]? = some t.1 := by rw [List.getElem?_map, h]; rfl
  rw [e, List.getElem?_map] at h1
  cases hc : ps[i]? with
  | none => rw [hc] at h1; cases h1
  | some c => rw [hc] at h1; exact ⟨c, rfl, (Option.some.inj h1).symm⟩
theorem keys_lenP {ps : List PC} {ts : List WT} (e : ts.map (·.1) = ps.map kQ) : ts.length = ps.length := by
  have := congrArg List.length e
  rwa [List.length_map, List.length_map] at this
theorem keys_ndP {ps : List PC} {ts : List WT} (h : (ts.map (·.1)).Nodup) (e : ts.map (·.1) = ps.map kQ) : ps.Nodup := by
  rw [e] at h
  exact List.Pairwise.imp (fun {a b} z y => z (congrArg kQ y)) (List.pairwise_map.mp h)
theorem walk_pt {C p M N W : Addr} {H : Hp} {ts : List WT} {wy : List (Int × List Int)} {ps : List PC} (h : WalkAt P w C H p M N W ts wy) (e : ts.map (·.1) = ps.map kQ) : PtAt H (ts.map (·.2)) ps := by
  have key : ∀ {l : List WT} {qs : List PC}, (∀ t ∈ l, KeyN H (.ref t.2) t.1) → l.map (·.1) = qs.map kQ → PtAt H (l.map (·.2)) qs := by
    intro l
    induction l with
    | nil =>
      intro qs _ e
      cases qs with
      | nil => exact .nil
      | cons a b => cases e
    | cons t l ih =>
      intro qs hk e
      cases qs with
      | nil => cases e
      | cons a b =>
        rw [List.map_cons, List.map_cons, List.cons.injEq] at e
        refine .cons ?_ (ih (fun x hx => hk x (List.mem_cons_of_mem _ hx)) e.2)
        have := (hk t List.mem_cons_self).1
        rw [e.1] at this
        exact prC_of this
  exact key h.keys e
def spAl (cP : Addr) : Sp := fun vs H Q E => ∃ (R1 R2 : Addr) (m1 m2 : Nat) (o1 o2 : Int) (ds1 ds2 : List Deed), vs = [.ref R1, .ref R2] ∧ RowAt H R1 m1 ds1 o1 ∧ RowAt H R2 m2 ds2 o2 ∧ RowOk m1 ds1 o1 ∧ RowOk m2 ds2 o2 ∧
  (m1 = m2 → (∀ H' T M as ps wy, Same H H' → H T = none → H M = none → H' T = some (.tup [.str "alike", .ref M]) → H' M = some (.lst (as.map V.ref)) → PtAt H' as ps → Bfs m1 ds1 o1 ds2 o2 ps wy ps.length → ps.Nodup → (∀ q ∈ ps, PcOk ds1 ds2 q) → Q (.ref T) H') ∧
    (∀ H' T L ps wy cu q bs, Same H H' → H T = none → H L = none → H' T = some (.tup [.str "apart", .int ((path wy cu ++ [bs]).length : Nat), .ref L]) → H' L = some (.lst ((wofL m1 (path wy cu ++ [bs])).map V.int)) → Bfs m1 ds1 o1 ds2 o2 ps wy cu → ps[cu]? = some q → bs ∈ allB m1 → ¬ ob ds1 o1 q.1 bs = ob ds2 o2 q.2 bs → ps.length ≤ 65536 → (path wy cu).length ≤ 65536 → Q (.ref T) H')) ∧
  (¬ m1 = m2 → ∀ H', Same H H' → E (.ref cP) none H')
theorem pth_le (wy : List (Int × List Int)) : ∀ f i, (pth wy f i).length ≤ f
  | 0, _ => Nat.le_refl _
  | f + 1, i => by
    show (if i = 0 then [] else match wy[i]? with | some e => pth wy f e.1.toNat ++ [e.2] | none => []).length ≤ _
    by_cases h : i = 0
    · rw [if_pos h]; exact Nat.zero_le _
    · rw [if_neg h]
      cases wy[i]? with
      | none => exact Nat.zero_le _
      | some e =>
        dsimp only
        rw [List.length_append]
        have := pth_le wy f e.1.toNat
        show _ + 1 ≤ _
        omega
theorem zip_stp {m : Nat} {ds1 ds2 : List Deed} {o1 o2 : Int} {q : PC} {j : Nat} {be : Bst2} {bs : List Int} (h : ((stp m ds1 o1 q.1).zip (stp m ds2 o2 q.2))[j]? = some be) (hb : (allB m)[j]? = some bs) : be = ((ob ds1 o1 q.1 bs, nc ds1 q.1 bs), (ob ds2 o2 q.2 bs, nc ds2 q.2 bs)) := by
  obtain ⟨h1, h2⟩ := List.getElem?_zip_eq_some.mp h
  unfold stp at h1 h2
  rw [List.getElem?_map, hb] at h1 h2
  exact Prod.ext (Option.some.inj h1).symm (Option.some.inj h2).symm
set_option maxHeartbeats 4000000 in
theorem ok_al {f fC fA fF fB fK fWd C cP : Addr} {fd fdC fdA fdF fdB fdK fdWd fdI fdM fdT : FuncData} {k : Nat} {fI fM fT : Addr} (F : Fun K "alike" "alike" s_alike f fd) (T : WCls K mg C)
    (GC : FnOk P w K mg base (L2.CX P w) (k + 1) fC fdC ["row", "other"] (spCp cP)) (kC' : PySem.W.keepIn K (.ref fC) = true) (bC : Binds K fdC ["row", "other"] []) (gC : mg "check_pair" = some (.ref fC))
    (GA : FnOk P w K mg base CX0 (k + 1) fA fdA ["many"] spAll) (kA : PySem.W.keepIn K (.ref fA) = true) (bA : Binds K fdA ["many"] []) (gA : mg "all_bits" = some (.ref fA))
    (GF : FnOk P w K mg base CX0 (k + 1) fF fdF ["row"] spFc) (kF : PySem.W.keepIn K (.ref fF) = true) (bF : Binds K fdF ["row"] []) (gF : mg "first_carry" = some (.ref fF))
    (GB : FnOk P w K mg base CX0 (k + 1) fB fdB ["ones", "others"] spBs2) (kB : PySem.W.keepIn K (.ref fB) = true) (bB : Binds K fdB ["ones", "others"] []) (gB : mg "both_steps" = some (.ref fB))
    (GK : FnOk P w K mg base CX0 (k + 5) fK fdK ["kept", "row", "carry"] spKs) (kK : PySem.W.keepIn K (.ref fK) = true) (bK : Binds K fdK ["kept", "row", "carry"] []) (gK : mg "kept_steps" = some (.ref fK))
    (GW : FnOk P w K mg base CX0 (k + 1) fWd fdWd ["many", "columns"] spWf) (kW : PySem.W.keepIn K (.ref fWd) = true) (bW : Binds K fdWd ["many", "columns"] []) (gW : mg "words_of" = some (.ref fWd))
    (MK : Mk K C fI) (GI : FnOk P w K mg base CX0 (k + 1) fI fdI ["self", "first"] (spWi P w C)) (bI : Binds K fdI ["self", "first"] [])
    (MM : Meth K C "meet" fM) (GM : FnOk P w K mg base CX0 (k + 1) fM fdM ["self", "thing", "ahead", "bits"] (spWm P w C)) (bM : Binds K fdM ["self", "thing", "ahead", "bits"] [])
    (MT : Meth K C "bits_to" fT) (GT : FnOk P w K mg base CX0 (k + 1) fT fdT ["self", "number"] (spBtz P w C)) (bT : Binds K fdT ["self", "number"] [])
    (mn : mg "len" = none) (mz : mg "zip" = none) : FnOk P w K mg base (L2.CX P w) (k + 6) f fd ["row", "other"] (spAl cP) := by
  refine F.okX sc_alike (fun vs H Q E h => ?_) (fun cdv A outer s H vs Q E hr h => ?_)
  · obtain ⟨R1, R2, m1, m2, o1, o2, ds1, ds2, rfl, _⟩ := h
    rfl
  · obtain ⟨R1, R2, m1, m2, o1, o2, ds1, ds2, rfl, hr1, hr2, ok1, ok2, q, qE⟩ := h
    have r1 := hr.mono (show k + 1 ≤ k + 5 by omega)
    have r2 := hr.mono (show k + 1 + 1 ≤ k + 5 by omega)
    refine ⟨_, pss_cons (ps_expr (pe_callS GC r1 (by rfl) gC kC' bC (fun σ => passAt (takes_of rfl rfl rfl rfl) σ) (pa_cons (pv 0) (pa_cons (pv 1) pa_nil))))
      (pss_cons (ps_set (i := 2) sc_alike.nd rfl (.inl rfl) (pe_call GA r1 (by rfl) gA kA bA .nil pass0 (pa_cons (pe_ix ix_tup (pv 0) pe_int (fun _ _ => rfl)) pa_nil)))
      (pss_cons (ps_par (i := 3) (j := 4) rfl sc_alike.nd rfl rfl (by decide) rfl rfl (pa_cons pe_dnewT (pa_cons pe_dnewT pa_nil)) (by rfl))
      (pss_cons (ps_set (i := 5) sc_alike.nd rfl (.inl rfl) (pe_make MK GI r2 (by rfl) T.mgC bI .nil pass0 (pa_cons (pe_tup (pa_cons (pe_call GF r1 (by rfl) gF kF bF .nil pass0 (pa_cons (pv 0) pa_nil)) (pa_cons (pe_call GF r1 (by rfl) gF kF bF .nil pass0 (pa_cons (pv 1) pa_nil)) pa_nil))) pa_nil)))
      (pss_cons (ps_set (i := 6) sc_alike.nd rfl (.inl rfl) pe_int)
      (pss_cons (ps_while (passes_of rfl) (pt_cmpR op_lt (pv 6) (pe_callB call_len_seq (by rfl) mn PySem.boot_len (pa_cons (pe_fld (pv 5) rfl) pa_nil)) (nomark _))
        (pss_cons (ps_asg (pe_ix ix_list (pe_fld (pv 5) rfl) (pv 6) (fun _ _ => rfl)) (pg_tup rfl (pgs_cons (pg_name (i := 7) sc_alike.nd rfl (.inl rfl)) (pgs_cons (pg_name (i := 8) sc_alike.nd rfl (.inl rfl)) pgs_nil))))
        (pss_cons (ps_set (i := 9) sc_alike.nd rfl (.inl rfl) (pe_call GB r1 (by rfl) gB kB bB .nil pass0 (pa_cons (pe_call GK hr (by rfl) gK kK bK .nil pass0 (pa_cons (pv 3) (pa_cons (pv 0) (pa_cons (pv 7) pa_nil)))) (pa_cons (pe_call GK hr (by rfl) gK kK bK .nil pass0 (pa_cons (pv 4) (pa_cons (pv 1) (pa_cons (pv 8) pa_nil)))) pa_nil))))
        (pss_cons (ps_for (passes_of rfl) rfl (pi_zip (by rfl) mz (pa_cons (pv 2) (pa_cons (pv 9) pa_nil))) (pg_tup rfl (pgs_cons (pg_name (i := 10) sc_alike.nd rfl (.inl rfl)) (pgs_cons (pg_tup rfl (pgs_cons (pg_name (i := 11) sc_alike.nd rfl (.inl rfl)) (pgs_cons (pg_name (i := 12) sc_alike.nd rfl (.inl rfl)) (pgs_cons (pg_name (i := 13) sc_alike.nd rfl (.inl rfl)) pgs_nil)))) pgs_nil)))
          (pss_cons (ps_if (pt_cmpR op_ne (pv 11) (pv 12) (nomark _))
            (pss_cons (ps_set (i := 14) sc_alike.nd rfl (.inl rfl) (pe_op op_cat (pe_meth (pv 5) T.cl MT GT r1 bT .nil pass0 (pa_cons (pv 6) pa_nil)) (pe_lst (pa_cons (pv 10) pa_nil))))
            (pss_one (ps_ret (pe_tup (pa_cons pe_str (pa_cons (pe_callB call_len_seq (by rfl) mn PySem.boot_len (pa_cons (pv 14) pa_nil)) (pa_cons (pe_call GW r1 (by rfl) gW kW bW .nil pass0 (pa_cons (pe_ix ix_tup (pv 0) pe_int (fun _ _ => rfl)) (pa_cons (pv 14) pa_nil))) pa_nil))))))) pss_nil)
          (pss_one (ps_expr (pe_meth (pv 5) T.cl MM GM r1 bM .nil pass0 (pa_cons (pv 13) (pa_cons (pv 6) (pa_cons (pv 10) pa_nil))))))))
        (pss_one (ps_aug (i := 6) sc_alike.nd rfl (.inl rfl) pe_int ip_add))))))
      (pss_one (ps_ret (pe_tup (pa_cons pe_str (pa_cons (pe_fld (pv 5) rfl) pa_nil)))))))))), ?_⟩
    refine ⟨.ref R1, rfl, .ref R2, rfl, R1, R2, m1, m2, o1, o2, ds1, ds2, rfl, hr1, hr2, ok1, ok2, fun em => ?_, fun ne => qE (fun z => ne (congrArg Int.ofNat z)) H (Same.refl H)⟩
    obtain rfl : m1 = m2 := Int.ofNat.inj em
    obtain ⟨qA, qB⟩ := q rfl
    have m3 := ok1.m3
    have l81 := ok1.len
    have l82 := ok2.len
    obtain ⟨Dd1, rs1, eR1, eDd1, hd1⟩ := id hr1
    refine ⟨.ref R1, rfl, R1, _, 0, .int m1, rfl, rfl, SqT.of eR1, rfl, m1, rfl, by omega, fun H1 Ch fs s1 nCh eCh hf => ?_⟩
    have fl : fs.length = 2 ^ m1 := by rw [awLen hf, allB_len]
    intro D1 hD1 D2 hD2
    have sD1 := same_new (o := .dT []) hD1
    have sD2 := same_new (o := .dT []) hD2
    have n12 : D1 ≠ D2 := fun z => by rw [← z, upd_same] at hD2; cases hD2
    have sD := sD1.trans sD2
    have eD1 : upd (upd H1 D1 (.dT [])) D2 (.dT []) D1 = some (.dT []) := by
      rw [upd_ne n12]
      exact upd_same
    have eD2 : upd (upd H1 D1 (.dT [])) D2 (.dT []) D2 = some (.dT []) := upd_same
    obtain ⟨H2, hH2⟩ : ∃ H2, H2 = upd (upd H1 D1 (.dT [])) D2 (.dT []) := ⟨_, rfl⟩
    rw [← hH2] at sD eD1 eD2 ⊢
    have nD1 : H1 D1 = none := hD1
    have nD2 : H1 D2 = none := sD1.free hD2
    have s02 := s1.trans sD
    refine ⟨_, _, rfl, ?_⟩
    refine ⟨.ref R1, rfl, R1, m1, o1, ds1, rfl, (Same.tups s02).row hr1, by omega, fun Ha F1 sa nF1 eF1 => ?_⟩
    refine ⟨.ref R2, rfl, R2, m1, o2, ds2, rfl, (Same.tups (s02.trans sa)).row hr2, by omega, fun Hb F2 sb nF2 eF2 => ?_⟩
    refine ⟨(by show 2 ≤ sizeLine; decide), fun Fi hFi => ?_⟩
    have sFi := same_new (o := .tup [.ref F1, .ref F2]) hFi
    have pFi : PrC (upd Hb Fi (.tup [.ref F1, .ref F2])) Fi (ds1.map fcD, ds2.map fcD) := ⟨F1, F2, upd_same, sFi _ _ (sb _ _ eF1), sFi _ _ eF2⟩
    obtain ⟨H2b, hH2b⟩ : ∃ H2b, H2b = upd Hb Fi (.tup [.ref F1, .ref F2]) := ⟨_, rfl⟩
    rw [← hH2b] at sFi pFi ⊢
    have s22 : Same H2 H2b := sa.trans (sb.trans sFi)
    intro Wk dx nWk ndx nex
    have kW : ∀ c u, H2b c = some u → upd (upd H2b dx (.own Wk)) Wk (.ins C dx []) c = some u := fun c u e => by
      rw [upd_ne (ne_of_none e nWk), upd_ne (ne_of_none e ndx)]
      exact e
    refine ⟨Wk, dx, Fi, kQ (ds1.map fcD, ds2.map fcD), rfl, upd_same, keyP (pFi.stay fun c xs e => kW _ _ e), fun H3 M N W hw nM nN nW kp => ⟨rfl, ?_⟩⟩
    have s3 : Same H2b H3 := fun c u e => kp c u (ne_of_none e nWk) (kW c u e)
    have s23 := s22.trans s3
    have back : ∀ a : Addr, upd (upd H2b dx (.own Wk)) Wk (.ins C dx []) a = none → H2b a = none := fun a h => by
      cases e : H2b a with
      | none => rfl
      | some u => rw [kW a u e] at h; cases h
    have hM2 := s22.free (back _ nM)
    have hN2 := s22.free (back _ nN)
    have hW2 := s22.free (back _ nW)
    have hM0 := s02.free hM2
    have nD1M : D1 ≠ M := ne_of_none eD1 hM2
    have nD1N : D1 ≠ N := ne_of_none eD1 hN2
    have nD1W : D1 ≠ W := ne_of_none eD1 hW2
    have nD2M : D2 ≠ M := ne_of_none eD2 hM2
    have nD2N : D2 ≠ N := ne_of_none eD2 hN2
    have nD2W : D2 ≠ W := ne_of_none eD2 hW2
    have p8 : 2 ^ m1 ≤ 8 := Nat.le_trans (Nat.pow_le_pow_right (by decide) (show m1 ≤ 3 by omega)) (by decide)
    have kept0 : ∀ (H : Hp) (ds : List Deed) (o : Int), Kept H m1 ds o [] := fun H ds o => ⟨List.nodup_nil, (fun _ z => nomatch z), (fun _ z => nomatch z)⟩
    refine ⟨fun n σ H4 => ∃ y7 y8 y9 y10 y11 y12 y13 y14 ps ts wy es1 es2 cu, σ = [some (.ref R1), some (.ref R2), some (.ref Ch), some (.ref D1), some (.ref D2), some (.ref Wk), some (.int ((cu : Nat) : Int)), y7, y8, y9, y10, y11, y12, y13, y14] ∧ WalkAt P w C H4 Wk M N W ts wy ∧ ts.map (·.1) = ps.map kQ ∧ Bfs m1 ds1 o1 ds2 o2 ps wy cu ∧ (∀ j : Nat, cu < ps.length → j < ps.length → dep wy j ≤ dep wy cu + 1) ∧ (∀ q ∈ ps, PcOk ds1 ds2 q) ∧ cu ≤ ps.length ∧ H4 D1 = some (.dT (emb V.ref es1)) ∧ Kept H4 m1 ds1 o1 es1 ∧ (∀ e ∈ es1, e.2 ≠ M ∧ e.2 ≠ W) ∧ H4 D2 = some (.dT (emb V.ref es2)) ∧ Kept H4 m1 ds2 o2 es2 ∧ (∀ e ∈ es2, e.2 ≠ M ∧ e.2 ≠ W) ∧ Same H1 H4 ∧ n = 65537 - cu,
      ⟨_, none, none, none, none, none, none, none, none, [(ds1.map fcD, ds2.map fcD)], [(kQ (ds1.map fcD, ds2.map fcD), Fi)], [(0, [])], [], [], 0, rfl, hw, rfl, bfs_first m1 ds1 o1 ds2 o2, (fun j _ hj => ?_), (fun x hx => by rw [List.mem_singleton.mp hx]; exact pc_first ds1 ds2), Nat.zero_le _, s23 _ _ eD1, kept0 _ _ _, (fun _ z => nomatch z), s23 _ _ eD2, kept0 _ _ _, (fun _ z => nomatch z), sD.trans s23, rfl⟩, fun n σ H4 hp => ?_⟩
    · have : j < 1 := hj
      obtain rfl : j = 0 := by omega
      exact Nat.le_add_right _ _
    obtain ⟨y7, y8, y9, y10, y11, y12, y13, y14, ps, ts, wy, es1, es2, cu, rfl, hw4, ek, hB, hnear, gd, hcu, eD14, kp1, ne1, eD24, kp2, ne2, s4, rfl⟩ := hp
    obtain ⟨dxw, ob4⟩ := hw4.ob
    have psl := keys_lenP ek
    have fw := few_pairs (keys_ndP hw4.nd ek) gd l81 l82
    refine ⟨.int (cu : Int), rfl, .ref Wk, rfl, Wk, C, dxw, _, _, rfl, ob4, T.cl, T.nM, wF_met _ _ _, M, _, rfl, .inl (.inl (.inl hw4.met)), _, _, rfl, rfl, _, rfl, ite2 (fun e => ?_) (fun e => ?_)⟩
    · have lt : cu < ps.length := by
        have := of_decide_eq_true e
        rw [List.length_map] at this
        omega
      refine ⟨fun σ' H' => ∃ m', m' < 65537 - cu ∧ (∃ y7 y8 y9 y10 y11 y12 y13 y14 ps ts wy es1 es2 cu, σ' = [some (.ref R1), some (.ref R2), some (.ref Ch), some (.ref D1), some (.ref D2), some (.ref Wk), some (.int ((cu : Nat) : Int)), y7, y8, y9, y10, y11, y12, y13, y14] ∧ WalkAt P w C H' Wk M N W ts wy ∧ ts.map (·.1) = ps.map kQ ∧ Bfs m1 ds1 o1 ds2 o2 ps wy cu ∧ (∀ j : Nat, cu < ps.length → j < ps.length → dep wy j ≤ dep wy cu + 1) ∧ (∀ q ∈ ps, PcOk ds1 ds2 q) ∧ cu ≤ ps.length ∧ H' D1 = some (.dT (emb V.ref es1)) ∧ Kept H' m1 ds1 o1 es1 ∧ (∀ e ∈ es1, e.2 ≠ M ∧ e.2 ≠ W) ∧ H' D2 = some (.dT (emb V.ref es2)) ∧ Kept H' m1 ds2 o2 es2 ∧ (∀ e ∈ es2, e.2 ≠ M ∧ e.2 ≠ W) ∧ Same H1 H' ∧ m' = 65537 - cu), fun σ' H' z => z, ?_⟩
      have hti : cu < ts.length := by omega
      obtain ⟨q0, hq0, ht1⟩ := keys_atP ek (List.getElem?_eq_getElem hti)
      have hkey := hw4.keys _ (List.getElem_mem hti)
      rw [ht1] at hkey
      obtain ⟨A, B, ecb, eA, eB⟩ := prC_of hkey.1
      have pq := gd q0 (List.mem_of_getElem? hq0)
      refine ⟨.ref Wk, rfl, Wk, C, dxw, _, _, rfl, ob4, T.cl, T.nM, wF_met _ _ _, .int _, rfl, M, _, _, .ref (ts[cu]).2, rfl, rfl, .inl (.inl hw4.met), atI_nat (by rw [List.getElem?_map, List.getElem?_eq_getElem hti]; rfl), ?_⟩
      generalize (ts[cu]).2 = cb at ecb
      refine ⟨cb, [.ref A, .ref B], rfl, .inl (.inl ecb), rfl, .ref A, [.ref B], rfl, .ref B, [], rfl, rfl, ?_⟩
      have rowT1 : RowAt H4 R1 m1 ds1 o1 := (Same.tups (s1.trans s4)).row hr1
      have rowT2 : RowAt H4 R2 m1 ds2 o2 := (Same.tups (s1.trans s4)).row hr2
      refine ⟨.ref D1, rfl, .ref R1, rfl, .ref A, rfl, D1, R1, A, m1, o1, ds1, q0.1, es1, rfl, eD14, kp1, rowT1, ok1, eA, pq.l1, pq.b1, fun H5 p1 ps1 es1' bt1 eD15 kp15 sub1 new1 mem1 ep1 st1 => ?_⟩
      have t45 : TupsStay H4 H5 := fun b xs e => bt1 b _ (ne_of e eD14 (fun z => nomatch z)) e
      have kp25 : Kept H5 m1 ds2 o2 es2 := ⟨kp2.nd, kp2.bits, fun e he => by
        obtain ⟨pp, h1, h2⟩ := kp2.each e he
        exact ⟨pp, bt1 _ _ (ne_of h1 eD14 (fun z => nomatch z)) h1, stat_stay t45 h2⟩⟩
      refine ⟨.ref D2, rfl, .ref R2, rfl, .ref B, rfl, D2, R2, B, m1, o2, ds2, q0.2, es2, rfl, bt1 _ _ n12.symm eD24, kp25, t45.row rowT2, ok2, t45 _ _ eB, pq.l2, pq.b2, fun H6 p2 ps2 es2' bt2 eD26 kp26 sub2 new2 mem2 ep2 st2 => ?_⟩
      have eD25 := bt1 _ _ n12.symm eD24
      have t56 : TupsStay H5 H6 := fun b xs e => bt2 b _ (ne_of e eD25 (fun z => nomatch z)) e
      have kp16 : Kept H6 m1 ds1 o1 es1' := ⟨kp15.nd, kp15.bits, fun e he => by
        obtain ⟨pp, h1, h2⟩ := kp15.each e he
        exact ⟨pp, bt2 _ _ (ne_of h1 eD25 (fun z => nomatch z)) h1, stat_stay t56 h2⟩⟩
      have ep16 : H6 p1 = some (.lst (ps1.map V.ref)) := bt2 _ _ (ne_of ep1 eD25 (fun z => nomatch z)) ep1
      refine ⟨p1, p2, _, _, rfl, ⟨ps1, ep16, stat_stay t56 st1⟩, ⟨ps2, ep2, st2⟩, by rw [stp_len, stp_len], by rw [stp_len]; exact p8, fun H7 Bo bo s7 nBo eBo hbo => ?_⟩
      have zl : ((stp m1 ds1 o1 q0.1).zip (stp m1 ds2 o2 q0.2)).length = 2 ^ m1 := by rw [List.length_zip, stp_len, stp_len, Nat.min_self]
      have zsl : bo.length = 2 ^ m1 := by rw [awLen hbo, zl]
      have k46 : ∀ b u, b ≠ D1 → b ≠ D2 → H4 b = some u → H6 b = some u := fun b u n1 n2 e => bt2 b u n2 (bt1 b u n1 e)
      have k47 : ∀ b u, b ≠ D1 → b ≠ D2 → H4 b = some u → H7 b = some u := fun b u n1 n2 e => s7 b u (k46 b u n1 n2 e)
      have t47 : TupsStay H4 H7 := fun b xs e => k47 b _ (ne_of e eD14 (fun z => nomatch z)) (ne_of e eD24 (fun z => nomatch z)) e
      obtain ⟨ws4, eW4, _⟩ := id hw4.ways
      have hw7 : WalkAt P w C H7 Wk M N W ts wy := hw4.stay t47 fun c u hc e => by
        rcases hc with rfl | rfl | rfl | rfl
        · exact k47 _ _ (ne_of ob4 eD14 (fun z => nomatch z)) (ne_of ob4 eD24 (fun z => nomatch z)) e
        · exact k47 _ _ nD1M.symm nD2M.symm e
        · exact k47 _ _ nD1N.symm nD2N.symm e
        · exact k47 _ _ nD1W.symm nD2W.symm e
      have s17 : Same H1 H7 := fun b u e => k47 b u (ne_of_none e nD1) (ne_of_none e nD2) (s4 b u e)
      have eD17 : H7 D1 = some (.dT (emb V.ref es1')) := s7 _ _ (bt2 _ _ n12 eD15)
      have eD27 : H7 D2 = some (.dT (emb V.ref es2')) := s7 _ _ eD26
      have nBM : Bo ≠ M := fun z => by rw [z, k46 _ _ nD1M.symm nD2M.symm hw4.met] at nBo; cases nBo
      have nBN : Bo ≠ N := fun z => by rw [z, k46 _ _ nD1N.symm nD2N.symm hw4.num.ob] at nBo; cases nBo
      have nBW : Bo ≠ W := fun z => by rw [z, k46 _ _ nD1W.symm nD2W.symm eW4] at nBo; cases nBo
      have ne1' : ∀ e ∈ es1', e.2 ≠ M ∧ e.2 ≠ W := fun e he => by
        rcases new1 e he with h | h
        · exact ne1 e h
        · exact ⟨(fun z => by rw [z, hw4.met] at h; cases h), (fun z => by rw [z, eW4] at h; cases h)⟩
      have ne2' : ∀ e ∈ es2', e.2 ≠ M ∧ e.2 ≠ W := fun e he => by
        rcases new2 e he with h | h
        · exact ne2 e h
        · exact ⟨(fun z => by rw [z, bt1 _ _ nD1M.symm hw4.met] at h; cases h), (fun z => by rw [z, bt1 _ _ nD1W.symm eW4] at h; cases h)⟩
      have eCh7 := s17 _ _ eCh
      have nChM : Ch ≠ M := ne_of_none (sD _ _ eCh) hM2
      have nChN : Ch ≠ N := ne_of_none (sD _ _ eCh) hN2
      have nChW : Ch ≠ W := ne_of_none (sD _ _ eCh) hW2
      refine ⟨.ref Ch, rfl, .ref Bo, rfl, Ch, Bo, _, _, rfl, .inl (.inl eCh7), .inl (.inl eBo), for_it (walk_zip (K := K) (a := Ch) (b := Bo) (xs := fs.map V.ref) (ys := bo.map V.ref) (n := 2 ^ m1) (by rw [List.length_map, List.length_map, fl, zsl, Nat.min_self])) (fun j σ H8 => ∃ y10 y11 y12 y13 ps' ts' wy', σ = [some (.ref R1), some (.ref R2), some (.ref Ch), some (.ref D1), some (.ref D2), some (.ref Wk), some (.int ((cu : Nat) : Int)), some (.ref A), some (.ref B), some (.ref Bo), y10, y11, y12, y13, y14] ∧ WalkAt P w C H8 Wk M N W ts' wy' ∧ ts'.map (·.1) = ps'.map kQ ∧ BfsP m1 ds1 o1 ds2 o2 ps' wy' cu j q0 ∧ (∀ q ∈ ps', PcOk ds1 ds2 q) ∧ ∀ b u, b ≠ M → b ≠ N → b ≠ W → H7 b = some u → H8 b = some u)
        ⟨y10, y11, y12, y13, ps, ts, wy, rfl, hw7, ek, ⟨hB, hq0, fun j hj => hnear j lt hj, (fun _ z => by rw [List.take_zero] at z; cases z)⟩, gd, fun _ _ _ _ _ z => z⟩ (fun j σ H8 _ hp => ?_) (fun j x σ H8 H9 hj hp hy => ?_) (fun σ H8 hp => ?_)⟩
      · obtain ⟨_, _, _, _, _, _, _, _, _, _, _, _, st⟩ := hp
        exact ⟨.inl (.inl (st _ _ nChM nChN nChW eCh7)), .inl (.inl (st _ _ nBM nBN nBW eBo))⟩
      · obtain ⟨y10, y11, y12, y13, ps', ts', wy', rfl, hw8, ek8, hBP, gd8, st⟩ := hp
        obtain ⟨U, x1, x2, rfl, hU, rfl, gg1, gg2⟩ := hy
        have tup7 : ∀ b xs, H7 b = some (.tup xs) → H8 b = some (.tup xs) := fun b xs e => st b _ (ne_of e hw7.met (fun y => nomatch y)) (ne_of e hw7.num.ob (fun y => nomatch y)) (by obtain ⟨ws, e2, _⟩ := hw7.ways; exact ne_of e e2 (fun y => nomatch y)) e
        have hjf : j < fs.length := by omega
        have hjp : j < bo.length := by omega
        have e1 : x1 = .ref fs[j] := by
          have g1' : (fs.map V.ref)[j]? = some x1 := gg1
          rw [List.getElem?_map, List.getElem?_eq_getElem hjf] at g1'
          exact (Option.some.inj g1').symm
        have e2 : x2 = .ref bo[j] := by
          have g2' : (bo.map V.ref)[j]? = some x2 := gg2
          rw [List.getElem?_map, List.getElem?_eq_getElem hjp] at g2'
          exact (Option.some.inj g2').symm
        subst e1 e2
        obtain ⟨bs, hb1, hb2⟩ := awGet hf (List.getElem?_eq_getElem hjf)
        obtain ⟨be, hs1, ac, c1, c2, hs2, hs3, hs4, hs5⟩ := awGet hbo (List.getElem?_eq_getElem hjp)
        obtain rfl := zip_stp hs1 hb1
        have sU := same_new (o := .tup [.ref fs[j], .ref bo[j]]) hU
        have eb9 := sU _ _ (tup7 _ _ (s17 _ _ hb2))
        have e29 := sU _ _ (tup7 _ _ hs2)
        have e39 := sU _ _ (tup7 _ _ hs3)
        have e49 := sU _ _ (tup7 _ _ hs4)
        have e59 := sU _ _ (tup7 _ _ hs5)
        refine ⟨U, [.ref fs[j], .ref bo[j]], rfl, .inl (.inl upd_same), rfl, .ref fs[j], [.ref bo[j]], rfl, .ref bo[j], [], rfl, bo[j], [.int (ob ds1 o1 q0.1 bs), .int (ob ds2 o2 q0.2 bs), .ref ac], rfl, .inl (.inl e29), rfl, .int (ob ds1 o1 q0.1 bs), [.int (ob ds2 o2 q0.2 bs), .ref ac], rfl, .int (ob ds2 o2 q0.2 bs), [.ref ac], rfl, .ref ac, [], rfl, rfl, rfl, ?_⟩
        obtain ⟨dx8, ob8⟩ := hw8.ob
        have hw9 := hw8.same sU
        have l8 := keys_lenP ek8
        have few8 := few_pairs (keys_ndP hw8.nd ek8) gd8 l81 l82
        have wl := hBP.bfs.len
        have hb' : bs ∈ allB m1 := List.mem_of_getElem? hb1
        have hcl := (List.getElem?_eq_some_iff.mp hBP.here).1
        refine ⟨.int (ob ds1 o1 q0.1 bs), rfl, .int (ob ds2 o2 q0.2 bs), rfl, ⟨rfl, _, rfl, ite2 (fun hne => ?_) (fun heq => ?_)⟩⟩
        · have hne' := neT hne
          refine ⟨.ref Wk, rfl, Wk, dx8, _, rfl, sU _ _ ob8, wF_no _ _ _ (by decide +kernel) (by decide +kernel) (by decide +kernel), .int (cu : Int), rfl, Wk, M, N, W, ts', wy', cu, rfl, hw9, by omega, by omega, hBP.bfs.ways, fun Hx L bl sx nL eL hbl => ?_⟩
          have pl := pth_le wy' cu cu
          have plE : (path wy' cu).length ≤ cu := pl
          have bll := awLen hbl
          refine ⟨.ref fs[j], rfl, (by show 1 ≤ sizeLine; decide), fun L2' hL2 => ?_⟩
          have sL2 := same_new (o := .lst [.ref fs[j]]) hL2
          refine ⟨L, L2', _, _, rfl, rfl, sL2 _ _ eL, upd_same, ?_, fun Cc hCc => ?_⟩
          · rw [List.length_map, sizeLine_eq]
            show bl.length + 1 ≤ _
            omega
          have sCc := same_new (o := .lst (bl.map V.ref ++ [V.ref fs[j]])) hCc
          obtain ⟨Hy, hHy⟩ : ∃ Hy, Hy = upd (upd Hx L2' (.lst [.ref fs[j]])) Cc (.lst (bl.map V.ref ++ [V.ref fs[j]])) := ⟨_, rfl⟩
          have eCc : Hy Cc = some (.lst ((bl ++ [fs[j]]).map V.ref)) := by
            rw [hHy, upd_same, List.map_append]
            rfl
          have s9y : Same (upd H8 U (.tup [.ref fs[j], .ref bo[j]])) Hy := by
            rw [hHy]
            exact sx.trans (sL2.trans sCc)
          have sxy : Same Hx Hy := by
            rw [hHy]
            exact sL2.trans sCc
          rw [← hHy]
          have tat : TAt Hy (bl ++ [fs[j]]) (path wy' cu ++ [bs]) := awSnoc (F := fun (f : Addr) (b : List Int) => Hy f = some (.tup (b.map V.int))) (s9y _ _ eb9) (tat_stay (Same.tups sxy) hbl)
          have tl := awLen tat
          obtain ⟨hall, _⟩ := bfs_apart hBP.bfs hBP.here ok1 ok2 hb' hne'
          have kH : ∀ b u, b ≠ M → b ≠ N → b ≠ W → H7 b = some u → Hy b = some u := fun b u n1 n2 n3 e => s9y _ _ (sU _ _ (st b u n1 n2 n3 e))
          have s1y : Same H1 Hy := fun b u e => kH b u (ne_of_none (sD _ _ e) hM2) (ne_of_none (sD _ _ e) hN2) (ne_of_none (sD _ _ e) hW2) (s17 _ _ e)
          refine ⟨.ref Cc, rfl, Cc, _, rfl, .inl (.inl (.inl eCc)), .ref R1, rfl, R1, _, 0, .int m1, rfl, rfl, SqT.of (s1y _ _ (s1 _ _ eR1)), rfl, .ref Cc, rfl, m1, Cc, bl ++ [fs[j]], _, rfl, by omega, eCc, tat, ?_, hall, fun Hz Lw sz nLw eLw => ?_⟩
          · rw [List.length_append]
            show _ + 1 ≤ _
            omega
          refine ⟨(by show 3 ≤ sizeLine; decide), fun Tt hTt => ?_⟩
          have sT := same_new (o := .tup [.str "apart", .int (((bl ++ [fs[j]]).map V.ref).length : Nat), .ref Lw]) hTt
          have s0z : Same H Hz := s1.trans (s1y.trans sz)
          refine qB _ Tt Lw ps' wy' cu q0 bs (s0z.trans sT) (s0z.free hTt) ((s1.trans s1y).free nLw) ?_ (sT _ _ eLw) hBP.bfs hBP.here hb' hne' few8 (by omega)
          rw [upd_same, List.length_map, tl]
        · have heq' := neF heq
          have pac : PrC (upd H8 U (.tup [.ref fs[j], .ref bo[j]])) ac (nx2 ds1 ds2 q0 bs) := ⟨c1, c2, e39, e49, e59⟩
          refine ⟨.ref Wk, rfl, Wk, dx8, _, rfl, sU _ _ ob8, wF_meet _ _ _, .ref ac, rfl, .int (cu : Int), rfl, .ref fs[j], rfl, Wk, M, N, W, ac, fs[j], ts', wy', kQ (nx2 ds1 ds2 q0 bs), (cu : Int), bs, rfl, hw9, keyP pac, eb9, by omega, fun Hx ts2 wy2 ix hwx hix hcase kpx => ?_⟩
          obtain ⟨b', hb2'⟩ := hix
          have hst : ∀ b u, b ≠ M → b ≠ N → b ≠ W → H7 b = some u → Hx b = some u := fun b u n1 n2 n3 e => kpx b u n1 n2 n3 (sU _ _ (st b u n1 n2 n3 e))
          rcases hcase with ⟨rfl, rfl⟩ | ⟨rfl, rfl, rfl, _⟩
          · obtain ⟨c, hc, ec⟩ := keys_atP ek8 hb2'
            rw [← kQ_inj ec] at hc
            exact ⟨_, _, _, _, ps', _, _, rfl, hwx, ek8, bfsp_old hBP hb1 heq' hc, gd8, hst⟩
          · refine ⟨_, _, _, _, ps' ++ [nx2 ds1 ds2 q0 bs], _, _, rfl, hwx, by rw [List.map_append, List.map_append, ek8]; rfl, bfsp_new hBP hb1 heq', fun c hc => ?_, hst⟩
            rcases List.mem_append.mp hc with hc | hc
            · exact gd8 c hc
            · rw [List.mem_singleton.mp hc]
              exact nx2_ok pq hb'
      · obtain ⟨y10, y11, y12, y13, ps', ts', wy', rfl, hw8, ek8, hBP, gd8, st⟩ := hp
        rw [← allB_len m1] at hBP
        obtain ⟨hB', near'⟩ := bfsp_done hBP
        have hcl := (List.getElem?_eq_some_iff.mp hBP.here).1
        have tup7 : TupsStay H7 H8 := fun b xs e => st b _ (ne_of e hw7.met (fun y => nomatch y)) (ne_of e hw7.num.ob (fun y => nomatch y)) (by obtain ⟨ws, e2, _⟩ := hw7.ways; exact ne_of e e2 (fun y => nomatch y)) e
        have kk : ∀ {ds : List Deed} {o : Int} {es : List (List Int × Addr)}, Kept H6 m1 ds o es → (∀ e ∈ es, e.2 ≠ M ∧ e.2 ≠ W) → Kept H8 m1 ds o es := fun {ds o es} kp ne => ⟨kp.nd, kp.bits, fun e he => by
          obtain ⟨pp, h1, h2⟩ := kp.each e he
          have h17 := s7 _ _ h1
          exact ⟨pp, st _ _ (ne e he).1 (ne_of h17 hw7.num.ob (fun z => nomatch z)) (ne e he).2 h17, stat_stay tup7 (stat_stay (Same.tups s7) h2)⟩⟩
        refine ⟨.int (cu : Int), rfl, _, _, rfl, rfl, 65537 - (cu + 1), ?_, _, _, _, _, _, _, _, _, ps', ts', wy', es1', es2', cu + 1, rfl, hw8, ek8, hB', fun j h1 h2 => near' j h1 h2, gd8, by omega, st _ _ nD1M nD1N nD1W eD17, kk kp16 ne1', ne1', st _ _ nD2M nD2N nD2W eD27, kk kp26 ne2', ne2', fun b u e => st b u (ne_of_none (sD _ _ e) hM2) (ne_of_none (sD _ _ e) hN2) (ne_of_none (sD _ _ e) hW2) (s17 _ _ e), rfl⟩
        have := few_pairs (keys_ndP hw8.nd ek8) gd8 l81 l82
        omega
    · have nlt : ¬ cu < ps.length := fun z => e (by
        apply decide_eq_true
        rw [List.length_map]
        omega)
      obtain rfl : cu = ps.length := by omega
      refine ⟨.ref Wk, rfl, Wk, C, dxw, _, _, rfl, ob4, T.cl, T.nM, wF_met _ _ _, (by show 2 ≤ sizeLine; decide), fun Tt hTt => ?_⟩
      have sT := same_new (o := .tup [.str "alike", .ref M]) hTt
      have s04 := s1.trans s4
      refine qA _ Tt M (ts.map (·.2)) ps wy (s04.trans sT) (s04.free hTt) hM0 upd_same ?_ (ptat_stay (Same.tups sT) (walk_pt hw4 ek)) hB (keys_ndP hw4.nd ek) gd
      have := sT _ _ hw4.met
      rw [this, List.map_map]
      rfl
/-! ### pairs of carries as data -/
def cD (c : List Int) : PyData := .tuple (c.map PyData.int)
def pD (q : PC) : PyData := .tuple [cD q.1, cD q.2]
theorem eqvI' : ∀ {l k : List Int}, PyData.eqvAll (l.map PyData.int) (k.map PyData.int) = true → l = k
  | [], [], _ => rfl
  | [], _ :: _, h => by simp [PyData.eqvAll] at h
  | _ :: _, [], h => by simp [PyData.eqvAll] at h
  | x :: l, y :: k, h => by
    simp only [List.map_cons, PyData.eqvAll, Bool.and_eq_true] at h
    have h1 : x = y := by simpa [PyData.eqv] using h.1
    rw [h1, eqvI' h.2]
theorem lay_cD (c : List Int) : (cD c).canLay0 = true ∧ (cD c).depth = 1 := by
  obtain ⟨h1, h2⟩ := lay_ints c
  unfold cD
  simp only [PyData.canLay0, PyData.depth, h1, h2]
  simp
theorem lay_pD (q : PC) : (pD q).canLay0 = true ∧ (pD q).depth = 2 := by
  obtain ⟨a1, a2⟩ := lay_cD q.1
  obtain ⟨b1, b2⟩ := lay_cD q.2
  unfold pD
  simp only [PyData.canLay0, PyData.canLayAll0, PyData.depth, PyData.depthAll, a1, a2, b1, b2]
  simp
theorem shaped_pD (q : PC) : SeqAt.shaped (pD q) = true := by
  obtain ⟨a1, a2⟩ := lay_pD q
  unfold SeqAt.shaped
  rw [a1, a2]
  rfl
theorem lay_pDs : ∀ l : List PC, PyData.canLayAll0 (l.map pD) = true ∧ PyData.depthAll (l.map pD) ≤ 2
  | [] => ⟨by simp only [List.map_nil, PyData.canLayAll0], by simp only [List.map_nil, PyData.depthAll]; decide⟩
  | q :: l => by
    obtain ⟨a1, a2⟩ := lay_pD q
    obtain ⟨b1, b2⟩ := lay_pDs l
    exact ⟨by simp only [List.map_cons, PyData.canLayAll0, a1, b1, Bool.and_self], by simp only [List.map_cons, PyData.depthAll, a2]; omega⟩
theorem shaped_pDs (l : List PC) : SeqAt.shaped (.list (l.map pD)) = true := by
  obtain ⟨a1, a2⟩ := lay_pDs l
  unfold SeqAt.shaped
  simp only [PyData.canLay0, PyData.depth, a1, Bool.true_and]
  exact decide_eq_true (by omega)
theorem eqv_pD (p q : PC) : PyData.eqv (pD p) (pD q) = decide (p = q) := by
  by_cases h : p = q
  · subst h
    rw [decide_eq_true rfl]
    exact SeqAt.eqv_refl _ (SeqAt.canLay_of_shaped (shaped_pD p))
  · rw [decide_eq_false h]
    cases e : PyData.eqv (pD p) (pD q) with
    | false => rfl
    | true =>
      exfalso
      unfold pD cD at e
      simp only [PyData.eqv, PyData.eqvAll, Bool.and_eq_true] at e
      exact h (Prod.ext (eqvI' e.1) (eqvI' e.2.1))
theorem any_pD (q : PC) : ∀ l : List PC, ((l.map pD).any fun z => PyData.eqv z (pD q)) = decide (q ∈ l)
  | [] => rfl
  | p :: l => by
    rw [List.map_cons, List.any_cons, eqv_pD, any_pD q l]
    by_cases h : p = q
    · subst h
      simp
    · have : ¬ q = p := fun z => h z.symm
      simp [h, this]
theorem dp_cD {H : Hp} {a : Addr} {c : List Int} (h : H a = some (.tup (c.map V.int))) : Dp K H (.ref a) (cD c) := .tup (SqT.of h) (dp_ints c)
theorem dp_pD {H : Hp} {p : Addr} {q : PC} (h : PrC H p q) : Dp K H (.ref p) (pD q) := by
  obtain ⟨A, B, e1, e2, e3⟩ := h
  exact .tup (SqT.of e1) (.cons (dp_cD e2) (.cons (dp_cD e3) .nil))
theorem dp_pDs {H : Hp} : ∀ {as : List Addr} {ps : List PC}, PtAt H as ps → DpAll K H (as.map V.ref) (ps.map pD)
  | _, _, .nil => .nil
  | _, _, .cons h t => .cons (dp_pD h) (dp_pDs t)
/-! ### pairs that come in so many steps -/
def RtS (m : Nat) (ds1 ds2 : List Deed) : Nat → PC → Prop
  | 0, q => q = (ds1.map fcD, ds2.map fcD)
  | t + 1, q => ∃ q0 bs, RtS m ds1 ds2 t q0 ∧ bs ∈ allB m ∧ q = nx2 ds1 ds2 q0 bs
/-- some pair that comes in so many steps parts the outs -/
def PrtS (m : Nat) (ds1 : List Deed) (o1 : Int) (ds2 : List Deed) (o2 : Int) (t : Nat) : Prop := ∃ q bs, RtS m ds1 ds2 t q ∧ bs ∈ allB m ∧ ¬ ob ds1 o1 q.1 bs = ob ds2 o2 q.2 bs
/-- the least width at which two rows part, or 0 -/
def LeastW (m : Nat) (ds1 : List Deed) (o1 : Int) (ds2 : List Deed) (o2 : Int) (n : Nat) : Prop := (n = 0 ∧ ∀ t, ¬ PrtS m ds1 o1 ds2 o2 t) ∨ ∃ t, n = t + 1 ∧ PrtS m ds1 o1 ds2 o2 t ∧ ∀ s, s < t → ¬ PrtS m ds1 o1 ds2 o2 s
theorem rt_ok {m : Nat} {ds1 ds2 : List Deed} : ∀ {t : Nat} {q : PC}, RtS m ds1 ds2 t q → PcOk ds1 ds2 q
  | 0, q, h => by
    have h' : q = _ := h
    rw [h']
    exact pc_first ds1 ds2
  | t + 1, q, ⟨q0, bs, h, hb, e⟩ => by
    rw [e]
    exact nx2_ok (rt_ok h) hb
theorem rt_path {m : Nat} {ds1 ds2 : List Deed} : ∀ {cs : List (List Int)}, (∀ c ∈ cs, c ∈ allB m) → RtS m ds1 ds2 cs.length (runC ds1 (ds1.map fcD) cs, runC ds2 (ds2.map fcD) cs) := by
  intro cs
  suffices hh : ∀ (n : Nat) (cs : List (List Int)), cs.length = n → (∀ c ∈ cs, c ∈ allB m) → RtS m ds1 ds2 n (runC ds1 (ds1.map fcD) cs, runC ds2 (ds2.map fcD) cs) from hh cs.length cs rfl
  intro n
  induction n with
  | zero =>
    intro cs hl _
    rw [List.length_eq_zero_iff.mp hl]
    exact rfl
  | succ n ih =>
    intro cs hl hc
    have hne : cs ≠ [] := fun z => by rw [z] at hl; cases hl
    have e := List.dropLast_concat_getLast hne
    rw [← e, runC_snoc, runC_snoc]
    refine ⟨_, cs.getLast hne, ih cs.dropLast (by rw [List.length_dropLast, hl]; rfl) (fun c hc' => hc c (List.dropLast_subset _ hc')), hc _ (List.getLast_mem hne), rfl⟩
theorem bfs_never {m : Nat} {ds1 ds2 : List Deed} {o1 o2 : Int} {ps : List PC} {wy : List (Int × List Int)} (h : Bfs m ds1 o1 ds2 o2 ps wy ps.length) (t : Nat) : ¬ PrtS m ds1 o1 ds2 o2 t := by
  have all : ∀ (t : Nat) q, RtS m ds1 ds2 t q → q ∈ ps := by
    intro t
    induction t with
    | zero =>
      intro q hq
      have hq' : q = _ := hq
      rw [hq']
      exact List.mem_of_getElem? h.first
    | succ t ih =>
      rintro q ⟨q0, bs, h0, hb, rfl⟩
      obtain ⟨i, hi⟩ := List.mem_iff_getElem?.mp (ih q0 h0)
      obtain ⟨_, i', hi', _⟩ := h.done i q0 (List.getElem?_eq_some_iff.mp hi).1 hi bs hb
      exact List.mem_of_getElem? hi'
  rintro ⟨q, bs, hq, hb, hne⟩
  obtain ⟨i, hi⟩ := List.mem_iff_getElem?.mp (all t q hq)
  exact hne (h.done i q (List.getElem?_eq_some_iff.mp hi).1 hi bs hb).1
theorem bfs_firstw {m : Nat} {ds1 ds2 : List Deed} {o1 o2 : Int} {ps : List PC} {wy : List (Int × List Int)} {cu : Nat} {q : PC} {bs : List Int} (h : Bfs m ds1 o1 ds2 o2 ps wy cu) (hq : ps[cu]? = some q) (hb : bs ∈ allB m) (hne : ¬ ob ds1 o1 q.1 bs = ob ds2 o2 q.2 bs) :
    LeastW m ds1 o1 ds2 o2 (path wy cu ++ [bs]).length := by
  have hc := (List.getElem?_eq_some_iff.mp hq).1
  have below : ∀ (t : Nat) q, t ≤ dep wy cu → RtS m ds1 ds2 t q → ∃ i : Nat, ps[i]? = some q ∧ dep wy i ≤ t := by
    intro t
    induction t with
    | zero =>
      intro q _ hq
      have hq' : q = _ := hq
      exact ⟨0, by rw [hq']; exact h.first, Nat.le_refl _⟩
    | succ t ih =>
      rintro q ht ⟨q0, bs, h0, hb, rfl⟩
      obtain ⟨i, hi, hd⟩ := ih q0 (by omega) h0
      have lt : i < cu := by
        by_cases hh : i < cu
        · exact hh
        · have := h.mono cu i (by omega) (List.getElem?_eq_some_iff.mp hi).1
          omega
      obtain ⟨_, i', hi', hd'⟩ := h.done i q0 lt hi bs hb
      exact ⟨i', hi', by omega⟩
  obtain ⟨p1, p2⟩ := bfs_path h cu cu q (Nat.le_refl _) hq
  refine .inr ⟨(path wy cu).length, by rw [List.length_append]; rfl, ⟨q, bs, ?_, hb, hne⟩, fun s hs => ?_⟩
  · rw [p2]
    exact rt_path p1
  · rintro ⟨q', bs', hq', hb', hne'⟩
    have hs' : s < dep wy cu := hs
    obtain ⟨i, hi, hd⟩ := below s q' (by omega) hq'
    have lt : i < cu := by
      by_cases hh : i < cu
      · exact hh
      · have := h.mono cu i (by omega) (List.getElem?_eq_some_iff.mp hi).1
        omega
    exact hne' (h.done i q' lt hi bs' hb').1
theorem least_uniq {m : Nat} {ds1 ds2 : List Deed} {o1 o2 : Int} {n n' : Nat} (h : LeastW m ds1 o1 ds2 o2 n) (h' : LeastW m ds1 o1 ds2 o2 n') : n = n' := by
  rcases h with ⟨rfl, h1⟩ | ⟨t, rfl, h1, h2⟩
  · rcases h' with ⟨rfl, _⟩ | ⟨t', rfl, h1', _⟩
    · rfl
    · exact absurd h1' (h1 t')
  · rcases h' with ⟨rfl, h1'⟩ | ⟨t', rfl, h1', h2'⟩
    · exact absurd h1 (h1' t)
    · have : t = t' := by
        rcases Nat.lt_trichotomy t t' with z | z | z
        · exact absurd h1 (h2' t z)
        · exact z
        · exact absurd h1' (h2 t' z)
      rw [this]
/-- a layer of the law's own walk: all that come in so many steps are met; those met are looked at, or in the layer -/
structure Lay (m : Nat) (ds1 : List Deed) (o1 : Int) (ds2 : List Deed) (o2 : Int) (met layer : List PC) (t : Nat) : Prop where
  nd : met.Nodup
  ok : ∀ q ∈ met, PcOk ds1 ds2 q
  lay : ∀ q ∈ layer, q ∈ met ∧ RtS m ds1 ds2 t q
  all : ∀ q, RtS m ds1 ds2 t q → q ∈ met
  seen : ∀ s q, s < t → RtS m ds1 ds2 s q → ∀ bs ∈ allB m, ob ds1 o1 q.1 bs = ob ds2 o2 q.2 bs
  done : ∀ q ∈ met, q ∉ layer → ∀ bs ∈ allB m, ob ds1 o1 q.1 bs = ob ds2 o2 q.2 bs ∧ nx2 ds1 ds2 q bs ∈ met
/-- the same while the layer is gone through: the first so many are looked at; later ones are new -/
structure LayP (m : Nat) (ds1 : List Deed) (o1 : Int) (ds2 : List Deed) (o2 : Int) (old layer : List PC) (t : Nat) (met later : List PC) (k : Nat) : Prop where
  lay : Lay m ds1 o1 ds2 o2 old layer t
  nd : met.Nodup
  ok : ∀ q ∈ met, PcOk ds1 ds2 q
  split : ∀ q, q ∈ met ↔ q ∈ old ∨ q ∈ later
  len : met.length = old.length + later.length
  news : ∀ q ∈ later, RtS m ds1 ds2 (t + 1) q
  fore : ∀ q ∈ layer.take k, ∀ bs ∈ allB m, ob ds1 o1 q.1 bs = ob ds2 o2 q.2 bs ∧ nx2 ds1 ds2 q bs ∈ met
theorem lay_first (m : Nat) (ds1 : List Deed) (o1 : Int) (ds2 : List Deed) (o2 : Int) : Lay m ds1 o1 ds2 o2 [(ds1.map fcD, ds2.map fcD)] [(ds1.map fcD, ds2.map fcD)] 0 :=
  ⟨by simp, fun q hq => by rw [List.mem_singleton.mp hq]; exact pc_first ds1 ds2, fun q hq => ⟨hq, List.mem_singleton.mp hq⟩, fun q hq => List.mem_singleton.mpr hq, fun s q hs => absurd hs (Nat.not_lt_zero _), fun q hq hn => absurd hq hn⟩
theorem layp_first {m : Nat} {ds1 ds2 : List Deed} {o1 o2 : Int} {met layer : List PC} {t : Nat} (h : Lay m ds1 o1 ds2 o2 met layer t) : LayP m ds1 o1 ds2 o2 met layer t met [] 0 :=
  ⟨h, h.nd, h.ok, fun q => ⟨.inl, fun z => z.elim id fun y => nomatch y⟩, rfl, (fun _ z => nomatch z), (fun _ z => by rw [List.take_zero] at z; cases z)⟩
theorem layp_done {m : Nat} {ds1 ds2 : List Deed} {o1 o2 : Int} {old layer met later : List PC} {t : Nat} (h : LayP m ds1 o1 ds2 o2 old layer t met later layer.length) : Lay m ds1 o1 ds2 o2 met later (t + 1) := by
  have step : ∀ q ∈ old, ∀ bs ∈ allB m, ob ds1 o1 q.1 bs = ob ds2 o2 q.2 bs ∧ nx2 ds1 ds2 q bs ∈ met := fun q hq bs hb => by
    by_cases hl : q ∈ layer
    · exact h.fore q (by rw [List.take_length]; exact hl) bs hb
    · obtain ⟨a, b⟩ := h.lay.done q hq hl bs hb
      exact ⟨a, (h.split _).mpr (.inl b)⟩
  refine ⟨h.nd, h.ok, fun q hq => ⟨(h.split q).mpr (.inr hq), h.news q hq⟩, fun q hq => ?_, fun s q hs hq => ?_, fun q hq hn bs hb => ?_⟩
  · obtain ⟨q0, bs, h0, hb, rfl⟩ := hq
    exact (step q0 (h.lay.all q0 h0) bs hb).2
  · intro bs hb
    by_cases e : s = t
    · subst e
      exact (step q (h.lay.all q hq) bs hb).1
    · exact h.lay.seen s q (by omega) hq bs hb
  · rcases (h.split q).mp hq with z | z
    · exact step q z bs hb
    · exact absurd z hn
theorem lay_end {m : Nat} {ds1 ds2 : List Deed} {o1 o2 : Int} {met : List PC} {t : Nat} (h : Lay m ds1 o1 ds2 o2 met [] t) : LeastW m ds1 o1 ds2 o2 0 := by
  refine .inl ⟨rfl, fun s => ?_⟩
  have cl : ∀ q ∈ met, ∀ bs ∈ allB m, ob ds1 o1 q.1 bs = ob ds2 o2 q.2 bs ∧ nx2 ds1 ds2 q bs ∈ met := fun q hq => h.done q hq (fun z => nomatch z)
  have all : ∀ (d : Nat) q, RtS m ds1 ds2 (t + d) q → q ∈ met := by
    intro d
    induction d with
    | zero => exact fun q hq => h.all q hq
    | succ d ih =>
      rintro q ⟨q0, bs, h0, hb, rfl⟩
      exact (cl q0 (ih q0 h0) bs hb).2
  rintro ⟨q, bs, hq, hb, hne⟩
  by_cases hs : s < t
  · exact hne (h.seen s q hs hq bs hb)
  · have e : s = t + (s - t) := by omega
    rw [e] at hq
    exact hne (cl q (all _ q hq) bs hb).1
theorem layp_part {m : Nat} {ds1 ds2 : List Deed} {o1 o2 : Int} {old layer met later : List PC} {t k : Nat} (h : LayP m ds1 o1 ds2 o2 old layer t met later k) {q : PC} (hq : q ∈ layer) {bs : List Int} (hb : bs ∈ allB m) (hne : ¬ ob ds1 o1 q.1 bs = ob ds2 o2 q.2 bs) : LeastW m ds1 o1 ds2 o2 (t + 1) :=
  .inr ⟨t, rfl, ⟨q, bs, (h.lay.lay q hq).2, hb, hne⟩, fun s hs => fun ⟨q', bs', hq', hb', hne'⟩ => hne' (h.lay.seen s q' hs hq' bs' hb')⟩
/-- one pair of the layer is looked at, by the first so many bits -/
structure LayB (m : Nat) (ds1 : List Deed) (o1 : Int) (ds2 : List Deed) (o2 : Int) (old layer : List PC) (t : Nat) (met later : List PC) (k j : Nat) (q : PC) : Prop where
  p : LayP m ds1 o1 ds2 o2 old layer t met later k
  here : layer[k]? = some q
  bits : ∀ bs ∈ (allB m).take j, ob ds1 o1 q.1 bs = ob ds2 o2 q.2 bs ∧ nx2 ds1 ds2 q bs ∈ met
theorem layb_first {m : Nat} {ds1 ds2 : List Deed} {o1 o2 : Int} {old layer met later : List PC} {t k : Nat} {q : PC} (h : LayP m ds1 o1 ds2 o2 old layer t met later k) (hq : layer[k]? = some q) : LayB m ds1 o1 ds2 o2 old layer t met later k 0 q :=
  ⟨h, hq, (fun _ z => by rw [List.take_zero] at z; cases z)⟩
theorem layb_old {m : Nat} {ds1 ds2 : List Deed} {o1 o2 : Int} {old layer met later : List PC} {t k j : Nat} {q : PC} {bs : List Int} (h : LayB m ds1 o1 ds2 o2 old layer t met later k j q) (hb : (allB m)[j]? = some bs) (he : ob ds1 o1 q.1 bs = ob ds2 o2 q.2 bs) (hi : nx2 ds1 ds2 q bs ∈ met) : LayB m ds1 o1 ds2 o2 old layer t met later k (j + 1) q := by
  refine ⟨h.p, h.here, fun b hb' => ?_⟩
  rw [List.take_add_one, hb] at hb'
  rcases List.mem_append.mp hb' with z | z
  · exact h.bits b z
  · obtain rfl : b = bs := by simpa using z
    exact ⟨he, hi⟩
theorem layb_new {m : Nat} {ds1 ds2 : List Deed} {o1 o2 : Int} {old layer met later : List PC} {t k j : Nat} {q : PC} {bs : List Int} (h : LayB m ds1 o1 ds2 o2 old layer t met later k j q) (hb : (allB m)[j]? = some bs) (he : ob ds1 o1 q.1 bs = ob ds2 o2 q.2 bs) (hi : nx2 ds1 ds2 q bs ∉ met) : LayB m ds1 o1 ds2 o2 old layer t (met ++ [nx2 ds1 ds2 q bs]) (later ++ [nx2 ds1 ds2 q bs]) k (j + 1) q := by
  have hbm := List.mem_of_getElem? hb
  have hql := List.mem_of_getElem? h.here
  have hqm := h.p.lay.lay q hql
  refine ⟨⟨h.p.lay, ?_, fun x hx => ?_, fun x => ?_, ?_, fun x hx => ?_, fun x hx b hb' => ?_⟩, h.here, fun b hb' => ?_⟩
  · refine List.nodup_append.mpr ⟨h.p.nd, by simp, fun a ha b hb z => ?_⟩
    rw [List.mem_singleton.mp hb] at z
    rw [z] at ha
    exact hi ha
  · rcases List.mem_append.mp hx with z | z
    · exact h.p.ok x z
    · rw [List.mem_singleton.mp z]
      exact nx2_ok (rt_ok hqm.2) hbm
  · rw [List.mem_append, List.mem_append, h.p.split x, or_assoc]
  · rw [List.length_append, List.length_append, h.p.len, Nat.add_assoc]
  · rcases List.mem_append.mp hx with z | z
    · exact h.p.news x z
    · rw [List.mem_singleton.mp z]
      exact ⟨q, bs, hqm.2, hbm, rfl⟩
  · obtain ⟨a, c⟩ := h.p.fore x hx b hb'
    exact ⟨a, List.mem_append_left _ c⟩
  · rw [List.take_add_one, hb] at hb'
    rcases List.mem_append.mp hb' with z | z
    · obtain ⟨a, c⟩ := h.bits b z
      exact ⟨a, List.mem_append_left _ c⟩
    · obtain rfl : b = bs := by simpa using z
      exact ⟨he, List.mem_append_right _ List.mem_cons_self⟩
theorem layb_done {m : Nat} {ds1 ds2 : List Deed} {o1 o2 : Int} {old layer met later : List PC} {t k : Nat} {q : PC} (h : LayB m ds1 o1 ds2 o2 old layer t met later k (allB m).length q) : LayP m ds1 o1 ds2 o2 old layer t met later (k + 1) := by
  refine ⟨h.p.lay, h.p.nd, h.p.ok, h.p.split, h.p.len, h.p.news, fun x hx => ?_⟩
  rw [List.take_add_one, h.here] at hx
  rcases List.mem_append.mp hx with z | z
  · exact h.p.fore x z
  · obtain rfl : x = q := by simpa using z
    intro bs hb
    exact h.bits bs (by rw [List.take_length]; exact hb)
/-! ### what pairs of carries tell of worths -/
theorem rtS_crry {m : Nat} {ds1 ds2 : List Deed} {xs : List Int} (hm : xs.length = m) : ∀ t, RtS m ds1 ds2 t (crry ds1 xs t, crry ds2 xs t)
  | 0 => rfl
  | t + 1 => ⟨(crry ds1 xs t, crry ds2 xs t), xs.map (bitA t), rtS_crry hm t, cols_in hm t, rfl⟩
/-- where no pair that comes in less than so many steps parts the outs the worths are one -/
theorem same_worth {m n : Nat} {ds1 ds2 : List Deed} {o1 o2 : Int} {xs : List Int} (ok1 : RowOk m ds1 o1) (ok2 : RowOk m ds2 o2) (nv : ∀ t, t < n → ¬ PrtS m ds1 o1 ds2 o2 t) (hm : xs.length = m) (hx : ∀ x ∈ xs, 0 ≤ x ∧ x < 2 ^ n) :
    (vals (2 ^ n) ds1 xs).getD o1.toNat 0 = (vals (2 ^ n) ds2 xs).getD o2.toNat 0 := by
  have e := bits_eq (v := (vals (2 ^ n) ds1 xs).getD o1.toNat 0) (u := (vals (2 ^ n) ds2 xs).getD o2.toNat 0) n fun t ht => by
    rw [← ob_bit ok1 hm hx ht, ← ob_bit ok2 hm hx ht]
    false_or_by_contra
    rename_i ne
    exact nv t ht ⟨_, xs.map (bitA t), rtS_crry hm t, cols_in hm t, ne⟩
  rwa [wr_range ok1 hm hx, wr_range ok2 hm hx] at e
theorem rtS_swap {m : Nat} {ds1 ds2 : List Deed} : ∀ {t : Nat} {q : PC}, RtS m ds1 ds2 t q → RtS m ds2 ds1 t (q.2, q.1)
  | 0, q, h => by
    have h' : q = _ := h
    rw [h']
    rfl
  | t + 1, q, ⟨q0, bs, h, hb, e⟩ => ⟨(q0.2, q0.1), bs, rtS_swap h, hb, by rw [e]; rfl⟩
theorem prtS_swap {m : Nat} {ds1 ds2 : List Deed} {o1 o2 : Int} {t : Nat} (h : PrtS m ds1 o1 ds2 o2 t) : PrtS m ds2 o2 ds1 o1 t := by
  obtain ⟨q, bs, h1, h2, h3⟩ := h
  exact ⟨(q.2, q.1), bs, rtS_swap h1, h2, fun z => h3 z.symm⟩
theorem leastW_swap {m : Nat} {ds1 ds2 : List Deed} {o1 o2 : Int} {n : Nat} (h : LeastW m ds1 o1 ds2 o2 n) : LeastW m ds2 o2 ds1 o1 n := by
  rcases h with ⟨e, h⟩ | ⟨t, e, h1, h2⟩
  · exact .inl ⟨e, fun t z => h t (prtS_swap z)⟩
  · exact .inr ⟨t, e, prtS_swap h1, fun s hs z => h2 s hs (prtS_swap z)⟩
/-- worths that are one at all widths part no pair that comes -/
theorem never_of {m : Nat} {ds1 ds2 : List Deed} {o1 o2 : Int} {ps : List PC} {wy : List (Int × List Int)} {cu : Nat} {q : PC} {bs : List Int} (h : Bfs m ds1 o1 ds2 o2 ps wy cu) (hq : ps[cu]? = some q) (ok1 : RowOk m ds1 o1) (ok2 : RowOk m ds2 o2) (hb : bs ∈ allB m) (hne : ¬ ob ds1 o1 q.1 bs = ob ds2 o2 q.2 bs)
    (lw : ∀ (n : Nat) (xs : List Int), xs.length = m → (∀ x ∈ xs, 0 ≤ x ∧ x < 2 ^ n) → (vals (2 ^ n) ds2 xs).getD o2.toNat 0 = (vals (2 ^ n) ds1 xs).getD o1.toNat 0) : False := by
  obtain ⟨hall, hpart⟩ := bfs_apart h hq ok1 ok2 hb hne
  exact hpart (lw _ _ (wofL_len m _) (wofL_range hall)).symm
/-! ### alike rows have one least machine, others don't -/
def KdS (cs : List (List Int)) (ns : List Nat) (c : List Int) (k : Nat) : Prop := ∃ i : Nat, cs[i]? = some c ∧ ns[i]? = some k
structure Mch (m : Nat) (ds : List Deed) (o : Int) (cs : List (List Int)) (mac : List MRow) (ns : List Nat) (lm : List MRow) : Prop where
  wm : WM m ds o cs mac
  hl : mac.length = cs.length
  kk : KOk mac ns
  li : LInv mac ns lm ns.length
theorem awLeft {α β γ : Type} {F : γ → β → Prop} {g : α → γ} : ∀ {l : List α} {l2 : List β}, Paired (fun a b => F (g a) b) l l2 → Paired F (l.map g) l2
  | _, _, .nil => .nil
  | _, _, .cons h t => .cons h (awLeft t)
section canon
variable {m : Nat} {ds ds1 ds2 : List Deed} {o o1 o2 : Int} {cs cs1 cs2 : List (List Int)} {mac mac1 mac2 : List MRow} {ns ns1 ns2 : List Nat} {lm lm1 lm2 : List MRow}
theorem Mch.uniq (M : Mch m ds o cs mac ns lm) {c : List Int} {k k' : Nat} (h : KdS cs ns c k) (h' : KdS cs ns c k') : k = k' := by
  obtain ⟨i, a, b⟩ := h
  obtain ⟨j, a', b'⟩ := h'
  rw [nd_idx M.wm.nd a a', b'] at b
  exact (Option.some.inj b).symm
theorem Mch.ex (M : Mch m ds o cs mac ns lm) {c : List Int} (h : c ∈ cs) : ∃ k, KdS cs ns c k := by
  obtain ⟨i, hi⟩ := List.mem_iff_getElem?.mp h
  have hl := M.hl
  have kl := M.kk.len
  have il := (List.getElem?_eq_some_iff.mp hi).1
  exact ⟨ns[i]'(by omega), i, hi, List.getElem?_eq_getElem (by omega)⟩
theorem Mch.first (M : Mch m ds o cs mac ns lm) : KdS cs ns (ds.map fcD) 0 := by
  have hl := M.hl
  have kl := M.kk.len
  have pos := (List.getElem?_eq_some_iff.mp M.wm.first).1
  refine ⟨0, M.wm.first, ?_⟩
  have h0 : ns[0]? = some (ns[0]'(by omega)) := List.getElem?_eq_getElem (by omega)
  have := rg_le M.kk.rg _ _ h0
  rw [h0]
  congr 1
  omega
theorem Mch.row (M : Mch m ds o cs mac ns lm) {c : List Int} {k : Nat} (h : KdS cs ns c k) : Paired (fun (e : Int × Nat) (s : Int × List Int) => e.1 = s.1 ∧ KdS cs ns s.2 e.2) (nxK mac ns k) (stp m ds o c) := by
  obtain ⟨i, a, b⟩ := h
  have hl := M.hl
  have kl := M.kk.len
  have il := (List.getElem?_eq_some_iff.mp a).1
  have er : mac[i]? = some (mac[i]'(by omega)) := List.getElem?_eq_getElem (by omega)
  rw [nxK_at M.kk b er]
  obtain ⟨c', w1, w2⟩ := M.wm.each i _ er
  rw [a] at w1
  obtain rfl := Option.some.inj w1
  refine awLeft (awMap (fun e s z => ?_) w2)
  obtain ⟨z1, j, z2, z3⟩ := z
  have jl := (List.getElem?_eq_some_iff.mp z3).1
  refine ⟨z1, j, z3, ?_⟩
  show ns[j]? = some (ns.getD e.2.toNat 0)
  rw [z2, Int.toNat_natCast, List.getD_eq_getElem?_getD, List.getElem?_eq_getElem (show j < ns.length by omega)]
  rfl
theorem Mch.lt (M : Mch m ds o cs mac ns lm) {c : List Int} {k : Nat} (h : KdS cs ns c k) : k < lm.length := by
  obtain ⟨i, a, b⟩ := h
  exact (linv_mem M.li k).mpr (List.mem_of_getElem? b)
theorem Mch.surj (M : Mch m ds o cs mac ns lm) {k : Nat} (h : k < lm.length) : ∃ c, c ∈ cs ∧ KdS cs ns c k := by
  obtain ⟨i, hi⟩ := List.mem_iff_getElem?.mp ((linv_mem M.li k).mp h)
  have hl := M.hl
  have kl := M.kk.len
  have il := (List.getElem?_eq_some_iff.mp hi).1
  exact ⟨cs[i]'(by omega), List.getElem_mem _, i, List.getElem?_eq_getElem (by omega), hi⟩
theorem Mch.pos (M : Mch m ds o cs mac ns lm) : 0 < lm.length := M.lt M.first
theorem Mch.at (M : Mch m ds o cs mac ns lm) {c bs : List Int} {k t : Nat} (h : KdS cs ns c k) (ht : (allB m)[t]? = some bs) : ∃ k', (nxK mac ns k)[t]? = some (ob ds o c bs, k') ∧ KdS cs ns (nc ds c bs) k' := by
  have es : (stp m ds o c)[t]? = some (ob ds o c bs, nc ds c bs) := by
    unfold stp
    rw [List.getElem?_map, ht]
    rfl
  obtain ⟨⟨b, k'⟩, e1, e2, e3⟩ := awGet2 (M.row h) es
  have e2' : b = ob ds o c bs := e2
  exact ⟨k', by rw [e1, e2'], e3⟩
theorem Mch.len (M : Mch m ds o cs mac ns lm) {c : List Int} {k : Nat} (h : KdS cs ns c k) : (nxK mac ns k).length = (allB m).length := by
  rw [awLen (M.row h)]
  exact List.length_map ..
abbrev Rc (m : Nat) (ds1 ds2 : List Deed) (q : PC) : Prop := ∃ t, RtS m ds1 ds2 t q
theorem rc_first : Rc m ds1 ds2 (ds1.map fcD, ds2.map fcD) := ⟨0, rfl⟩
theorem rc_next {q : PC} {bs : List Int} (h : Rc m ds1 ds2 q) (hb : bs ∈ allB m) : Rc m ds1 ds2 (nc ds1 q.1 bs, nc ds2 q.2 bs) := by
  obtain ⟨t, h⟩ := h
  exact ⟨t + 1, q, bs, h, hb, rfl⟩
theorem rc_swap {q : PC} (h : Rc m ds1 ds2 q) : Rc m ds2 ds1 (q.2, q.1) := by
  obtain ⟨t, h⟩ := h
  exact ⟨t, rtS_swap h⟩
theorem rc_bits (nv : ∀ t, ¬ PrtS m ds1 o1 ds2 o2 t) {q : PC} {bs : List Int} (h : Rc m ds1 ds2 q) (hb : bs ∈ allB m) : ob ds1 o1 q.1 bs = ob ds2 o2 q.2 bs := by
  obtain ⟨t, h⟩ := h
  false_or_by_contra
  rename_i ne
  exact nv t ⟨q, bs, h, hb, ne⟩
/-- each carry comes, with another one beside it -/
theorem Mch.beside (M : Mch m ds2 o2 cs mac ns lm) {c : List Int} (h : c ∈ cs) : ∃ c1, Rc m ds1 ds2 (c1, c) := by
  obtain ⟨i, hi⟩ := List.mem_iff_getElem?.mp h
  have key : ∀ n : Nat, ∀ i c, i ≤ n → cs[i]? = some c → ∃ c1, Rc m ds1 ds2 (c1, c) := by
    intro n
    induction n with
    | zero =>
      intro i c hi e
      obtain rfl : i = 0 := by omega
      rw [M.wm.first] at e
      obtain rfl := Option.some.inj e
      exact ⟨ds1.map fcD, rc_first⟩
    | succ n ih =>
      intro i c hi e
      by_cases h0 : i = 0
      · subst h0
        rw [M.wm.first] at e
        obtain rfl := Option.some.inj e
        exact ⟨ds1.map fcD, rc_first⟩
      · obtain ⟨p, t, a, s, hp, ha, hs, rfl, _⟩ := M.wm.fo i c (by omega) e
        obtain ⟨c1, r⟩ := ih p a (by omega) ha
        unfold stp at hs
        rw [List.getElem?_map] at hs
        obtain ⟨bs, hb, rfl⟩ := Option.map_eq_some_iff.mp hs
        exact ⟨nc ds1 c1 bs, rc_next (q := (c1, a)) r (List.mem_of_getElem? hb)⟩
  exact key i i c (Nat.le_refl i) hi
theorem Mch.mem1 (M : Mch m ds1 o1 cs mac ns lm) {q : PC} (h : Rc m ds1 ds2 q) : ∃ k, KdS cs ns q.1 k := by
  obtain ⟨t, h⟩ := h
  induction t generalizing q with
  | zero =>
    have h' : q = _ := h
    rw [h']
    exact ⟨0, M.first⟩
  | succ t ih =>
    obtain ⟨q0, bs, h0, hb, rfl⟩ := h
    obtain ⟨k, hk⟩ := ih h0
    obtain ⟨j, hj⟩ := List.mem_iff_getElem?.mp hb
    obtain ⟨k', _, e⟩ := M.at hk hj
    exact ⟨k', e⟩
theorem Mch.mem2 (M : Mch m ds2 o2 cs mac ns lm) {q : PC} (h : Rc m ds1 ds2 q) : ∃ k, KdS cs ns q.2 k := M.mem1 (rc_swap h)
/-- kinds of the one tell kinds of the other -/
theorem Mch.wd (M1 : Mch m ds1 o1 cs1 mac1 ns1 lm1) (M2 : Mch m ds2 o2 cs2 mac2 ns2 lm2) (nv : ∀ t, ¬ PrtS m ds1 o1 ds2 o2 t) {q q' : PC} {j k k' : Nat} (h : Rc m ds1 ds2 q) (h' : Rc m ds1 ds2 q') (a : KdS cs2 ns2 q.2 j) (a' : KdS cs2 ns2 q'.2 j)
    (b : KdS cs1 ns1 q.1 k) (b' : KdS cs1 ns1 q'.1 k') : k = k' := by
  obtain ⟨i, b1, b2⟩ := b
  obtain ⟨i', b1', b2'⟩ := b'
  have hl := M1.hl
  have e := M1.kk.crs (fun x y => ∃ (q q' : PC) (j : Nat), Rc m ds1 ds2 q ∧ Rc m ds1 ds2 q' ∧ KdS cs2 ns2 q.2 j ∧ KdS cs2 ns2 q'.2 j ∧ cs1[x]? = some q.1 ∧ cs1[y]? = some q'.1) (fun x y hxy => ?_) i i' ⟨q, q', j, h, h', a, a', b1, b1'⟩
  · rw [b2, b2'] at e
    exact Option.some.inj e
  · obtain ⟨q, q', j, h, h', a, a', c1, c1'⟩ := hxy
    have xl := (List.getElem?_eq_some_iff.mp c1).1
    have yl := (List.getElem?_eq_some_iff.mp c1').1
    have er : mac1[x]? = some (mac1[x]'(by omega)) := List.getElem?_eq_getElem (by omega)
    have er' : mac1[y]? = some (mac1[y]'(by omega)) := List.getElem?_eq_getElem (by omega)
    obtain ⟨c, w1, w2⟩ := M1.wm.each x _ er
    rw [c1] at w1
    obtain rfl := Option.some.inj w1
    obtain ⟨c', w1', w2'⟩ := M1.wm.each y _ er'
    rw [c1'] at w1'
    obtain rfl := Option.some.inj w1'
    refine ⟨_, _, er, er', paired_of (by rw [awLen w2, awLen w2']; unfold stp; rw [List.length_map, List.length_map]) fun t e e' he he' => ?_⟩
    obtain ⟨s, s1, s2, u, s3, s4⟩ := awGet w2 he
    obtain ⟨s', s1', s2', u', s3', s4'⟩ := awGet w2' he'
    unfold stp at s1 s1'
    rw [List.getElem?_map] at s1 s1'
    obtain ⟨bs, hb, rfl⟩ := Option.map_eq_some_iff.mp s1
    rw [hb] at s1'
    obtain rfl := Option.some.inj s1'
    have bm := List.mem_of_getElem? hb
    obtain ⟨k1, g1, g2⟩ := M2.at a hb
    obtain ⟨k2, g1', g2'⟩ := M2.at a' hb
    rw [g1] at g1'
    have gg := Option.some.inj g1'
    obtain ⟨gb, rfl⟩ := Prod.mk.inj gg
    refine ⟨?_, (nc ds1 q.1 bs, nc ds2 q.2 bs), (nc ds1 q'.1 bs, nc ds2 q'.2 bs), k1, rc_next h bm, rc_next h' bm, g2, g2', ?_, ?_⟩
    · rw [s2, s2']
      exact (rc_bits nv h bm).trans (gb.trans (rc_bits nv h' bm).symm)
    · rw [s3, Int.toNat_natCast]
      exact s4
    · rw [s3', Int.toNat_natCast]
      exact s4'
theorem ford_map {L L' : Type} {nx : L → List (Int × L)} {nx' : L' → List (Int × L')} {f : L → L'} {cs : List L} (h : FOrd nx cs) (e : ∀ a ∈ cs, nx' (f a) = (nx a).map fun s => (s.1, f s.2)) : FOrd nx' (cs.map f) := by
  intro k c hk hc
  rw [List.getElem?_map] at hc
  obtain ⟨c0, hc0, rfl⟩ := Option.map_eq_some_iff.mp hc
  obtain ⟨p, t, a, s, hp, ha, hs, rfl, hmin⟩ := h k c0 hk hc0
  refine ⟨p, t, f a, (s.1, f s.2), hp, by rw [List.getElem?_map, ha]; rfl, ?_, rfl, fun p' t' a' s' hlt ha' hs' => ?_⟩
  · rw [e a (List.mem_of_getElem? ha), List.getElem?_map, hs]
    rfl
  · rw [List.getElem?_map] at ha'
    obtain ⟨a0, h0, rfl⟩ := Option.map_eq_some_iff.mp ha'
    rw [e a0 (List.mem_of_getElem? h0), List.getElem?_map] at hs'
    obtain ⟨s0, g0, rfl⟩ := Option.map_eq_some_iff.mp hs'
    obtain ⟨j, j1, j2⟩ := hmin p' t' a0 s0 hlt h0 g0
    exact ⟨j, j1, by rw [List.getElem?_map, j2]; rfl⟩
/-- alike rows have one least machine -/
theorem Mch.one (M1 : Mch m ds1 o1 cs1 mac1 ns1 lm1) (M2 : Mch m ds2 o2 cs2 mac2 ns2 lm2) (nv : ∀ t, ¬ PrtS m ds1 o1 ds2 o2 t) : lm1 = lm2 := by
  have nv' : ∀ t, ¬ PrtS m ds2 o2 ds1 o1 t := fun t h => nv t (prtS_swap h)
  have tot : ∀ j, ∃ k, j < lm2.length → ∃ q, Rc m ds1 ds2 q ∧ KdS cs2 ns2 q.2 j ∧ KdS cs1 ns1 q.1 k := fun j => by
    by_cases hj : j < lm2.length
    · obtain ⟨c2, hc, hk⟩ := M2.surj hj
      obtain ⟨c1, r⟩ := M2.beside (ds1 := ds1) hc
      obtain ⟨k, hk1⟩ := M1.mem1 r
      exact ⟨k, fun _ => ⟨_, r, hk, hk1⟩⟩
    · exact ⟨0, fun z => absurd z hj⟩
  obtain ⟨f, hf⟩ : ∃ f : Nat → Nat, ∀ j, j < lm2.length → ∃ q, Rc m ds1 ds2 q ∧ KdS cs2 ns2 q.2 j ∧ KdS cs1 ns1 q.1 (f j) := ⟨fun j => (tot j).choose, fun j => (tot j).choose_spec⟩
  have fun1 : ∀ {q : PC} {j k : Nat}, Rc m ds1 ds2 q → KdS cs2 ns2 q.2 j → KdS cs1 ns1 q.1 k → k = f j := fun r a b => by
    obtain ⟨q', r', a', b'⟩ := hf _ (M2.lt a)
    exact M1.wd M2 nv r r' a a' b b'
  have inj : ∀ j j', j < lm2.length → j' < lm2.length → f j = f j' → j = j' := fun j j' hj hj' e => by
    obtain ⟨q, r, a, b⟩ := hf j hj
    obtain ⟨q', r', a', b'⟩ := hf j' hj'
    rw [← e] at b'
    exact M2.wd M1 nv' (rc_swap r) (rc_swap r') b b' a a'
  have row : ∀ j, j < lm2.length → nxK mac1 ns1 (f j) = (nxK mac2 ns2 j).map fun s => (s.1, f s.2) := fun j hj => by
    obtain ⟨q, r, a, b⟩ := hf j hj
    have l1 := M1.len b
    have l2 := M2.len a
    refine List.ext_getElem? fun t => ?_
    rw [List.getElem?_map]
    cases ht : (allB m)[t]? with
    | none =>
      have tl := List.getElem?_eq_none_iff.mp ht
      rw [List.getElem?_eq_none (by omega), List.getElem?_eq_none (by omega)]
      rfl
    | some bs =>
      have bm := List.mem_of_getElem? ht
      obtain ⟨k1, g1, g2⟩ := M1.at b ht
      obtain ⟨k2, g1', g2'⟩ := M2.at a ht
      rw [g1, g1', fun1 (rc_next r bm) g2' g2, rc_bits nv r bm]
      rfl
  have f0 : f 0 = 0 := (fun1 rc_first M2.first M1.first).symm
  have p1 := M1.pos
  have p2 := M2.pos
  have ndf : ((List.range lm2.length).map f).Nodup := by
    rw [List.nodup_iff_pairwise_ne, List.pairwise_map]
    refine List.Pairwise.imp_of_mem (fun {a b} ha hb ne z => ne (inj a b (List.mem_range.mp ha) (List.mem_range.mp hb) z)) (List.nodup_iff_pairwise_ne.mp List.nodup_range)
  have clo : ∀ {ds : List Deed} {o : Int} {cs : List (List Int)} {mac : List MRow} {ns : List Nat} {lm : List MRow}, Mch m ds o cs mac ns lm → ∀ a, a < lm.length → ∀ s ∈ nxK mac ns a, s.2 < lm.length := fun M a ha s hs => by
    obtain ⟨c, _, hk⟩ := M.surj ha
    obtain ⟨t, ht⟩ := List.mem_iff_getElem?.mp hs
    obtain ⟨s', _, _, e⟩ := awGet (M.row hk) ht
    exact M.lt e
  have eq := ford_eq List.nodup_range ndf (by rw [List.getElem?_map, List.getElem?_range p1, List.getElem?_range p2, Option.map_some, f0]) (ford_kinds M1.wm M1.hl M1.kk (linv_mem M1.li)) (ford_map (ford_kinds M2.wm M2.hl M2.kk (linv_mem M2.li)) fun a ha => row a (List.mem_range.mp ha))
    (fun a ha s hs => List.mem_range.mpr (clo M1 a (List.mem_range.mp ha) s hs))
    (fun a ha s hs => by
      obtain ⟨j, hj, rfl⟩ := List.mem_map.mp ha
      rw [row j (List.mem_range.mp hj)] at hs
      obtain ⟨s0, h0, rfl⟩ := List.mem_map.mp hs
      exact List.mem_map.mpr ⟨s0.2, List.mem_range.mpr (clo M2 j (List.mem_range.mp hj) s0 h0), rfl⟩)
    (by rwa [List.length_range]) (by rwa [List.length_map, List.length_range])
  have len : lm1.length = lm2.length := by
    have := congrArg List.length eq
    rwa [List.length_range, List.length_map, List.length_range] at this
  have idf : ∀ j, j < lm2.length → f j = j := fun j hj => by
    have h1 : ((List.range lm2.length).map f)[j]? = some (f j) := by rw [List.getElem?_map, List.getElem?_range hj]; rfl
    rw [← eq, List.getElem?_range (by omega)] at h1
    exact (Option.some.inj h1).symm
  refine List.ext_getElem len fun k h1 h2 => ?_
  rw [linv_row M1.li M1.kk (List.getElem?_eq_getElem h1), linv_row M2.li M2.kk (List.getElem?_eq_getElem h2)]
  have rk := row k h2
  rw [idf k h2] at rk
  rw [rk, List.map_map]
  refine List.map_congr_left fun s hs => ?_
  show (s.1, ((f s.2 : Nat) : Int)) = (s.1, (s.2 : Int))
  rw [idf s.2 (clo M2 k h2 s hs)]
/-- rows with one least machine are alike -/
theorem Mch.alike (M1 : Mch m ds1 o1 cs1 mac1 ns1 lm) (M2 : Mch m ds2 o2 cs2 mac2 ns2 lm) (t : Nat) : ¬ PrtS m ds1 o1 ds2 o2 t := by
  have eqk : ∀ k, k < lm.length → nxK mac1 ns1 k = nxK mac2 ns2 k := fun k hk => by
    have e1 := linv_row M1.li M1.kk (List.getElem?_eq_getElem hk)
    have e2 := linv_row M2.li M2.kk (List.getElem?_eq_getElem hk)
    rw [e1] at e2
    refine List.ext_getElem? fun i => ?_
    have e3 := congrArg (fun l : MRow => l[i]?) e2
    simp only [List.getElem?_map] at e3
    cases h1 : (nxK mac1 ns1 k)[i]? with
    | none =>
      rw [h1] at e3
      cases h2 : (nxK mac2 ns2 k)[i]? with
      | none => rfl
      | some y => rw [h2] at e3; cases e3
    | some x =>
      rw [h1] at e3
      cases h2 : (nxK mac2 ns2 k)[i]? with
      | none => rw [h2] at e3; cases e3
      | some y =>
        rw [h2] at e3
        have e4 := Prod.mk.inj (Option.some.inj e3)
        exact congrArg some (Prod.ext e4.1 (Int.ofNat.inj e4.2))
  have both : ∀ t q, RtS m ds1 ds2 t q → ∃ k, KdS cs1 ns1 q.1 k ∧ KdS cs2 ns2 q.2 k := by
    intro t
    induction t with
    | zero =>
      intro q h
      have h' : q = _ := h
      rw [h']
      exact ⟨0, M1.first, M2.first⟩
    | succ t ih =>
      rintro q ⟨q0, bs, h0, hb, rfl⟩
      obtain ⟨k, a, b⟩ := ih q0 h0
      obtain ⟨j, hj⟩ := List.mem_iff_getElem?.mp hb
      obtain ⟨k1, g1, g2⟩ := M1.at a hj
      obtain ⟨k2, g1', g2'⟩ := M2.at b hj
      rw [eqk k (M1.lt a), g1'] at g1
      obtain ⟨_, rfl⟩ := Prod.mk.inj (Option.some.inj g1)
      exact ⟨k2, g2, g2'⟩
  rintro ⟨q, bs, hq, hb, ne⟩
  obtain ⟨k, a, b⟩ := both t q hq
  obtain ⟨j, hj⟩ := List.mem_iff_getElem?.mp hb
  obtain ⟨k1, g1, g2⟩ := M1.at a hj
  obtain ⟨k2, g1', g2'⟩ := M2.at b hj
  rw [eqk k (M1.lt a), g1'] at g1
  exact ne (Prod.mk.inj (Option.some.inj g1)).1.symm
theorem lm_mch (h : LmOk m ds o lm) : ∃ cs mac ns, Mch m ds o cs mac ns lm := by
  obtain ⟨cs, mac, ns, a, b, c, d⟩ := h.src
  exact ⟨cs, mac, ns, a, b, c, d⟩
theorem lm_eq (h1 : LmOk m ds1 o1 lm1) (h2 : LmOk m ds2 o2 lm2) : lm1 = lm2 ↔ ∀ t, ¬ PrtS m ds1 o1 ds2 o2 t := by
  obtain ⟨_, _, _, M1⟩ := lm_mch h1
  obtain ⟨_, _, _, M2⟩ := lm_mch h2
  constructor
  · intro e
    subst e
    exact fun t => M1.alike M2 t
  · exact fun nv => M1.one M2 nv
end canon
/-! ### look_of: what is one for alike rows -/
def stK (row : MRow) : NestedKey := .tup (row.map fun e => .tup [.num e.1, .num e.2])
def lookK (m : Nat) (lm : List MRow) : NestedKey := .tup [.num (m : Int), .tup (lm.map stK)]
theorem lookK_inj {m n : Nat} {a b : List MRow} (h : lookK m a = lookK n b) : m = n ∧ a = b := by
  unfold lookK at h
  injection h with h
  injection h with h1 h2
  injection h2 with h2 _
  injection h1 with h1
  injection h2 with h2
  refine ⟨by exact_mod_cast h1, ?_⟩
  have inj : ∀ r s : MRow, stK r = stK s → r = s := by
    intro r s e
    unfold stK at e
    injection e with e
    induction r generalizing s with
    | nil =>
      cases s with
      | nil => rfl
      | cons _ _ => cases e
    | cons x r ih =>
      cases s with
      | nil => cases e
      | cons y s =>
        rw [List.map_cons, List.map_cons] at e
        injection e with e1 e2
        injection e1 with e1
        injection e1 with a1 a2
        injection a2 with a2 _
        injection a1 with a1
        injection a2 with a2
        rw [ih s e2, Prod.ext a1 a2]
  clear h1
  induction a generalizing b with
  | nil =>
    cases b with
    | nil => rfl
    | cons _ _ => cases h2
  | cons x a ih =>
    cases b with
    | nil => cases h2
    | cons y b =>
      rw [List.map_cons, List.map_cons] at h2
      injection h2 with e1 e2
      rw [inj x y e1, ih e2]
theorem nks_app {H : Hp} : ∀ {ks js : List NestedKey} {xs ys : List V}, NkAll H ks xs → NkAll H js ys → NkAll H (ks ++ js) (xs ++ ys)
  | _, _, _, _, .nil, h => h
  | _, _, _, _, .cons h t, g => .cons h (nks_app t g)
def rTupO2 (K : PySem.W.Frag) : List V → Hp → VK → Prop := fun xs H Q => ∃ p ys, xs = [V.ref p] ∧ ((SqL K H p ys ∧ ∀ (l : Addr), H l = none → Q (.ref l) (upd H l (.tup ys))) ∨ (SqT K H p ys ∧ Q (.ref p) H))
def spLk : Sp := fun vs H Q _ => ∃ (R : Addr) (m : Nat) (o : Int) (ds : List Deed), vs = [.ref R] ∧ RowAt H R m ds o ∧ RowOk m ds o ∧
  ∀ (H' : Hp) (T : Addr) (lm : List MRow), Same H H' → LmOk m ds o lm → NkAt H' (lookK m lm) (.ref T) → Q (.ref T) H'
theorem ok_lk {f fL : Addr} {fd fdL : FuncData} {k : Nat} (F : Fun K "look_of" "look_of" s_look_of f fd)
    (GL : FnOk P w K mg base CX0 (k + 6) fL fdL ["row"] spLm) (kL : PySem.W.keepIn K (.ref fL) = true) (bL : Binds K fdL ["row"] []) (gL : mg "least_machine" = some (.ref fL)) (mt : mg "tuple" = none) : FnOk P w K mg base CX0 (k + 7) f fd ["row"] spLk := by
  refine F.ok sc_look_of (fun vs H Q E h => ?_) (fun cdv A outer s H vs Q E hr h => ?_)
  · obtain ⟨R, m, o, ds, rfl, _⟩ := h
    rfl
  · obtain ⟨R, m, o, ds, rfl, hrow, ok, q⟩ := h
    refine ⟨_, pss_one (ps_ret (pe_tup (pa_cons (pe_ix ix_tup (pv 0) pe_int (fun _ _ => rfl)) (pa_cons (pe_callTy call_tuple_of (by rfl) mt (by decide +kernel) (pa_cons (pe_lc (own := [("state", 1)]) (g := gName 1) (by rfl) sc_look_of.nd (pi_list (pe_call GL hr (by rfl) gL kL bL .nil pass0 (pa_cons (pv 0) pa_nil))) (blkOk_by (own := [("state", 1)]) (N := N_look_of) (sc := defScope s_look_of) (by decide +kernel)) (fun _ _ _ _ _ => pg_name (i := 1) sc_look_of.nd rfl (Or.inl rfl)) (fun _ _ _ _ _ => pts_nil) (fun _ _ _ _ _ => pe_callTy (T := "tuple") (r := rTupO2 K) call_tuple_of (by rfl) mt (by decide +kernel) (pa_cons (pv 1) pa_nil))) pa_nil)) pa_nil)))), ?_⟩
    obtain ⟨D, rs, eR, eD, hd⟩ := id hrow
    refine ⟨.ref R, rfl, R, _, 0, .int (m : Int), rfl, rfl, SqT.of eR, atI_nat (j := 0) rfl, .ref R, rfl, R, m, o, ds, rfl, hrow, ok, fun H1 p ls lm s1 hp ep hm lok => ?_⟩
    refine ⟨p, rfl, ⟨_, .inl (.inl ep)⟩, fun C hC => ?_⟩
    have sC0 := same_new (o := .lst []) hC
    refine lc_list (K := K) (a := p) (xs := ls.map V.ref) (fun i H4 => ∃ ts : List Addr, H4 C = some (.lst (ts.map V.ref)) ∧ ts.length = i ∧ NkAll H4 ((lm.take i).map stK) (ts.map V.ref) ∧ Same H1 H4) ⟨[], upd_same, rfl, by rw [List.take_zero]; exact .nil, sC0⟩ (fun i H4 _ hq => ?_) (fun i x H4 hx hq => ?_) (fun H4 hq => ?_)
    · obtain ⟨ts, _, _, _, s4⟩ := hq
      exact .inl (.inl (s4 _ _ ep))
    · obtain ⟨ts, eC, tl, hk, s4⟩ := hq
      rw [List.getElem?_map] at hx
      obtain ⟨l, hl, rfl⟩ := Option.map_eq_some_iff.mp hx
      obtain ⟨row, hr1, hr2⟩ := awGet hm hl
      obtain ⟨qs, el, hqs⟩ := hr2
      have el4 := s4 _ _ el
      refine ⟨rfl, .ref l, rfl, l, _, rfl, .inl ⟨.inl (.inl el4), fun T hT => ?_⟩⟩
      have sT := same_new (o := .tup (qs.map V.ref)) hT
      have hj := (List.getElem?_eq_some_iff.mp hr1).1
      have few := lok.few
      have nCT : ∀ b o', H1 b = some o' → b ≠ C := fun b o' e => ne_of_none e hC
      refine ⟨ts.map V.ref, sT _ _ eC, by rw [List.length_map, tl, sizeLine_eq]; omega, ts ++ [T], by rw [upd_same, List.map_append]; rfl, by rw [List.length_append, tl]; rfl, ?_, fun b o' e => by rw [upd_ne (nCT b o' e)]; exact sT _ _ (s4 _ _ e)⟩
      have tC : TupsStay (upd H4 T (.tup (qs.map V.ref))) (upd (upd H4 T (.tup (qs.map V.ref))) C (.lst (ts.map V.ref ++ [.ref T]))) := fun b xs e => by
        rw [upd_ne (ne_of e (sT _ _ eC) (fun z => nomatch z))]
        exact e
      have pairs : ∀ {G : Hp} {qs : List Addr} {r : MRow}, PrAt G qs r → NkAll G (r.map fun e => .tup [.num e.1, .num e.2]) (qs.map V.ref) := by
        intro G qs r h
        induction h with
        | nil => exact .nil
        | cons h _ ih => exact .cons (.tup h (.cons (.num _) (.cons (.num _) .nil))) ih
      have hT2 : NkAt (upd (upd H4 T (.tup (qs.map V.ref))) C (.lst (ts.map V.ref ++ [.ref T]))) (stK row) (.ref T) := .tup (tC _ _ upd_same) (nks_stay ((Same.tups (s4.trans sT)).trans tC) _ _ (pairs hqs))
      rw [List.take_add_one, hr1, List.map_append, List.map_append]
      exact nks_app (nks_stay ((Same.tups sT).trans tC) _ _ hk) (.cons hT2 .nil)
    · obtain ⟨ts, eC, tl, hk, s4⟩ := hq
      rw [List.length_map, awLen hm, List.take_length] at hk
      refine ⟨C, _, rfl, .inl ⟨.inl (.inl eC), fun T hT => ⟨(by show 2 ≤ sizeLine; decide), fun U hU => ?_⟩⟩⟩
      have sT := same_new (o := .tup (ts.map V.ref)) hT
      have sU := same_new (o := .tup [.int (m : Int), .ref T]) hU
      have t2 := Same.tups (sT.trans sU)
      refine q _ U lm (s1.trans (s4.trans (sT.trans sU))) lok (.tup upd_same (.cons (.num _) (.cons (.tup (sU _ _ upd_same) (nks_stay t2 _ _ hk)) .nil)))
/-! ### slices of tuples (the first part of sec_bent) -/
section slz
variable {X : Cx}
def rSlZ : V → Option Int → Option Int → Hp → VK → Prop := fun x lo hi H Q => ∃ a xs, x = .ref a ∧ H a = some (.tup xs) ∧ ∀ p H2, Same H H2 → H2 p = some (.tup (cutV xs lo hi)) → Q (.ref p) H2
theorem sl_tupZ : SlR X rSlZ := by
  intro pins s σ H x v vl vu lo hi sl Q I rx hs hl hh h
  obtain ⟨a, xs, rfl, ha, q⟩ := h
  refine sl_tupA pins s σ H _ v vl vu lo hi sl Q I rx hs hl hh ⟨a, xs, rfl, SqT.of ha, fun z => ?_, fun _ p hp => q p _ (same_new hp) upd_same⟩
  refine q a H (Same.refl H) ?_
  have e : cutV xs lo hi = xs := by
    unfold cutV
    rw [z.1, z.2, List.drop_zero, Nat.sub_zero, List.take_length]
  rw [e]
  exact ha
end slz
theorem cut_take (xs : List V) (k : Nat) : cutV xs none (some (k : Int)) = xs.take k := by
  unfold cutV
  rw [HT.sIx_none, HT.sIx_nat, List.drop_zero, Nat.sub_zero]
  by_cases h : k ≤ xs.length
  · rw [Nat.min_eq_left h]
  · rw [Nat.min_eq_right (by omega), List.take_length, List.take_of_length_le (by omega)]
theorem cut_drop (xs : List V) (k : Nat) : cutV xs (some (k : Int)) none = xs.drop k := by
  unfold cutV
  rw [HT.sIx_none, HT.sIx_nat]
  by_cases h : k ≤ xs.length
  · rw [Nat.min_eq_left h, List.take_of_length_le (by rw [List.length_drop]; omega)]
  · rw [Nat.min_eq_right (by omega), Nat.sub_self, List.take_zero, List.drop_of_length_le (by omega)]
theorem cutTake {xs : List V} {k : Nat} (h : k ≤ xs.length) : cutV xs none (some (k : Int)) = xs.take k := by
  have h1 : HT.sIx xs.length 0 none = 0 := HT.sIx_none _ _
  have h2 : HT.sIx xs.length xs.length (some (k : Int)) = min k xs.length := HT.sIx_nat _ _ k
  unfold cutV
  rw [h1, h2, Nat.min_eq_left h, Nat.sub_zero]
  rfl
/-! ### numbers changed -/
def renD (nu : List Int) (d : Deed) : Deed := (d.1, d.2.map fun z => nu.getD z.toNat 0)
theorem fw_len {m : Int} {d : Deed} (h : DeedOk m d) : d.2.length ≤ 2 := by
  have := (fw_short _ h.word).2.2
  have e2 : (d.2.length : Int) ≤ 2 := this
  omega
theorem ren_ok {nu : List Int} {d : Deed} {m : Int} (h : DeedOk nu.length d) (hn : ∀ x ∈ nu, 0 ≤ x ∧ x < m) : DeedOk m (renD nu d) := by
  refine ⟨?_, ?_⟩
  · show (d.1, ((d.2.map _).length : Int)) ∈ fwL
    rw [List.length_map]
    exact h.word
  · intro i hi
    obtain ⟨z, hz, rfl⟩ := List.mem_map.mp hi
    obtain ⟨z0, z1⟩ := h.ahead z hz
    have hk : z.toNat < nu.length := by omega
    rw [List.getD_eq_getElem?_getD, List.getElem?_eq_getElem hk]
    exact hn _ (List.getElem_mem hk)
/-! ### names, the class Book -/
abbrev sBook___init__ : Stmt := inClass c_Book 0
abbrev sBook_check_kept : Stmt := inClass c_Book 1
abbrev sBook_tell : Stmt := inClass c_Book 2
abbrev sBook_forget : Stmt := inClass c_Book 3
abbrev sBook_back : Stmt := inClass c_Book 4
abbrev sBook_row : Stmt := inClass c_Book 5
abbrev sBook_names : Stmt := inClass c_Book 6
theorem scBi : FnScope ["self"] ["self"] (defScope sBook___init__) := ⟨rfl, rfl, rfl, by decide +kernel, rfl, by decide +kernel, by decide +kernel⟩
theorem scBc : FnScope ["self", "name"] ["self", "name"] (defScope sBook_check_kept) := ⟨rfl, rfl, rfl, by decide +kernel, rfl, by decide +kernel, by decide +kernel⟩
theorem scBt : FnScope ["self", "name", "row"] ["self", "name", "row"] (defScope sBook_tell) := ⟨rfl, rfl, rfl, by decide +kernel, rfl, by decide +kernel, by decide +kernel⟩
theorem scBf : FnScope ["self", "name"] ["self", "name"] (defScope sBook_forget) := ⟨rfl, rfl, rfl, by decide +kernel, rfl, by decide +kernel, by decide +kernel⟩
theorem scBb : FnScope ["self", "name", "row"] ["self"] (defScope sBook_back) := ⟨rfl, rfl, rfl, by decide +kernel, rfl, by decide +kernel, by decide +kernel⟩
theorem scBr : FnScope ["self", "name"] ["self", "name"] (defScope sBook_row) := ⟨rfl, rfl, rfl, by decide +kernel, rfl, by decide +kernel, by decide +kernel⟩
theorem scBn : FnScope ["self"] ["self"] (defScope sBook_names) := ⟨rfl, rfl, rfl, by decide +kernel, rfl, by decide +kernel, by decide +kernel⟩
def letS : Str := "abcdefghijklmnopqrstuvwxyz"
def isLet (c : Nat) : Bool := decide (c ∈ letS.cps.toList)
def nameS (t : Str) : Bool := decide (1 ≤ t.length ∧ t.length ≤ 8) && t.cps.toList.all isLet
def nameB : PyData → Bool
  | .str t => nameS t
  | _ => false
def spIn : Sp := fun vs H Q _ => ∃ (N : Addr → Prop) (x : V) (d : PyData), vs = [x] ∧ AnyAt N H x d ∧ (∀ t, d = .str t → t.length ≤ 100000) ∧ ∀ H', Same H H' → Q (.bl (nameB d)) H'
theorem ok_in {f : Addr} {t1 t2 : Tok} {fd : FuncData} {k : Nat} (F : Fun K "is_name" "is_name" s_is_name f fd) (gF : mg "LETTERS" = some (.str letS t1)) (gM : mg "LONGEST_NAME" = some (.int 8 t2)) (mi : mg "isinstance" = none) (mS : mg "str" = none) (mn : mg "len" = none) (ma : mg "all" = none) : FnOk P w K mg base CX0 (k + 1) f fd ["thing"] spIn := by
  refine F.ok sc_is_name (fun vs H Q E h => ?_) (fun cdv A outer s H vs Q E hr h => ?_)
  · obtain ⟨N, x, d, rfl, _⟩ := h
    rfl
  · obtain ⟨N, x, d, rfl, hx, hl, q⟩ := h
    refine ⟨_, pss_cons (ps_if (PW.pt (pw_or (pt_not (pt_val (pe_callB call_isi (by rfl) mi (by decide +kernel) (pa_cons (pv 0) (pa_cons (pe_bltn (v := .ty "str") (by rfl) mS (by decide +kernel) rfl) pa_nil))))) (pw_or1 (pt_not (pt_chain op_le op_le pe_int (pe_callB call_len_str (by rfl) mn PySem.boot_len (pa_cons (pv 0) pa_nil)) (pe_glob (v := .int 8) (by rfl) gM ⟨t2, rfl⟩)))))) (pss_one (ps_ret pe_bl)) pss_nil)
      (pss_one (ps_ret (pe_callB (cr_all rfl) (by rfl) ma (by decide +kernel) (pa_cons
          (pe_lc (own := [("sign", 1)]) (g := gName 1) (by rfl) sc_is_name.nd (pi_str (pv 0)) (blkOk_by (own := [("sign", 1)]) (N := N_is_name) (sc := defScope s_is_name) (by decide +kernel))
            (fun _ _ _ _ _ => pg_name (i := 1) sc_is_name.nd rfl (Or.inl rfl)) (fun _ _ _ _ _ => pts_nil)
            (fun _ _ _ _ _ => pe_cmpR op_in_sign (pv 1) (pe_glob (v := .str letS) (by rfl) gF ⟨t1, rfl⟩) (by rfl))) pa_nil)))), ?_⟩
    refine ⟨x, rfl, isi_str hx ⟨_, rfl, ?_⟩⟩
    cases hi : isStrD d with
    | false =>
      cases d <;> first | exact q H (Same.refl H) | exact Bool.noConfusion hi
    | true =>
    obtain ⟨z, rfl⟩ : ∃ z, d = .str z := by
      cases d <;> first | exact ⟨_, rfl⟩ | exact Bool.noConfusion hi
    obtain rfl := any_str hx
    have hz := hl z rfl
    have hzs : z.length ≤ sizeLine := by rw [sizeLine_eq]; omega
    have bad : ¬ (1 ≤ z.length ∧ z.length ≤ 8) → Q (.bl false) H := fun hn => by
      have := q H (Same.refl H)
      have e : nameB (.str z) = false := by
        show (decide (1 ≤ z.length ∧ z.length ≤ 8) && _) = false
        rw [decide_eq_false hn, Bool.false_and]
      rw [e] at this
      exact this
    refine ⟨.str z, rfl, z, rfl, hzs, 1, _, rfl, rfl, _, rfl, ?_⟩
    by_cases h1 : (1 : Int) ≤ (z.length : Int)
    · rw [decide_eq_true h1]
      refine ⟨_, 8, rfl, rfl, _, rfl, ?_⟩
      by_cases h8 : (z.length : Int) ≤ 8
      · rw [decide_eq_true h8]
        have hl8 : 1 ≤ z.length ∧ z.length ≤ 8 := by omega
        refine ⟨.str z, rfl, z, rfl, fun C hC => ?_⟩
        have sC : ∀ o, Same H (upd H C o) := fun o => same_new hC
        have esz : z.cps.size = z.cps.toList.length := by simp
        have hl9 : z.cps.toList.length ≤ 8 := by rw [← esz]; exact hl8.2
        refine lc_it (walk_str (z := z)) (fun j H4 => H4 = upd H C (.lst (((z.cps.toList.take j).map isLet).map V.bl))) rfl (fun _ _ _ _ => trivial) (fun j x H4 H5 hj h4 hx => ?_) (fun H4 h4 => ?_)
        · obtain ⟨rfl, c, hc, rfl⟩ := hx
          subst h4
          have hc' : z.cps.toList[j]? = some c := by
            rw [Array.getElem?_toList]
            exact hc
          refine ⟨rfl, .str ⟨#[c]⟩, rfl, c, _, rfl, rfl, _, upd_same, ?_, ?_⟩
          · rw [List.length_map, List.length_map, List.length_take]
            exact small1000 (by omega)
          · rw [upd_upd, List.take_add_one, hc']
            simp [isLet]
        · have eC : H4 C = some (.lst ((z.cps.toList.map isLet).map V.bl)) := by rw [h4, upd_same, esz, List.take_length]
          have s4 : Same H H4 := by rw [h4]; exact sC _
          have ea : (z.cps.toList.map isLet).all id = z.cps.toList.all isLet := by rw [List.all_map]; rfl
          refine ⟨C, _, rfl, .inl (.inl eC), ?_⟩
          rw [ea]
          have := q H4 s4
          have e : nameB (.str z) = z.cps.toList.all isLet := by
            show (decide (1 ≤ z.length ∧ z.length ≤ 8) && _) = _
            rw [decide_eq_true hl8, Bool.true_and]
          rw [e] at this
          exact this
      · rw [decide_eq_false h8]
        exact bad (by omega)
    · rw [decide_eq_false h1]
      exact ⟨false, rfl, bad (by omega)⟩
/-! ### what a book's methods do where nothing is refused -/
theorem pss_neverB {X : Cx} {l : List Stmt} : PSs X l (fun _ _ _ => False) := ⟨fun _ _ _ _ _ _ h => h.elim⟩
theorem b_kd : ¬ ("kept" : Str) = "done" := by decide +kernel
theorem b_kl : ¬ ("kept" : Str) = "looks" := by decide +kernel
theorem b_dl : ¬ ("done" : Str) = "looks" := by decide +kernel
def bF (Kd Dn Lk : Addr) : List (Str × V) := putF "looks" (.ref Lk) (putF "done" (.ref Dn) (putF "kept" (.ref Kd) []))
theorem bF_kept (Kd Dn Lk : Addr) : (bF Kd Dn Lk).lookup ("kept" : Str) = some (.ref Kd) := by
  unfold bF
  rw [lookup_putF, if_neg b_kl, lookup_putF, if_neg b_kd, lookup_putF, if_pos rfl]
theorem bF_done (Kd Dn Lk : Addr) : (bF Kd Dn Lk).lookup ("done" : Str) = some (.ref Dn) := by
  unfold bF
  rw [lookup_putF, if_neg b_dl, lookup_putF, if_pos rfl]
theorem bF_looks (Kd Dn Lk : Addr) : (bF Kd Dn Lk).lookup ("looks" : Str) = some (.ref Lk) := by
  unfold bF
  rw [lookup_putF, if_pos rfl]
theorem bF_no (Kd Dn Lk : Addr) {m : Str} (h1 : ¬ m = "looks") (h2 : ¬ m = "done") (h3 : ¬ m = "kept") : (bF Kd Dn Lk).lookup m = none := by
  unfold bF
  rw [lookup_putF, if_neg h1, lookup_putF, if_neg h2, lookup_putF, if_neg h3]
  rfl
structure BCls (K : PySem.W.Frag) (mg : Str → Option Value) (C : Addr) : Prop where
  cl : Cls K C
  nK : NoAttr K C "kept"
  nD : NoAttr K C "done"
  nL : NoAttr K C "looks"
  mgC : mg "Book" = some (.ref C)
def oR : Option Addr → V
  | some r => .ref r
  | none => .non
abbrev Dn1 := Str × Option Addr
abbrev DnAt (H : Hp) : List Addr → List Dn1 → Prop := Paired fun t e => H t = some (.tup [.str e.1, oR e.2])
abbrev Kvs := List (Key × V)
def KvOk (kvs : Kvs) : Prop := ∀ e ∈ kvs, ∃ t r, e = ((Sum.inr t : Key), V.ref r)
theorem kv_put {kvs : Kvs} (h : KvOk kvs) (t : Str) (r : Addr) : KvOk (putK kvs (Sum.inr t) (.ref r)) := fun e he => by
  unfold putK at he
  by_cases hc : (kvs.any fun kv => decide (kv.1 = (Sum.inr t : Key))) = true
  · rw [if_pos hc] at he
    obtain ⟨x, hx, rfl⟩ := List.mem_map.mp he
    by_cases hk : x.1 = (Sum.inr t : Key)
    · rw [if_pos hk, hk]
      exact ⟨t, r, rfl⟩
    · rw [if_neg hk]
      exact h x hx
  · rw [if_neg hc] at he
    rcases List.mem_append.mp he with he | he
    · exact h e he
    · rw [List.mem_singleton.mp he]
      exact ⟨t, r, rfl⟩
theorem kv_drop {kvs : Kvs} (h : KvOk kvs) (t : Str) : KvOk (dropK kvs (Sum.inr t)) := fun e he => h e (List.mem_filter.mp he).1
theorem kv_get {kvs : Kvs} (h : KvOk kvs) {t : Str} {v : V} (e : valV kvs (Sum.inr t) = some v) : ∃ r, v = .ref r := by
  unfold valV at e
  obtain ⟨x, hx, rfl⟩ := Option.map_eq_some_iff.mp e
  obtain ⟨_, r, rfl⟩ := h x (List.mem_of_find?_eq_some hx)
  exact ⟨r, rfl⟩
/-- a book: its dict of names, what may be undone -/
structure BkAt (C : Addr) (H : Hp) (p Kd Dn Lk : Addr) (kvs : Kvs) (dn : List Dn1) : Prop where
  ob : ∃ dx, H p = some (.ins C dx (bF Kd Dn Lk))
  kept : H Kd = some (.dK kvs)
  done : ∃ ts, H Dn = some (.lst (ts.map V.ref)) ∧ DnAt H ts dn
  ok : KvOk kvs
  few : kvs.length ≤ 1000000
theorem BkAt.stay {C : Addr} {H H' : Hp} {p Kd Dn Lk : Addr} {kvs : Kvs} {dn : List Dn1} (h : BkAt C H p Kd Dn Lk kvs dn) (k : ∀ c o, (c = p ∨ c = Kd ∨ c = Dn) → H c = some o → H' c = some o) (t : TupsStay H H') : BkAt C H' p Kd Dn Lk kvs dn := by
  obtain ⟨⟨dx, ob⟩, kept, ⟨ts, e1, e2⟩, ok, few⟩ := h
  exact ⟨⟨dx, k _ _ (.inl rfl) ob⟩, k _ _ (.inr (.inl rfl)) kept, ⟨ts, k _ _ (.inr (.inr rfl)) e1, awMap (fun _ _ e => t _ _ e) e2⟩, ok, few⟩
theorem BkAt.same {C : Addr} {H H' : Hp} {p Kd Dn Lk : Addr} {kvs : Kvs} {dn : List Dn1} (h : BkAt C H p Kd Dn Lk kvs dn) (s : Same H H') : BkAt C H' p Kd Dn Lk kvs dn := h.stay (fun c o _ e => s c o e) (Same.tups s)
theorem any_s {N : Addr → Prop} {H : Hp} (t : Str) : AnyAt N H (.str t) (.str t) := .str t
def spCn : Sp := fun vs H Q _ => ∃ t : Str, vs = [.str t] ∧ nameS t = true ∧ ∀ H', Same H H' → Q .non H'
theorem nameS_len {t : Str} (h : nameS t = true) : t.length ≤ 8 := by
  unfold nameS at h
  rw [Bool.and_eq_true] at h
  exact (of_decide_eq_true h.1).2
theorem ok_cn {f fI : Addr} {fd fdI : FuncData} {k : Nat} (F : Fun K "check_name" "check_name" s_check_name f fd)
    (GI : FnOk P w K mg base CX0 (k + 1) fI fdI ["thing"] spIn) (kI : PySem.W.keepIn K (.ref fI) = true) (bI : Binds K fdI ["thing"] []) (gI : mg "is_name" = some (.ref fI)) : FnOk P w K mg base CX0 (k + 2) f fd ["thing"] spCn := by
  refine F.ok sc_check_name (fun vs H Q E h => ?_) (fun cdv A outer s H vs Q E hr h => ?_)
  · obtain ⟨t, rfl, _⟩ := h
    rfl
  · obtain ⟨t, rfl, ht, q⟩ := h
    refine ⟨_, pss_one (ps_if (pt_not (pt_val (pe_call GI hr (by rfl) gI kI bI .nil pass0 (pa_cons (pv 0) pa_nil)))) pss_neverB pss_nil), ?_⟩
    refine ⟨.str t, rfl, fun _ => False, .str t, .str t, rfl, .str t, fun t2 e => by injection e with e; rw [← e]; have := nameS_len ht; omega, fun H1 s1 => ⟨_, rfl, ?_⟩⟩
    have e : nameB (.str t) = true := ht
    rw [e]
    exact iteF (q H1 s1)
def spBi (P : Program) (w : World) (C : Addr) : Sp := fun vs H Q _ => ∃ (p dx : Addr), vs = [.ref p] ∧ H p = some (.ins C dx []) ∧
  ∀ H' Kd Dn Lk, BkAt C H' p Kd Dn Lk [] [] → H' Lk = some (NDO P w Lk []) → H Kd = none → H Dn = none → H Lk = none → (∀ c o, c ≠ p → H c = some o → H' c = some o) → Q .non H'
def spBc (C : Addr) : Sp := fun vs H Q _ => ∃ (p Kd Dn Lk : Addr) (kvs : Kvs) (dn : List Dn1) (t : Str), vs = [.ref p, .str t] ∧ BkAt C H p Kd Dn Lk kvs dn ∧ nameS t = true ∧ (valV kvs (Sum.inr t)).isSome = true ∧ ∀ H', Same H H' → Q .non H'
theorem ok_bc {f fN C : Addr} {fd fdN : FuncData} {k : Nat} (F : Fun K "check_kept" "Book.check_kept" sBook_check_kept f fd) (T : BCls K mg C)
    (GN : FnOk P w K mg base CX0 (k + 2) fN fdN ["thing"] spCn) (kN : PySem.W.keepIn K (.ref fN) = true) (bN : Binds K fdN ["thing"] []) (gN : mg "check_name" = some (.ref fN)) : FnOk P w K mg base CX0 (k + 3) f fd ["self", "name"] (spBc C) := by
  refine F.ok scBc (fun vs H Q E h => ?_) (fun cdv A outer s H vs Q E hr h => ?_)
  · obtain ⟨p, Kd, Dn, Lk, kvs, dn, t, rfl, _⟩ := h
    rfl
  · obtain ⟨p, Kd, Dn, Lk, kvs, dn, t, rfl, hb, ht, hk, q⟩ := h
    refine ⟨_, pss_cons (ps_expr (pe_call GN hr (by rfl) gN kN bN .nil pass0 (pa_cons (pv 1) pa_nil)))
      (pss_one (ps_if (pt_cmp (pc_dnotin (hu_of hr) (pv 1) (pe_fld (pv 0) rfl))) pss_neverB pss_nil)), ?_⟩
    refine ⟨.str t, rfl, t, rfl, ht, fun H1 s1 => ?_⟩
    have hb1 := hb.same s1
    obtain ⟨dx, ob⟩ := hb1.ob
    refine ⟨.str t, rfl, .ref p, rfl, p, C, dx, _, _, rfl, ob, T.cl, T.nK, bF_kept _ _ _, Kd, _, rfl, DGet.k (k := Sum.inr t) hb1.kept, _, rfl, ?_⟩
    rw [hk]
    exact iteF (q H1 s1)
/-! ### a book's __init__, row, names, forget, tell, back, where nothing is refused -/
theorem ok_bi {f C : Addr} {fd : FuncData} {k : Nat} (F : Fun K "__init__" "Book.__init__" sBook___init__ f fd) (T : BCls K mg C) : FnOk P w K mg base CX0 (k + 1) f fd ["self"] (spBi P w C) := by
  refine F.ok scBi (fun vs H Q E h => ?_) (fun cdv A outer s H vs Q E hr h => ?_)
  · obtain ⟨p, dx, rfl, _⟩ := h
    rfl
  · obtain ⟨p, dx, rfl, hp, q⟩ := h
    refine ⟨_, pss_cons (ps_fld (pv 0) pe_dnewK rfl) (pss_cons (ps_fld (pv 0) (pe_lst pa_nil) rfl) (pss_one (ps_fld (pv 0) (pe_ndnew rfl rfl) rfl))), ?_⟩
    intro Kd hKd
    have sK := same_new (o := .dK []) hKd
    have npK : p ≠ Kd := ne_of_none hp hKd
    refine ⟨.ref p, rfl, p, C, dx, [], rfl, sK _ _ hp, T.cl, T.nK, (by show 0 < 1000; decide), ?_⟩
    have k1 : ∀ c o, c ≠ p → H c = some o → upd (upd H Kd (.dK [])) p (.ins C dx (putF "kept" (.ref Kd) [])) c = some o := fun c o n e => by
      rw [upd_ne n]
      exact sK _ _ e
    have ep1 : upd (upd H Kd (.dK [])) p (.ins C dx (putF "kept" (.ref Kd) [])) p = some (.ins C dx (putF "kept" (.ref Kd) [])) := upd_same
    have eK1 : upd (upd H Kd (.dK [])) p (.ins C dx (putF "kept" (.ref Kd) [])) Kd = some (.dK []) := by
      rw [upd_ne npK.symm]
      exact upd_same
    generalize upd (upd H Kd (.dK [])) p (.ins C dx (putF "kept" (.ref Kd) [])) = H1 at k1 ep1 eK1
    refine ⟨Nat.zero_le _, fun Dn hDn => ?_⟩
    have sD := same_new (o := .lst []) hDn
    have npD : p ≠ Dn := ne_of_none ep1 hDn
    have hDn0 : H Dn = none := by
      cases e : H Dn with
      | none => rfl
      | some o => rw [k1 _ o npD.symm e] at hDn; cases hDn
    refine ⟨.ref p, rfl, p, C, dx, _, rfl, sD _ _ ep1, T.cl, T.nD, (by show 1 < 1000; decide), ?_⟩
    have k2 : ∀ c o, c ≠ p → H1 c = some o → upd (upd H1 Dn (.lst [])) p (.ins C dx (putF "done" (.ref Dn) (putF "kept" (.ref Kd) []))) c = some o := fun c o n e => by
      rw [upd_ne n]
      exact sD _ _ e
    have ep2 : upd (upd H1 Dn (.lst [])) p (.ins C dx (putF "done" (.ref Dn) (putF "kept" (.ref Kd) []))) p = some (.ins C dx (putF "done" (.ref Dn) (putF "kept" (.ref Kd) []))) := upd_same
    have eD2 : upd (upd H1 Dn (.lst [])) p (.ins C dx (putF "done" (.ref Dn) (putF "kept" (.ref Kd) []))) Dn = some (.lst []) := by
      rw [upd_ne npD.symm]
      exact upd_same
    generalize upd (upd H1 Dn (.lst [])) p (.ins C dx (putF "done" (.ref Dn) (putF "kept" (.ref Kd) []))) = H2 at k2 ep2 eD2
    have eK2 := k2 _ _ npK.symm eK1
    intro Lk hLk
    have sL := same_new (o := NDO P w Lk []) hLk
    have npL : p ≠ Lk := ne_of_none ep2 hLk
    have hLk0 : H Lk = none := by
      cases e : H Lk with
      | none => rfl
      | some o => rw [k2 _ o npL.symm (k1 _ o npL.symm e)] at hLk; cases hLk
    refine ⟨.ref p, rfl, p, C, dx, _, rfl, sL _ _ ep2, T.cl, T.nL, (by show 2 < 1000; decide), ?_⟩
    have k3 : ∀ c o, c ≠ p → H2 c = some o → upd (upd H2 Lk (NDO P w Lk [])) p (.ins C dx (putF "looks" (.ref Lk) (putF "done" (.ref Dn) (putF "kept" (.ref Kd) [])))) c = some o := fun c o n e => by
      rw [upd_ne n]
      exact sL _ _ e
    exact q _ Kd Dn Lk ⟨⟨dx, upd_same⟩, k3 _ _ npK.symm eK2, ⟨[], k3 _ _ npD.symm eD2, .nil⟩, (fun e h => nomatch h), Nat.zero_le _⟩ (by rw [upd_ne npL.symm]; exact upd_same) hKd hDn0 hLk0 (fun c o n e => k3 c o n (k2 c o n (k1 c o n e)))
def spBr (C : Addr) : Sp := fun vs H Q _ => ∃ (p Kd Dn Lk : Addr) (kvs : Kvs) (dn : List Dn1) (t : Str) (v : V), vs = [.ref p, .str t] ∧ BkAt C H p Kd Dn Lk kvs dn ∧ nameS t = true ∧ valV kvs (Sum.inr t) = some v ∧ ∀ H', Same H H' → Q v H'
theorem ok_br {f fC C : Addr} {fd fdC : FuncData} {k : Nat} (F : Fun K "row" "Book.row" sBook_row f fd) (T : BCls K mg C)
    (MC : Meth K C "check_kept" fC) (GC : FnOk P w K mg base CX0 (k + 3) fC fdC ["self", "name"] (spBc C)) (bC : Binds K fdC ["self", "name"] []) : FnOk P w K mg base CX0 (k + 4) f fd ["self", "name"] (spBr C) := by
  refine F.ok scBr (fun vs H Q E h => ?_) (fun cdv A outer s H vs Q E hr h => ?_)
  · obtain ⟨p, Kd, Dn, Lk, kvs, dn, t, v, rfl, _⟩ := h
    rfl
  · obtain ⟨p, Kd, Dn, Lk, kvs, dn, t, v, rfl, hb, ht, hk, q⟩ := h
    refine ⟨_, pss_cons (ps_expr (pe_meth (pv 0) T.cl MC GC hr bC .nil pass0 (pa_cons (pv 1) pa_nil)))
      (pss_one (ps_ret (pe_dget (hu_of hr) (pe_fld (pv 0) rfl) (pv 1) (fun _ _ => rfl)))), ?_⟩
    obtain ⟨dx, ob⟩ := hb.ob
    refine ⟨.ref p, rfl, p, dx, _, rfl, ob, bF_no _ _ _ (by decide +kernel) (by decide +kernel) (by decide +kernel), .str t, rfl, p, Kd, Dn, Lk, kvs, dn, t, rfl, hb, ht, by rw [hk]; rfl, fun H1 s1 => ?_⟩
    have hb1 := hb.same s1
    have dg : DGet H1 Kd (.str t) (some v) := by
      have := DGet.k (k := Sum.inr t) hb1.kept
      rw [hk] at this
      exact this
    exact ⟨.ref p, rfl, p, C, dx, _, _, rfl, s1 _ _ ob, T.cl, T.nK, bF_kept _ _ _, .str t, rfl, Kd, v, rfl, dg, q H1 s1⟩
def spBn (C : Addr) : Sp := fun vs H Q _ => ∃ (p Kd Dn Lk : Addr) (kvs : Kvs) (dn : List Dn1) (ks : List Str), vs = [.ref p] ∧ BkAt C H p Kd Dn Lk kvs dn ∧ kvs.map (·.1) = ks.map Sum.inr ∧ ks.length < 64 ∧
  ∀ ys L, ys.Perm ks → sortedS ys = true → H L = none → Q (.ref L) (upd H L (.lst (ys.map V.str)))
theorem ok_bn {f C : Addr} {fd : FuncData} {k : Nat} (F : Fun K "names" "Book.names" sBook_names f fd) (T : BCls K mg C) (ms : mg "sorted" = none) : FnOk P w K mg base CX0 (k + 1) f fd ["self"] (spBn C) := by
  refine F.ok scBn (fun vs H Q E h => ?_) (fun cdv A outer s H vs Q E hr h => ?_)
  · obtain ⟨p, Kd, Dn, Lk, kvs, dn, ks, rfl, _⟩ := h
    rfl
  · obtain ⟨p, Kd, Dn, Lk, kvs, dn, ks, rfl, hb, hks, h64, q⟩ := h
    refine ⟨_, pss_one (ps_ret (pe_callB (call_sortedD rfl) (by rfl) ms (by decide +kernel) (pa_cons (pe_fld (pv 0) rfl) pa_nil))), ?_⟩
    obtain ⟨dx, ob⟩ := hb.ob
    exact ⟨.ref p, rfl, p, C, dx, _, _, rfl, ob, T.cl, T.nK, bF_kept _ _ _, Kd, kvs, ks, rfl, .inl hb.kept, hks, h64, fun ys L h1 h2 h3 => q ys L h1 h2 h3⟩
/-- what a method that changes the book leaves -/
def KpB (p Kd Dn : Addr) (H H' : Hp) : Prop := ∀ c o, c ≠ Kd → c ≠ Dn → H c = some o → H' c = some o
def spBf (C : Addr) : Sp := fun vs H Q _ => ∃ (p Kd Dn Lk : Addr) (kvs : Kvs) (dn : List Dn1) (t : Str) (r : Addr), vs = [.ref p, .str t] ∧ BkAt C H p Kd Dn Lk kvs dn ∧ dn.length ≤ 100000 ∧ nameS t = true ∧ valV kvs (Sum.inr t) = some (.ref r) ∧
  ∀ H', BkAt C H' p Kd Dn Lk (dropK kvs (Sum.inr t)) (dn ++ [(t, some r)]) → KpB p Kd Dn H H' → Q .non H'
theorem dropK_len (kvs : Kvs) (k : Key) : (dropK kvs k).length ≤ kvs.length := List.length_filter_le _ _
theorem putK_len (kvs : Kvs) (k : Key) (v : V) : (putK kvs k v).length ≤ kvs.length + 1 := by
  unfold putK
  split
  · rw [List.length_map]; omega
  · rw [List.length_append]; simp
set_option maxHeartbeats 1000000 in
theorem ok_bf {f fC C : Addr} {fd fdC : FuncData} {k : Nat} (F : Fun K "forget" "Book.forget" sBook_forget f fd) (T : BCls K mg C)
    (MC : Meth K C "check_kept" fC) (GC : FnOk P w K mg base CX0 (k + 3) fC fdC ["self", "name"] (spBc C)) (bC : Binds K fdC ["self", "name"] []) : FnOk P w K mg base CX0 (k + 4) f fd ["self", "name"] (spBf C) := by
  refine F.ok scBf (fun vs H Q E h => ?_) (fun cdv A outer s H vs Q E hr h => ?_)
  · obtain ⟨p, Kd, Dn, Lk, kvs, dn, t, r, rfl, _⟩ := h
    rfl
  · obtain ⟨p, Kd, Dn, Lk, kvs, dn, t, r, rfl, hb, hl, ht, hk, q⟩ := h
    refine ⟨_, pss_cons (ps_expr (pe_meth (pv 0) T.cl MC GC hr bC .nil pass0 (pa_cons (pv 1) pa_nil)))
      (pss_cons (ps_expr (pe_bm PySem.F.plainAttrs_list PySem.F.slot_list_append PySem.F.type_list_append mt_append (pe_fld (pv 0) rfl) (pa_cons (pe_tup (pa_cons (pv 1) (pa_cons (pe_dget (hu_of hr) (pe_fld (pv 0) rfl) (pv 1) (fun _ _ => rfl)) pa_nil))) pa_nil)))
      (pss_one (ps_ddel (pe_fld (pv 0) rfl) (pv 1)))), ?_⟩
    obtain ⟨dx, ob⟩ := hb.ob
    refine ⟨.ref p, rfl, p, dx, _, rfl, ob, bF_no _ _ _ (by decide +kernel) (by decide +kernel) (by decide +kernel), .str t, rfl, p, Kd, Dn, Lk, kvs, dn, t, rfl, hb, ht, by rw [hk]; rfl, fun H1 s1 => ?_⟩
    have hb1 := hb.same s1
    have ob1 := s1 _ _ ob
    obtain ⟨ts, eD, ets⟩ := hb1.done
    have hlt := awLen ets
    have dg : DGet H1 Kd (.str t) (some (.ref r)) := by
      have := DGet.k (k := Sum.inr t) hb1.kept
      rw [hk] at this
      exact this
    have npK : p ≠ Kd := ne_of ob1 hb1.kept (fun z => nomatch z)
    have npD : p ≠ Dn := ne_of ob1 eD (fun z => nomatch z)
    have nKD : Kd ≠ Dn := ne_of hb1.kept eD (fun z => nomatch z)
    refine ⟨.ref p, rfl, p, C, dx, _, _, rfl, ob1, T.cl, T.nD, bF_done _ _ _, .inl ⟨rfl, _, .inl (.inl eD)⟩, .str t, rfl, .ref p, rfl, p, C, dx, _, _, rfl, ob1, T.cl, T.nK, bF_kept _ _ _, .str t, rfl, Kd, .ref r, rfl, dg, (by show 2 ≤ sizeLine; decide), fun U hU => ?_⟩
    have sU := same_new (o := .tup [.str t, .ref r]) hU
    refine ⟨Dn, _, .ref U, rfl, rfl, sU _ _ eD, by rw [List.length_map, hlt, sizeLine_eq]; omega, ?_⟩
    have k2 : ∀ c o, c ≠ Dn → H1 c = some o → upd (upd H1 U (.tup [.str t, .ref r])) Dn (.lst (ts.map V.ref ++ [.ref U])) c = some o := fun c o n e => by
      rw [upd_ne n]
      exact sU _ _ e
    have eK2 := k2 _ _ nKD hb1.kept
    have eU2 : upd (upd H1 U (.tup [.str t, .ref r])) Dn (.lst (ts.map V.ref ++ [.ref U])) U = some (.tup [.str t, .ref r]) := by
      rw [upd_ne (ne_of_none eD hU).symm]
      exact upd_same
    have eD2 : upd (upd H1 U (.tup [.str t, .ref r])) Dn (.lst (ts.map V.ref ++ [.ref U])) Dn = some (.lst ((ts ++ [U]).map V.ref)) := by
      rw [upd_same, List.map_append]
      rfl
    generalize upd (upd H1 U (.tup [.str t, .ref r])) Dn (.lst (ts.map V.ref ++ [.ref U])) = H2 at k2 eK2 eU2 eD2
    refine ⟨.ref p, rfl, p, C, dx, _, _, rfl, k2 _ _ npD ob1, T.cl, T.nK, bF_kept _ _ _, .str t, rfl, Kd, kvs, Sum.inr t, rfl, eK2, rfl, by rw [hk]; rfl, ?_⟩
    have t2 : TupsStay H1 H2 := fun c xs e => k2 c _ (ne_of e eD (fun z => nomatch z)) e
    refine q _ ⟨⟨dx, by rw [upd_ne npK]; exact k2 _ _ npD ob1⟩, upd_same, ⟨ts ++ [U], by rw [upd_ne nKD.symm]; exact eD2, ?_⟩, kv_drop hb1.ok t, Nat.le_trans (dropK_len _ _) hb1.few⟩ (fun c o n1 n2 e => by rw [upd_ne n1]; exact k2 c o n2 (s1 _ _ e))
    have tK : TupsStay H2 (upd H2 Kd (.dK (dropK kvs (Sum.inr t)))) := fun c xs e => by
      rw [upd_ne (ne_of e eK2 (fun z => nomatch z))]
      exact e
    exact awAppend (awMap (fun _ _ e => tK _ _ (t2 _ _ e)) ets) (.cons (tK _ _ eU2) .nil)
/-! ### a book's tell and back, where nothing is refused -/
def spBt (C : Addr) : Sp := fun vs H Q _ => ∃ (p Kd Dn Lk R : Addr) (kvs : Kvs) (dn : List Dn1) (t : Str) (o : Option Addr) (N : Addr → Prop) (d : PyData) (b kk : Nat), vs = [.ref p, .str t, .ref R] ∧ BkAt C H p Kd Dn Lk kvs dn ∧ dn.length ≤ 100000 ∧ kvs.length ≤ 900000 ∧ nameS t = true ∧
  AnyAt N H (.ref R) d ∧ NcB b kk d ∧ b ≤ 30000 ∧ rowA d = true ∧ valV kvs (Sum.inr t) = o.map V.ref ∧ ∀ H', BkAt C H' p Kd Dn Lk (putK kvs (Sum.inr t) (.ref R)) (dn ++ [(t, o)]) → KpB p Kd Dn H H' → Q .non H'
set_option maxHeartbeats 1000000 in
theorem ok_btl {f fN fR C : Addr} {fd fdN fdR : FuncData} {k : Nat} (F : Fun K "tell" "Book.tell" sBook_tell f fd) (T : BCls K mg C)
    (GN : FnOk P w K mg base CX0 (k + 2) fN fdN ["thing"] spCn) (kN : PySem.W.keepIn K (.ref fN) = true) (bN : Binds K fdN ["thing"] []) (gN : mg "check_name" = some (.ref fN))
    (GR : FnOk P w K mg base CX0 (k + 5) fR fdR ["thing"] spIr) (kR : PySem.W.keepIn K (.ref fR) = true) (bR : Binds K fdR ["thing"] []) (gR : mg "is_row" = some (.ref fR)) : FnOk P w K mg base CX0 (k + 6) f fd ["self", "name", "row"] (spBt C) := by
  refine F.ok scBt (fun vs H Q E h => ?_) (fun cdv A outer s H vs Q E hr h => ?_)
  · obtain ⟨p, Kd, Dn, Lk, R, kvs, dn, t, o, N, d, b, kk, rfl, _⟩ := h
    rfl
  · obtain ⟨p, Kd, Dn, Lk, R, kvs, dn, t, o, N, d, b, kk, rfl, hb, hl, hl2, ht, hx, nc, hb3, hrw, hk, q⟩ := h
    have R2 := hr.mono (show k + 2 ≤ k + 5 by omega)
    refine ⟨_, pss_cons (ps_expr (pe_call GN R2 (by rfl) gN kN bN .nil pass0 (pa_cons (pv 1) pa_nil)))
      (pss_cons (ps_if (pt_not (pt_val (pe_call GR hr (by rfl) gR kR bR .nil pass0 (pa_cons (pv 2) pa_nil)))) pss_neverB pss_nil)
      (pss_cons (ps_expr (pe_bm PySem.F.plainAttrs_list PySem.F.slot_list_append PySem.F.type_list_append mt_append (pe_fld (pv 0) rfl) (pa_cons (pe_tup (pa_cons (pv 1) (pa_cons (pe_dget1 (hu_of hr) (pe_fld (pv 0) rfl) (pv 1) ⟨rfl, rfl, rfl, rfl⟩) pa_nil))) pa_nil)))
      (pss_one (ps_dput (hu_of hr) (pe_fld (pv 0) rfl) (pv 1) (pv 2) rfl)))), ?_⟩
    refine ⟨.str t, rfl, t, rfl, ht, fun H0 s0 => ?_⟩
    refine ⟨.ref R, rfl, N, .ref R, d, b, kk, rfl, any_same s0 hx, nc, hb3, fun H1 s01 => ⟨_, rfl, ?_⟩⟩
    rw [hrw]
    refine iteF ?_
    have s1 := s0.trans s01
    have hb1 := hb.same s1
    obtain ⟨dx, ob1⟩ := hb1.ob
    obtain ⟨ts, eD, ets⟩ := hb1.done
    have hlt := awLen ets
    have dg : DGet H1 Kd (.str t) (o.map V.ref) := by
      have := DGet.k (k := Sum.inr t) hb1.kept
      rw [hk] at this
      exact this
    have npK : p ≠ Kd := ne_of ob1 hb1.kept (fun z => nomatch z)
    have npD : p ≠ Dn := ne_of ob1 eD (fun z => nomatch z)
    have nKD : Kd ≠ Dn := ne_of hb1.kept eD (fun z => nomatch z)
    refine ⟨.ref p, rfl, p, C, dx, _, _, rfl, ob1, T.cl, T.nD, bF_done _ _ _, .inl ⟨rfl, _, .inl (.inl eD)⟩, .str t, rfl, .ref p, rfl, p, C, dx, _, _, rfl, ob1, T.cl, T.nK, bF_kept _ _ _, Kd, rfl, .inl ⟨kvs, .inl hb1.kept⟩, .str t, rfl, _, dg, ?_⟩
    have eo : (o.map V.ref).getD .non = oR o := by cases o <;> rfl
    rw [eo]
    refine ⟨(by show 2 ≤ sizeLine; decide), fun U hU => ?_⟩
    have sU := same_new (o := .tup [.str t, oR o]) hU
    refine ⟨Dn, _, .ref U, rfl, rfl, sU _ _ eD, by rw [List.length_map, hlt, sizeLine_eq]; omega, ?_⟩
    have k2 : ∀ c o', c ≠ Dn → H1 c = some o' → upd (upd H1 U (.tup [.str t, oR o])) Dn (.lst (ts.map V.ref ++ [.ref U])) c = some o' := fun c o' n e => by
      rw [upd_ne n]
      exact sU _ _ e
    have eK2 := k2 _ _ nKD hb1.kept
    have eU2 : upd (upd H1 U (.tup [.str t, oR o])) Dn (.lst (ts.map V.ref ++ [.ref U])) U = some (.tup [.str t, oR o]) := by
      rw [upd_ne (ne_of_none eD hU).symm]
      exact upd_same
    have eD2 : upd (upd H1 U (.tup [.str t, oR o])) Dn (.lst (ts.map V.ref ++ [.ref U])) Dn = some (.lst ((ts ++ [U]).map V.ref)) := by
      rw [upd_same, List.map_append]
      rfl
    generalize upd (upd H1 U (.tup [.str t, oR o])) Dn (.lst (ts.map V.ref ++ [.ref U])) = H2 at k2 eK2 eU2 eD2
    have hl3 : kvs.length < sizeLine := by rw [sizeLine_eq]; omega
    refine ⟨.ref R, rfl, .ref p, rfl, p, C, dx, _, _, rfl, k2 _ _ npD ob1, T.cl, T.nK, bF_kept _ _ _, .str t, rfl, Kd, _, rfl, DPut.k (k := Sum.inr t) eK2 hl3, ?_⟩
    have t2 : TupsStay H1 H2 := fun c xs e => k2 c _ (ne_of e eD (fun z => nomatch z)) e
    have tK : TupsStay H2 (upd H2 Kd (.dK (putK kvs (Sum.inr t) (.ref R)))) := fun c xs e => by
      rw [upd_ne (ne_of e eK2 (fun z => nomatch z))]
      exact e
    refine q _ ⟨⟨dx, by rw [upd_ne npK]; exact k2 _ _ npD ob1⟩, upd_same, ⟨ts ++ [U], by rw [upd_ne nKD.symm]; exact eD2, ?_⟩, kv_put hb1.ok t R, Nat.le_trans (putK_len _ _ _) (by omega)⟩ (fun c o n1 n2 e => by rw [upd_ne n1]; exact k2 c o n2 (s1 _ _ e))
    exact awAppend (awMap (fun _ _ e => tK _ _ (t2 _ _ e)) ets) (.cons (tK _ _ eU2) .nil)
theorem prTake {α β : Type} {F : α → β → Prop} : ∀ {l : List α} {k : List β} (n : Nat), Paired F l k → Paired F (l.take n) (k.take n)
  | _, _, 0, _ => .nil
  | _, _, _ + 1, .nil => .nil
  | _, _, n + 1, .cons h t => .cons h (prTake n t)
def undo (kvs : Kvs) (e : Dn1) : Kvs := match e.2 with
  | none => dropK kvs (Sum.inr e.1)
  | some r => putK kvs (Sum.inr e.1) (.ref r)
def spBb (C : Addr) : Sp := fun vs H Q _ => ∃ (p Kd Dn Lk : Addr) (kvs : Kvs) (dn : List Dn1) (e : Dn1), vs = [.ref p] ∧ BkAt C H p Kd Dn Lk kvs (dn ++ [e]) ∧ kvs.length ≤ 900000 ∧ (e.2 = none → (valV kvs (Sum.inr e.1)).isSome = true) ∧
  ∀ H', BkAt C H' p Kd Dn Lk (undo kvs e) dn → KpB p Kd Dn H H' → Q .non H'
set_option maxHeartbeats 1000000 in
theorem ok_bb {f C : Addr} {fd : FuncData} {k : Nat} (F : Fun K "back" "Book.back" sBook_back f fd) (T : BCls K mg C) : FnOk P w K mg base CX0 (k + 1) f fd ["self"] (spBb C) := by
  refine F.ok scBb (fun vs H Q E h => ?_) (fun cdv A outer s H vs Q E hr h => ?_)
  · obtain ⟨p, Kd, Dn, Lk, kvs, dn, e, rfl, _⟩ := h
    rfl
  · obtain ⟨p, Kd, Dn, Lk, kvs, dn, e, rfl, hb, hl2, hk, q⟩ := h
    refine ⟨_, pss_cons (ps_if (pt_not (pt_truth (pe_fld (pv 0) rfl) (fun _ => rfl))) pss_neverB pss_nil)
      (pss_cons (ps_asg (pe_bm0 PySem.F.plainAttrs_list PySem.F.slot_list_pop PySem.F.type_list_pop mt_pop (pe_fld (pv 0) rfl)) (pg_tup rfl (pgs_cons (pg_name (i := 1) scBb.nd rfl (.inl rfl)) (pgs_cons (pg_name (i := 2) scBb.nd rfl (.inl rfl)) pgs_nil))))
      (pss_one (ps_if (pt_cmpR op_isN (pv 2) pe_non (nomark _)) (pss_one (ps_ddel (pe_fld (pv 0) rfl) (pv 1))) (pss_one (ps_dput (hu_of hr) (pe_fld (pv 0) rfl) (pv 1) (pv 2) rfl))))), ?_⟩
    obtain ⟨dx, ob⟩ := hb.ob
    obtain ⟨ts, eD, ets⟩ := hb.done
    obtain ⟨ts0, U, rfl, ets0, eU⟩ : ∃ ts0 U, ts = ts0 ++ [U] ∧ DnAt H ts0 dn ∧ H U = some (.tup [.str e.1, oR e.2]) := by
      have hlt := awLen ets
      rw [List.length_append] at hlt
      have hne : ts ≠ [] := by
        intro z
        rw [z] at hlt
        simp at hlt
      refine ⟨ts.dropLast, ts.getLast hne, (List.dropLast_concat_getLast hne).symm, ?_, ?_⟩
      · have h1 := prTake dn.length ets
        rw [List.take_left] at h1
        have h2 : ts.take dn.length = ts.dropLast := by
          rw [List.dropLast_eq_take]
          congr 1
          simp at hlt
          omega
        rw [h2] at h1
        exact h1
      · have hl : dn.length < ts.length := by simp at hlt; omega
        obtain ⟨e2, h1, h2⟩ := awGet ets (List.getElem?_eq_getElem hl)
        rw [List.getElem?_append_right (Nat.le_refl _), Nat.sub_self] at h1
        obtain rfl : e = e2 := by simpa using h1
        have : ts.getLast hne = ts[dn.length] := by
          rw [List.getLast_eq_getElem]
          congr 1
          simp at hlt
          omega
        rw [this]
        exact h2
    have npK : p ≠ Kd := ne_of ob hb.kept (fun z => nomatch z)
    have npD : p ≠ Dn := ne_of ob eD (fun z => nomatch z)
    have nKD : Kd ≠ Dn := ne_of hb.kept eD (fun z => nomatch z)
    refine ⟨.ref p, rfl, p, C, dx, _, _, rfl, ob, T.cl, T.nD, bF_done _ _ _, true, .inl ⟨_, .inl (.inl eD), by rw [List.map_append]; simp⟩, iteF ?_⟩
    refine ⟨.ref p, rfl, p, C, dx, _, _, rfl, ob, T.cl, T.nD, bF_done _ _ _, .inl ⟨rfl, _, .inl (.inl eD)⟩, Dn, _, .ref U, rfl, rfl, eD, by rw [List.map_append, List.length_append]; simp, ?_⟩
    have ed : ((ts0 ++ [U]).map V.ref).dropLast = ts0.map V.ref := by rw [List.map_append]; simp
    rw [ed]
    have k2 : ∀ c o', c ≠ Dn → H c = some o' → upd H Dn (.lst (ts0.map V.ref)) c = some o' := fun c o' n e => by
      rw [upd_ne n]
      exact e
    have eD2 : upd H Dn (.lst (ts0.map V.ref)) Dn = some (.lst (ts0.map V.ref)) := upd_same
    have eU2 := k2 U _ (ne_of eU eD (fun z => nomatch z)) eU
    have eK2 := k2 _ _ nKD hb.kept
    have ob2 := k2 _ _ npD ob
    have t2 : TupsStay H (upd H Dn (.lst (ts0.map V.ref))) := fun c xs e => k2 c _ (ne_of e eD (fun z => nomatch z)) e
    generalize upd H Dn (.lst (ts0.map V.ref)) = H2 at k2 eD2 eU2 eK2 ob2 t2
    refine ⟨U, _, rfl, SqT.of eU2, rfl, _, _, rfl, _, _, rfl, rfl, ?_⟩
    have fin : ∀ kv', KvOk kv' → kv'.length ≤ 1000000 → BkAt C (upd H2 Kd (.dK kv')) p Kd Dn Lk kv' dn ∧ KpB p Kd Dn H (upd H2 Kd (.dK kv')) := fun kv' h1 h2 => by
      have tK : TupsStay H2 (upd H2 Kd (.dK kv')) := fun c xs e => by
        rw [upd_ne (ne_of e eK2 (fun z => nomatch z))]
        exact e
      exact ⟨⟨⟨dx, by rw [upd_ne npK]; exact ob2⟩, upd_same, ⟨ts0, by rw [upd_ne nKD.symm]; exact eD2, awMap (fun _ _ e => tK _ _ (t2 _ _ e)) ets0⟩, h1, h2⟩, fun c o n1 n2 e => by rw [upd_ne n1]; exact k2 c o n2 e⟩
    obtain ⟨t, o⟩ := e
    cases o with
    | none =>
      refine ⟨.non, rfl, rfl, _, rfl, iteT ?_⟩
      obtain ⟨h1, h2⟩ := fin (dropK kvs (Sum.inr t)) (kv_drop hb.ok t) (Nat.le_trans (dropK_len _ _) hb.few)
      exact ⟨.ref p, rfl, p, C, dx, _, _, rfl, ob2, T.cl, T.nK, bF_kept _ _ _, .str t, rfl, Kd, kvs, Sum.inr t, rfl, eK2, rfl, hk rfl, q _ h1 h2⟩
    | some r =>
      refine ⟨.ref r, rfl, rfl, _, rfl, iteF ?_⟩
      obtain ⟨h1, h2⟩ := fin (putK kvs (Sum.inr t) (.ref r)) (kv_put hb.ok t r) (Nat.le_trans (putK_len _ _ _) (by omega))
      have hl3 : kvs.length < sizeLine := by rw [sizeLine_eq]; omega
      exact ⟨.ref r, rfl, .ref p, rfl, p, C, dx, _, _, rfl, ob2, T.cl, T.nK, bF_kept _ _ _, .str t, rfl, Kd, _, rfl, DPut.k (k := Sum.inr t) eK2 hl3, q _ h1 h2⟩
/-! ### what is kept by names: dicts by texts as functions -/
def kvE (g : Str → V) (ks : List Str) : Kvs := ks.map fun t => ((Sum.inr t : Key), g t)
theorem kvE_keys (g : Str → V) (ks : List Str) : (kvE g ks).map (·.1) = ks.map Sum.inr := by
  unfold kvE
  rw [List.map_map]
  rfl
theorem kvE_len (g : Str → V) (ks : List Str) : (kvE g ks).length = ks.length := List.length_map ..
theorem kvE_val (g : Str → V) (t : Str) : ∀ ks : List Str, valV (kvE g ks) (Sum.inr t) = if t ∈ ks then some (g t) else none
  | [] => rfl
  | x :: ks => by
    have ih := kvE_val g t ks
    by_cases h : x = t
    · subst h
      rw [if_pos List.mem_cons_self]
      exact valV_pos rfl
    · have e : valV (kvE g (x :: ks)) (Sum.inr t) = valV (kvE g ks) (Sum.inr t) := valV_neg fun z => h (Sum.inr.inj z)
      rw [e, ih]
      have hx : ¬ t = x := fun z => h z.symm
      by_cases ht : t ∈ ks
      · rw [if_pos ht, if_pos (List.mem_cons_of_mem _ ht)]
      · rw [if_neg ht, if_neg fun z => (List.mem_cons.mp z).elim hx ht]
theorem kvE_congr {g g' : Str → V} {ks : List Str} (h : ∀ t ∈ ks, g t = g' t) : kvE g ks = kvE g' ks := List.map_congr_left fun t ht => by rw [h t ht]
def keysPut (ks : List Str) (t : Str) : List Str := if t ∈ ks then ks else ks ++ [t]
def keysDrop (ks : List Str) (t : Str) : List Str := ks.filter fun x => decide (x ≠ t)
theorem kvE_put (g : Str → V) (ks : List Str) (t : Str) (v : V) : putK (kvE g ks) (Sum.inr t) v = kvE (fun x => if x = t then v else g x) (keysPut ks t) := by
  have ha : ((kvE g ks).any fun kv => decide (kv.1 = (Sum.inr t : Key))) = true ↔ t ∈ ks := by
    unfold kvE
    rw [List.any_map, List.any_eq_true]
    constructor
    · rintro ⟨x, h1, h2⟩
      have h2' : (Sum.inr x : Key) = Sum.inr t := of_decide_eq_true h2
      rw [← Sum.inr.inj h2']
      exact h1
    · intro h
      exact ⟨t, h, decide_eq_true rfl⟩
  unfold putK keysPut
  by_cases h : t ∈ ks
  · rw [if_pos (ha.mpr h), if_pos h]
    unfold kvE
    rw [List.map_map]
    refine List.map_congr_left fun x _ => ?_
    show (if (Sum.inr x : Key) = Sum.inr t then ((Sum.inr x : Key), v) else (Sum.inr x, g x)) = (Sum.inr x, if x = t then v else g x)
    by_cases e : x = t
    · subst e
      rw [if_pos rfl, if_pos rfl]
    · rw [if_neg fun z => e (Sum.inr.inj z), if_neg e]
  · rw [if_neg fun z => h (ha.mp z), if_neg h]
    unfold kvE
    rw [List.map_append]
    congr 1
    · refine List.map_congr_left fun x hx => ?_
      have e : ¬ x = t := fun z => h (z ▸ hx)
      show ((Sum.inr x : Key), g x) = (Sum.inr x, if x = t then v else g x)
      rw [if_neg e]
    · show [(Sum.inr t, v)] = [(Sum.inr t, if t = t then v else g t)]
      rw [if_pos rfl]
theorem kvE_drop (g : Str → V) (ks : List Str) (t : Str) : dropK (kvE g ks) (Sum.inr t) = kvE g (keysDrop ks t) := by
  unfold dropK kvE keysDrop
  rw [List.filter_map]
  congr 1
  refine List.filter_congr fun x _ => ?_
  show decide ((Sum.inr x : Key) ≠ Sum.inr t) = decide (x ≠ t)
  by_cases e : x = t
  · subst e
    simp
  · have : ¬ (Sum.inr x : Key) = Sum.inr t := fun z => e (Sum.inr.inj z)
    simp [e, this]
theorem kput_mem {ks : List Str} {t x : Str} : x ∈ keysPut ks t ↔ x = t ∨ x ∈ ks := by
  unfold keysPut
  by_cases h : t ∈ ks
  · rw [if_pos h]
    exact ⟨.inr, fun z => z.elim (fun e => e ▸ h) id⟩
  · rw [if_neg h, List.mem_append, List.mem_singleton, or_comm]
theorem kdrop_mem {ks : List Str} {t x : Str} : x ∈ keysDrop ks t ↔ x ≠ t ∧ x ∈ ks := by
  unfold keysDrop
  rw [List.mem_filter, and_comm]
  simp
theorem kput_nd {ks : List Str} (h : ks.Nodup) (t : Str) : (keysPut ks t).Nodup := by
  unfold keysPut
  by_cases e : t ∈ ks
  · rw [if_pos e]
    exact h
  · rw [if_neg e]
    exact List.nodup_append.mpr ⟨h, by simp, fun x hx y hy z => e (by rw [List.mem_singleton.mp hy] at z; exact z ▸ hx)⟩
theorem kdrop_nd {ks : List Str} (h : ks.Nodup) (t : Str) : (keysDrop ks t).Nodup := h.filter _
theorem kvE_ok {g : Str → V} {ks : List Str} (h : ∀ t ∈ ks, ∃ r, g t = .ref r) : KvOk (kvE g ks) := fun e he => by
  unfold kvE at he
  obtain ⟨t, ht, rfl⟩ := List.mem_map.mp he
  obtain ⟨r, hr⟩ := h t ht
  exact ⟨t, r, by rw [hr]⟩
theorem subs_len {ks nms : List Str} (nd : ks.Nodup) (h : ∀ t ∈ ks, t ∈ nms) : ks.length ≤ nms.length := by
  induction ks generalizing nms with
  | nil => exact Nat.zero_le _
  | cons x ks ih =>
    obtain ⟨n1, n2⟩ := List.nodup_cons.mp nd
    have hx := h x List.mem_cons_self
    have := ih (nms := nms.erase x) n2 fun t ht => by
      have hne : t ≠ x := fun e => n1 (e ▸ ht)
      exact (List.mem_erase_of_ne hne).mpr (h t (List.mem_cons_of_mem _ ht))
    rw [List.length_erase_of_mem hx] at this
    have := List.length_pos_of_mem hx
    rw [List.length_cons]
    omega
/-! rows as keys -/
def dK (d : Deed) : NestedKey := .tup (.text d.1 :: d.2.map .num)
def rowK (r : Rw) : NestedKey := .tup [.num r.m, .tup (r.ds.map dK), .num r.o]
theorem nkn_inj : ∀ {a b : List Int}, a.map NestedKey.num = b.map NestedKey.num → a = b
  | [], [], _ => rfl
  | [], _ :: _, h => by cases h
  | _ :: _, [], h => by cases h
  | x :: a, y :: b, h => by
    rw [List.map_cons, List.map_cons] at h
    injection h with h1 h2
    injection h1 with h1
    rw [h1, nkn_inj h2]
theorem dKs_inj : ∀ {a b : List Deed}, a.map dK = b.map dK → a = b
  | [], [], _ => rfl
  | [], _ :: _, h => by cases h
  | _ :: _, [], h => by cases h
  | x :: a, y :: b, h => by
    rw [List.map_cons, List.map_cons] at h
    injection h with h1 h2
    unfold dK at h1
    injection h1 with h1
    injection h1 with h3 h4
    injection h3 with h3
    rw [dKs_inj h2, Prod.ext h3 (nkn_inj h4)]
theorem rowK_inj {r s : Rw} (h : rowK r = rowK s) : r = s := by
  unfold rowK at h
  injection h with h
  injection h with h1 h
  injection h with h2 h
  injection h with h3 _
  injection h1 with h1
  injection h2 with h2
  injection h3 with h3
  cases r
  cases s
  simp only [Rw.mk.injEq]
  exact ⟨h1, dKs_inj h2, h3⟩
theorem nk_ints (H : Hp) : ∀ l : List Int, NkAll H (l.map .num) (l.map V.int)
  | [] => .nil
  | x :: l => .cons (.num x) (nk_ints H l)
theorem nk_deeds {H : Hp} : ∀ {rs : List Addr} {ds : List Deed}, DsAt H rs ds → NkAll H (ds.map dK) (rs.map V.ref)
  | _, _, .nil => .nil
  | _, _, .cons h t => .cons (.tup h (.cons (.str _) (nk_ints H _))) (nk_deeds t)
theorem ints_dep : ∀ l : List Int, NestedKey.depthAll (l.map .num) = 0
  | [] => rfl
  | x :: l => by simp [NestedKey.depthAll, NestedKey.depth, ints_dep l]
theorem deeds_dep : ∀ l : List Deed, NestedKey.depthAll (l.map dK) ≤ 1
  | [] => Nat.zero_le _
  | d :: l => by
    have := deeds_dep l
    simp only [List.map_cons, NestedKey.depthAll, dK, NestedKey.depth, ints_dep]
    omega
theorem key_row {H : Hp} {R : Addr} {r : Rw} (h : RwAt H R r) : KeyN H (.ref R) (rowK r) := by
  obtain ⟨D, rs, e1, e2, e3⟩ := h
  refine ⟨.tup e1 (.cons (.num _) (.cons (.tup e2 (nk_deeds e3)) (.cons (.num _) .nil))), ?_, R, rfl⟩
  have := deeds_dep r.ds
  simp only [rowK, NestedKey.depth, NestedKey.depthAll]
  omega
theorem stK_dep (row : MRow) : NestedKey.depthAll (row.map fun e => NestedKey.tup [.num e.1, .num e.2]) ≤ 1 := by
  induction row with
  | nil => exact Nat.zero_le _
  | cons x row ih =>
    simp only [List.map_cons, NestedKey.depthAll, NestedKey.depth]
    omega
theorem sts_dep : ∀ lm : List MRow, NestedKey.depthAll (lm.map stK) ≤ 2
  | [] => Nat.zero_le _
  | r :: lm => by
    have a := stK_dep r
    have b := sts_dep lm
    simp only [List.map_cons, NestedKey.depthAll, stK, NestedKey.depth] at a b ⊢
    omega
theorem key_look {H : Hp} {T : Addr} {m : Nat} {lm : List MRow} (h : NkAt H (lookK m lm) (.ref T)) : KeyN H (.ref T) (lookK m lm) := by
  refine ⟨h, ?_, T, rfl⟩
  have := sts_dep lm
  simp only [lookK, NestedKey.depth, NestedKey.depthAll]
  omega
/-- looks that are kept -/
structure LkE (H : Hp) (e : NE) : Prop where
  ex : ∃ (r : Rw) (lm : List MRow) (T : Addr), e.1 = rowK r ∧ e.2.2 = .ref T ∧ NkAt H (lookK r.m.toNat lm) (.ref T) ∧ LmOk r.m.toNat r.ds r.o lm
def LkAt (P : Program) (w : World) (H : Hp) (Lk : Addr) (n : Nat) : Prop := ∃ xs, ND P w H Lk xs ∧ xs.length ≤ n ∧ ∀ e ∈ xs, LkE H e
theorem LkE.stay {H H' : Hp} {e : NE} (h : LkE H e) (t : TupsStay H H') : LkE H' e := by
  obtain ⟨r, lm, T, h1, h2, h3, h4⟩ := h.ex
  exact ⟨r, lm, T, h1, h2, nk_stay t _ _ h3, h4⟩
theorem LkAt.stay {P : Program} {w : World} {H H' : Hp} {Lk : Addr} {n : Nat} (h : LkAt P w H Lk n) (k : ∀ o, H Lk = some o → H' Lk = some o) (t : TupsStay H H') : LkAt P w H' Lk n := by
  obtain ⟨xs, h1, h2, h3⟩ := h
  exact ⟨xs, nd_stay h1 (k _ h1.ob) t, h2, fun e he => (h3 e he).stay t⟩
theorem LkAt.same {P : Program} {w : World} {H H' : Hp} {Lk : Addr} {n : Nat} (h : LkAt P w H Lk n) (s : Same H H') : LkAt P w H' Lk n := h.stay (fun o e => s _ _ e) (Same.tups s)
/-- a look found, or none -/
theorem look_found {H : Hp} {xs : List NE} {r : Rw} {v : V} (h : ∀ e ∈ xs, LkE H e) (e : getN xs (rowK r) = some v) : ∃ (lm : List MRow) (T : Addr), v = .ref T ∧ NkAt H (lookK r.m.toNat lm) (.ref T) ∧ LmOk r.m.toNat r.ds r.o lm := by
  obtain ⟨b, hb⟩ := getN_some e
  obtain ⟨r', lm, T, h1, h2, h3, h4⟩ := (h _ hb).ex
  have h1' : rowK r = rowK r' := h1
  have h2' : v = .ref T := h2
  obtain rfl := rowK_inj h1'
  exact ⟨lm, T, h2', h3, h4⟩
/-! a dict by nested keys made by a comprehension -/
section dcnit
variable {J : It} {n : Nat} {G : Hp → Prop} {Y : Nat → Hp → V → Hp → Prop}
theorem dcn_it {P : Program} {w0 : World} (w : Walk J n G Y) {g : TG} {tt : TT} {tk tv : TE} {vs : List Nat} {σ : L2.St} {H1 : Hp} {D : Addr} {Qd : Hp → Prop} (Pv : Nat → Hp → Prop) (h0 : Pv 0 (upd H1 D (NDO P w0 D []))) (hG : ∀ i H, i ≤ n → Pv i H → G H)
    (hs : ∀ i x H H', i < n → Pv i H → Y i H x H' → g x (wipe σ vs) H' fun σ2 H2 => wipe σ2 vs = wipe σ vs ∧ tt σ2 H2 fun b H3 =>
      if b = true then tk σ2 H3 fun y H4 => tv σ2 H4 fun z H5 => ∃ xs k b, y = .ref b ∧ ND P w0 H5 D xs ∧ KeyN H5 (.ref b) k ∧ xs.length < sizeLine ∧ Pv (i + 1) (upd H5 D (NDO P w0 D (putN xs k b z))) else Pv (i + 1) H3) (hd : ∀ H, Pv n H → Qd H) :
    ∃ W : Nat → Nat → Hp → Prop, (∃ m, W 0 m (upd H1 D (NDO P w0 D []))) ∧ ∀ i m H, W i m H →
      (J.stop i H ∧ Qd H) ∨ (J.go i H ∧ ∃ Nx : Hp → Prop, (∀ H', Nx H' → ∃ m', m' < m ∧ W (i + 1) m' H') ∧ ∀ x H', J.yld i H x H' → g x (wipe σ vs) H' fun σ2 H2 => wipe σ2 vs = wipe σ vs ∧ tt σ2 H2 fun b H3 =>
        if b = true then tk σ2 H3 fun y H4 => tv σ2 H4 fun z H5 => ∃ xs k b, y = .ref b ∧ ND P w0 H5 D xs ∧ KeyN H5 (.ref b) k ∧ xs.length < sizeLine ∧ Nx (upd H5 D (NDO P w0 D (putN xs k b z))) else Nx H3) := by
  refine ⟨fun i m H => m = n - i ∧ i ≤ n ∧ Pv i H, ⟨n, by simp, Nat.zero_le _, h0⟩, ?_⟩
  rintro i m H ⟨rfl, hi, p⟩
  have q := hG i H hi p
  by_cases hlt : i < n
  · refine .inr ⟨w.goes i H hlt q, Pv (i + 1), fun H' p' => ⟨n - (i + 1), by omega, rfl, hlt, p'⟩, fun x H' y => hs i x H H' hlt p (w.yields i H x H' hlt q y)⟩
  · have e : i = n := by omega
    subst e
    exact .inl ⟨w.stops H q, hd H p⟩
end dcnit
theorem putN_get (xs : List NE) (k j : NestedKey) (b : Addr) (v : V) : getN (putN xs k b v) j = if j = k then some v else getN xs j := by
  unfold putN
  cases e : getN xs k with
  | none =>
    rw [if_neg (by simp)]
    exact getN_snoc e
  | some u =>
    rw [if_pos (show (some u).isSome = true from rfl)]
    have key : ∀ xs : List NE, getN (xs.map fun x => if x.1 = k then (x.1, x.2.1, v) else x) j = if j = k then (getN xs k).map fun _ => v else getN xs j := by
      intro xs
      induction xs with
      | nil =>
        by_cases h : j = k
        · rw [if_pos h]
          rfl
        · rw [if_neg h]
          rfl
      | cons x xs ih =>
        unfold getN at ih ⊢
        rw [List.map_cons, List.find?_cons]
        by_cases hx : x.1 = k
        · rw [if_pos hx]
          by_cases h : j = k
          · subst h
            rw [if_pos rfl]
            simp [List.find?_cons, hx]
          · rw [if_neg h] at ih ⊢
            have n1 : ¬ k = j := fun z => h z.symm
            simp only [List.find?_cons, hx]
            simp only [n1, decide_false]
            exact ih
        · rw [if_neg hx]
          by_cases hj : x.1 = j
          · have h : ¬ j = k := fun z => hx (hj.trans z)
            rw [if_neg h]
            simp [List.find?_cons, hj]
          · by_cases h : j = k
            · subst h
              rw [if_pos rfl] at ih ⊢
              simp only [List.find?_cons, hx, decide_false]
              exact ih
            · rw [if_neg h] at ih ⊢
              simp only [List.find?_cons, hj, decide_false]
              exact ih
    rw [key, e]
    rfl
/-! ### a book's kinds -/
abbrev sBook_kinds : Stmt := inClass c_Book 7
abbrev N_Bk : List Str := ["self", "groups", "name", "look", "row"]
theorem scBk : FnScope N_Bk ["self"] (defScope sBook_kinds) := ⟨rfl, rfl, rfl, by decide +kernel, rfl, by decide +kernel, by decide +kernel⟩
theorem bF_new (Kd Dn Lk D : Addr) : putF "looks" (.ref D) (bF Kd Dn Lk) = bF Kd Dn D := by
  have h1 : (Str.ofString "kept" = Str.ofString "looks") = False := eq_false b_kl
  have h2 : (Str.ofString "done" = Str.ofString "looks") = False := eq_false b_dl
  have h3 : (Str.ofString "kept" = Str.ofString "done") = False := eq_false b_kd
  unfold bF
  simp only [putF, h1, h2, h3, if_false, if_true]
theorem grp_few {κ : Type} [DecidableEq κ] (lab : Str → κ) (ns : List Str) : ∀ g ∈ grpL lab ns, g.2.length ≤ ns.length := by
  have key : ∀ i, i ≤ ns.length → ∀ g ∈ grpL lab (ns.take i), g.2.length ≤ i := by
    intro i
    induction i with
    | zero =>
      intro _ g hg
      rw [List.take_zero] at hg
      cases hg
    | succ i ih =>
      intro hi g hg
      have hg0 := List.getElem?_eq_getElem (show i < ns.length by omega)
      rw [List.take_add_one, hg0] at hg
      have hg1 : g ∈ grpL lab (ns.take i ++ [ns[i]]) := hg
      rw [grpL_snoc] at hg1
      unfold addG at hg1
      split at hg1
      · obtain ⟨g0, h0, rfl⟩ := List.mem_map.mp hg1
        have := ih (by omega) g0 h0
        split
        · show (g0.2 ++ [_]).length ≤ _
          rw [List.length_append]
          exact Nat.add_le_add_right this 1
        · omega
      · rcases List.mem_append.mp hg1 with h | h
        · have := ih (by omega) g h
          omega
        · rw [List.mem_singleton.mp h]
          exact Nat.le_add_left 1 i
  have := key ns.length (Nat.le_refl _)
  rwa [List.take_length] at this
structure GrE (H H0 : Hp) (e : NE) (g : NestedKey × List Str) : Prop where
  key : e.1 = g.1
  lst : ∃ q, e.2.2 = .ref q ∧ H q = some (.lst (g.2.map V.str)) ∧ H0 q = none
theorem gr_stay {H H' H0 : Hp} (k : ∀ (q : Addr) (xs : List V), H q = some (.lst xs) → H' q = some (.lst xs)) {xs : List NE} {gs : Gs NestedKey} (h : Paired (GrE H H0) xs gs) : Paired (GrE H' H0) xs gs :=
  awMap (fun e g z => ⟨z.key, by obtain ⟨q, h1, h2, h3⟩ := z.lst; exact ⟨q, h1, k _ _ h2, h3⟩⟩) h
theorem gr_get {H H0 : Hp} {k : NestedKey} : ∀ {xs : List NE} {gs : Gs NestedKey}, Paired (GrE H H0) xs gs → (gs.map (·.1)).Nodup →
    (getN xs k = none ∧ ∀ g ∈ gs, ¬ g.1 = k) ∨ ∃ (q : Addr) (g : NestedKey × List Str), getN xs k = some (.ref q) ∧ H q = some (.lst (g.2.map V.str)) ∧ g ∈ gs ∧ g.1 = k ∧ ∀ g' ∈ gs, g'.1 = k → g' = g
  | _, _, .nil, _ => .inl ⟨rfl, fun _ z => nomatch z⟩
  | _, _, .cons (a := x) (b := g) (l₁ := xs) (l₂ := gs) h t, nd => by
    rw [List.map_cons, List.nodup_cons] at nd
    obtain ⟨n1, n2⟩ := nd
    by_cases e : g.1 = k
    · refine .inr ?_
      obtain ⟨q, h1, h2, _⟩ := h.lst
      refine ⟨q, g, ?_, h2, List.mem_cons_self, e, fun g' hg' e' => ?_⟩
      · unfold getN
        rw [List.find?_cons, decide_eq_true (h.key.trans e)]
        show some x.2.2 = _
        rw [h1]
      · rcases List.mem_cons.mp hg' with rfl | hg'
        · rfl
        · exact absurd (List.mem_map.mpr ⟨g', hg', e'.trans e.symm⟩) n1
    · have en : getN (x :: xs) k = getN xs k := by
        unfold getN
        rw [List.find?_cons, decide_eq_false fun z => e (h.key.symm.trans z)]
      rw [en]
      rcases gr_get t n2 with ⟨a, b⟩ | ⟨q, g0, a, b, c, d, f⟩
      · refine .inl ⟨a, fun g' hg' => ?_⟩
        rcases List.mem_cons.mp hg' with rfl | hg'
        · exact e
        · exact b g' hg'
      · refine .inr ⟨q, g0, a, b, List.mem_cons_of_mem _ c, d, fun g' hg' e' => ?_⟩
        rcases List.mem_cons.mp hg' with rfl | hg'
        · exact absurd e' e
        · exact f g' hg' e'
theorem gr_put {H H' H0 : Hp} {k : NestedKey} {b q0 : Addr} {t : Str} {xs : List NE} {gs : Gs NestedKey} (h : Paired (GrE H H0) xs gs) (st : ∀ (q : Addr) (xs : List V), H q = some (.lst xs) → H' q = some (.lst xs)) (hq0 : H0 q0 = none)
    (hn : getN xs k = none → H' q0 = some (.lst ([t].map V.str))) (ho : ∀ g ∈ gs, g.1 = k → H' q0 = some (.lst ((g.2 ++ [t]).map V.str))) : Paired (GrE H' H0) (putN xs k b (.ref q0)) (addG gs k t) := by
  have an : (getN xs k).isSome = (gs.any fun g => decide (g.1 = k)) := by
    clear hn ho st
    induction h with
    | nil => rfl
    | cons h1 h2 ih =>
      rename_i x g xs gs
      rw [List.any_cons, ← ih]
      unfold getN
      rw [List.find?_cons, h1.key]
      by_cases e : g.1 = k
      · rw [decide_eq_true e]
        rfl
      · rw [decide_eq_false e]
        rfl
  unfold putN addG
  rw [← an]
  by_cases e : (getN xs k).isSome = true
  · rw [if_pos e, if_pos e]
    clear an hn e
    induction h with
    | nil => exact .nil
    | cons h1 h2 ih =>
      rename_i x g xs gs
      rw [List.map_cons, List.map_cons]
      refine .cons ?_ (ih fun g' hg' => ho g' (List.mem_cons_of_mem _ hg'))
      by_cases e : g.1 = k
      · rw [if_pos (h1.key.trans e), if_pos e]
        exact ⟨h1.key, q0, rfl, ho g List.mem_cons_self e, hq0⟩
      · rw [if_neg fun z => e (h1.key.symm.trans z), if_neg e]
        obtain ⟨q, a, b', c⟩ := h1.lst
        exact ⟨h1.key, q, a, st _ _ b', c⟩
  · rw [if_neg e, if_neg e]
    have e2 : getN xs k = none := by
      cases e3 : getN xs k with
      | none => rfl
      | some _ => rw [e3] at e; exact absurd rfl e
    exact awSnoc (F := GrE H' H0) ⟨rfl, q0, rfl, hn e2, hq0⟩ (gr_stay st h)
abbrev GqAt (H : Hp) : List Addr → List (List Str) → Prop := Paired fun q g => H q = some (.lst (g.map V.str))
def spBk (P : Program) (w : World) (C : Addr) : Sp := fun vs H Q _ => ∃ (p Kd Dn Lk : Addr) (dn : List Dn1) (ks : List Str) (adr : Str → Addr) (rowf : Str → Rw) (n : Nat), vs = [.ref p] ∧ BkAt C H p Kd Dn Lk (kvE (fun t => .ref (adr t)) ks) dn ∧ LkAt P w H Lk n ∧ ks.Nodup ∧ ks.length < 64 ∧ (∀ t ∈ ks, RwAt H (adr t) (rowf t) ∧ RwOk (rowf t)) ∧
  ∀ (H' : Hp) (L D : Addr) (qs : List Addr) (ys : List Str) (lab : Str → List MRow), ys.Perm ks → Up ys → (∀ t ∈ ks, LmOk (rowf t).m.toNat (rowf t).ds (rowf t).o (lab t)) → H' L = some (.lst (qs.map V.ref)) → GqAt H' qs ((grpL (fun t => lookK (rowf t).m.toNat (lab t)) ys).map (·.2)) →
    H L = none → (∀ q ∈ qs, H q = none ∧ q ≠ L) → qs.Nodup → BkAt C H' p Kd Dn D (kvE (fun t => .ref (adr t)) ks) dn → LkAt P w H' D 64 → H D = none → D ≠ L → D ∉ qs → (∀ c o, c ≠ p → H c = some o → H' c = some o) → Q (.ref L) H'
set_option maxHeartbeats 4000000 in
theorem ok_bk {f fN fL C : Addr} {fd fdN fdL : FuncData} {k : Nat} (F : Fun K "kinds" "Book.kinds" sBook_kinds f fd) (T : BCls K mg C)
    (MN : Meth K C "names" fN) (GN : FnOk P w K mg base CX0 (k + 1) fN fdN ["self"] (spBn C)) (bN : Binds K fdN ["self"] [])
    (GL : FnOk P w K mg base CX0 (k + 7) fL fdL ["row"] spLk) (kL : PySem.W.keepIn K (.ref fL) = true) (bL : Binds K fdL ["row"] []) (gL : mg "look_of" = some (.ref fL))
    (ms : mg "sorted" = none) : FnOk P w K mg base CX0 (k + 8) f fd ["self"] (spBk P w C) := by
  refine F.ok scBk (fun vs H Q E h => ?_) (fun cdv A outer s H vs Q E hr h => ?_)
  · obtain ⟨p, Kd, Dn, Lk, dn, ks, adr, rowf, n, rfl, _⟩ := h
    rfl
  · obtain ⟨p, Kd, Dn, Lk, dn, ks, adr, rowf, n, rfl, hb, hlk, nd, h64, hrows, qq⟩ := h
    have hu := hr.units
    have R1 := hr.mono (show k + 1 ≤ k + 7 by omega)
    refine ⟨_, pss_cons (ps_fld (pv 0) (pe_lock (pe_dcN (P := P) (w := w) (own := [("row", 4)]) (g := gName 4) (tv := tOrT K (tNGet1 P w (tFld K (tVar 0) "looks") (tVar 4)) (tCall spLk [] E0 (tCons (tVar 4) tNil))) rfl rfl hu (by rfl) scBk.nd (pi_values (pe_fld (pv 0) rfl)) (blkOk_by (own := [("row", 4)]) (N := N_Bk) (sc := defScope sBook_kinds) (by decide +kernel)) (fun _ _ _ _ _ => pg_name (i := 4) scBk.nd rfl (Or.inl rfl)) (fun _ _ _ _ _ => pts_nil) (fun _ _ _ _ _ => pv 4)
        (fun _ _ _ _ _ => pe_orT (pe_ndget1 (P := P) (w := w) rfl rfl hu (pe_fld (pv 0) rfl) (pv 4) ⟨rfl, rfl, rfl, rfl⟩) (pe_one (pe_call GL hr (by rfl) gL kL bL .nil pass0 (pa_cons (pv 4) pa_nil)))))) rfl)
      (pss_cons (ps_set (i := 1) scBk.nd rfl (.inl rfl) (pe_ndnew (P := P) (w := w) rfl rfl))
      (pss_cons (ps_for PassesOwn.never rfl (pi_list (pe_meth0 (pv 0) T.cl MN GN R1 bN .nil pass0)) (pg_name (i := 2) scBk.nd rfl (.inl rfl))
        (pss_cons (ps_set (i := 3) scBk.nd rfl (.inl rfl) (pe_ndget (P := P) (w := w) rfl rfl hu (pe_fld (pv 0) rfl) (pe_dget (hu_of hr) (pe_fld (pv 0) rfl) (pv 2) (fun _ _ => rfl)) (fun _ _ => rfl)))
        (pss_one (ps_ndputA (P := P) (w := w) rfl rfl hu (pv 1) (pv 3) (pe_op op_cat (pe_ndget2 (P := P) (w := w) rfl rfl hu (pv 1) (pv 3) (pe_lst pa_nil) ⟨rfl, rfl, rfl, rfl⟩) (pe_lst (pa_cons (pv 2) pa_nil))) rfl))))
      (pss_one (ps_ret (pe_callB (call_sortedVN (P := P) (w := w) rfl rfl (by rfl) hu) (by rfl) ms (by decide +kernel) (pa_cons (pe_nvals (P := P) (w := w) rfl rfl (pv 1)) pa_nil)))))), ?_⟩
    obtain ⟨dx, ob⟩ := hb.ob
    obtain ⟨lx, ndL, _, hlx⟩ := hlk
    have npK : p ≠ Kd := ne_of ob hb.kept (fun z => nomatch z)
    have nLK : Lk ≠ Kd := ne_of ndL.ob hb.kept (fun z => nomatch z)
    have npL : p ≠ Lk := ne_of ob ndL.ob (fun z => nomatch z)
    refine ⟨Kd, _, hb.kept, trivial, fun od => ?_⟩
    have sL : ∀ c o, c ≠ Kd → H c = some o → upd H Kd (.frz od (.dK (kvE (fun t => .ref (adr t)) ks))) c = some o := fun c o n e => by
      rw [upd_ne n]
      exact e
    have eKL : upd H Kd (.frz od (.dK (kvE (fun t => .ref (adr t)) ks))) Kd = some (.frz od (.dK (kvE (fun t => .ref (adr t)) ks))) := upd_same
    generalize upd H Kd (.frz od (.dK (kvE (fun t => .ref (adr t)) ks))) = HL at sL eKL
    have tL : TupsStay H HL := fun c xs e => sL c _ (ne_of e hb.kept (fun z => nomatch z)) e
    have obL := sL _ _ npK ob
    have ndLL : ND P w HL Lk lx := nd_stay ndL (sL _ _ nLK ndL.ob) tL
    have hlxL : ∀ e ∈ lx, LkE HL e := fun e he => (hlx e he).stay tL
    have kl : (kvE (fun t => V.ref (adr t)) ks).length = ks.length := kvE_len _ _
    have hrowsL : ∀ t ∈ ks, RwAt HL (adr t) (rowf t) := fun t ht => tL.row (hrows t ht).1
    refine ⟨.ref p, rfl, p, C, dx, _, _, rfl, obL, T.cl, T.nK, bF_kept _ _ _, Kd, od, _, rfl, eKL, fun D hD => ?_⟩
    have hD0 : H D = none := by
      cases e : H D with
      | none => rfl
      | some o =>
        by_cases z : D = Kd
        · rw [z, eKL] at hD
          cases hD
        · rw [sL _ o z e] at hD
          cases hD
    have sD := same_new (o := NDO P w D []) hD
    refine dcn_it walk_values (fun i H5 => ∃ xs, ND P w H5 D xs ∧ xs.length ≤ i ∧ (∀ e ∈ xs, LkE H5 e) ∧ (∀ (j : Nat) (t : Str), j < i → ks[j]? = some t → (getN xs (rowK (rowf t))).isSome = true) ∧ Same HL H5)
      ⟨[], ⟨upd_same, (fun _ z => nomatch z)⟩, Nat.zero_le _, (fun _ z => nomatch z), (fun j t z => absurd z (Nat.not_lt_zero _)), sD⟩ (fun i H5 _ hp => ?_) (fun i x H5 H6 hi hp hy => ?_) (fun H5 hp => ?_)
    · obtain ⟨_, _, _, _, _, s5⟩ := hp
      exact s5 _ _ eKL
    · obtain ⟨xs, nd5, l5, lk5, in5, s5⟩ := hp
      obtain ⟨rfl, k0, hk0⟩ := hy
      rw [kl] at hi
      have hki : ks[i]? = some ks[i] := List.getElem?_eq_getElem hi
      obtain ⟨t, ht⟩ : ∃ t, t = ks[i] := ⟨_, rfl⟩
      rw [← ht] at hki
      have hx : x = .ref (adr t) := by
        unfold kvE at hk0
        rw [List.getElem?_map, hki] at hk0
        exact (Prod.mk.inj (Option.some.inj hk0)).2.symm
      subst hx
      have htm := List.mem_of_getElem? hki
      have hrow5 : RwAt H6 (adr t) (rowf t) := (Same.tups s5).row (hrowsL t htm)
      have hlen : xs.length < sizeLine := by rw [sizeLine_eq]; omega
      have nDL : D ≠ Lk := (ne_of_none ndLL.ob hD).symm
      have fin : ∀ (H7 : Hp) (T2 : Addr) (lm : List MRow), Same H6 H7 → NkAt H7 (lookK (rowf t).m.toNat lm) (.ref T2) → LmOk (rowf t).m.toNat (rowf t).ds (rowf t).o lm → ∃ xs k b, V.ref (adr t) = .ref b ∧ ND P w H7 D xs ∧ KeyN H7 (.ref b) k ∧ xs.length < sizeLine ∧
          ∃ xs', ND P w (upd H7 D (NDO P w D (putN xs k b (.ref T2)))) D xs' ∧ xs'.length ≤ i + 1 ∧ (∀ e ∈ xs', LkE (upd H7 D (NDO P w D (putN xs k b (.ref T2)))) e) ∧ (∀ (j : Nat) (t : Str), j < i + 1 → ks[j]? = some t → (getN xs' (rowK (rowf t))).isSome = true) ∧ Same HL (upd H7 D (NDO P w D (putN xs k b (.ref T2)))) := fun H7 T2 lm s7 nk lok => by
        have nd7 := nd_same nd5 s7
        have kr := key_row ((Same.tups s7).row hrow5)
        have np := nd_putA (v := .ref T2) nd7 kr
        have tp : TupsStay H7 (upd H7 D (NDO P w D (putN xs (rowK (rowf t)) (adr t) (.ref T2)))) := fun c ys e => by
          rw [upd_ne (ne_of e nd7.ob (fun z => nomatch z))]
          exact e
        have pl := putN_len xs (rowK (rowf t)) (adr t) (.ref T2)
        refine ⟨xs, rowK (rowf t), adr t, rfl, nd7, kr, hlen, _, np, by omega, fun e he => ?_, fun j t' hj ht' => ?_, fun c o z => ?_⟩
        · have new : LkE (upd H7 D (NDO P w D (putN xs (rowK (rowf t)) (adr t) (.ref T2)))) (rowK (rowf t), adr t, .ref T2) := ⟨⟨rowf t, lm, T2, rfl, rfl, nk_stay tp _ _ nk, lok⟩⟩
          unfold putN at he
          split at he
          · obtain ⟨e0, h0, rfl⟩ := List.mem_map.mp he
            by_cases z : e0.1 = rowK (rowf t)
            · rw [if_pos z]
              obtain ⟨⟨r, lm', T', a, b, c, d⟩⟩ := new
              exact ⟨r, lm', T', z.trans a, b, c, d⟩
            · rw [if_neg z]
              exact ((lk5 e0 h0).stay (Same.tups s7)).stay tp
          · rcases List.mem_append.mp he with he | he
            · exact ((lk5 e he).stay (Same.tups s7)).stay tp
            · rw [List.mem_singleton.mp he]
              exact new
        · rw [putN_get]
          by_cases z : rowK (rowf t') = rowK (rowf t)
          · rw [if_pos z]
            rfl
          · rw [if_neg z]
            by_cases y : j = i
            · subst y
              rw [hki] at ht'
              rw [← Option.some.inj ht'] at z
              exact absurd rfl z
            · exact in5 j t' (by omega) ht'
        · have nz : c ≠ D := ne_of_none z hD
          rw [upd_ne nz]
          exact s7 _ _ (s5 _ _ z)
      refine ⟨rfl, .ref (adr t), rfl, .ref p, rfl, p, C, dx, _, _, rfl, s5 _ _ obL, T.cl, T.nL, bF_looks _ _ _, Lk, lx, rfl, nd_same ndLL s5, .ref (adr t), rfl, lx, rowK (rowf t), nd_same ndLL s5, key_row hrow5, ?_⟩
      cases e : getN lx (rowK (rowf t)) with
      | some v =>
        obtain ⟨lm, T2, rfl, nk, lok⟩ := look_found (fun e he => (hlxL e he).stay (Same.tups s5)) e
        obtain ⟨xs2, e2⟩ : ∃ xs2, H6 T2 = some (.tup xs2) ∧ xs2.isEmpty = false := by
          unfold lookK at nk
          cases nk with
          | tup e hs =>
            cases hs with
            | cons a b => exact ⟨_, e, rfl⟩
        refine ⟨true, .inr (.inl ⟨xs2, SqT.of e2.1, by rw [e2.2]; rfl⟩), iteT ?_⟩
        exact fin H6 T2 lm (Same.refl H6) nk lok
      | none =>
        refine ⟨false, rfl, iteF ?_⟩
        have ok := (hrows t htm).2
        have hm : (((rowf t).m.toNat : Nat) : Int) = (rowf t).m := by
          have : (1 : Int) ≤ (rowf t).m := ok.m1
          omega
        refine ⟨.ref (adr t), rfl, adr t, (rowf t).m.toNat, (rowf t).o, (rowf t).ds, rfl, by rw [hm]; exact hrow5, by rw [hm]; exact ok, fun H7 T2 lm s7 lok nk => ?_⟩
        exact fin H7 T2 lm s7 nk lok
    · obtain ⟨xs, nd5, l5, lk5, in5, s5⟩ := hp
      rw [kl] at l5 in5
      refine ⟨s5 _ _ eKL, ?_⟩
      have nDK : D ≠ Kd := fun z => by rw [z, eKL] at hD; cases hD
      have npD : p ≠ D := ne_of_none obL hD
      have k6 : ∀ c o, c ≠ Kd → H5 c = some o → upd H5 Kd (.dK (kvE (fun t => .ref (adr t)) ks)) c = some o := fun c o n e => by
        rw [upd_ne n]
        exact e
      have eK6 : upd H5 Kd (.dK (kvE (fun t => .ref (adr t)) ks)) Kd = some (.dK (kvE (fun t => .ref (adr t)) ks)) := upd_same
      have t6 : TupsStay H5 (upd H5 Kd (.dK (kvE (fun t => .ref (adr t)) ks))) := fun c xs e => k6 c _ (ne_of e (s5 _ _ eKL) (fun z => nomatch z)) e
      have s6 : Same H (upd H5 Kd (.dK (kvE (fun t => .ref (adr t)) ks))) := fun c o e => by
        by_cases z : c = Kd
        · rw [z, hb.kept] at e
          rw [z, ← e]
          exact eK6
        · exact k6 _ _ z (s5 _ _ (sL _ _ z e))
      have nd6 : ND P w (upd H5 Kd (.dK (kvE (fun t => .ref (adr t)) ks))) D xs := nd_stay nd5 (k6 _ _ nDK nd5.ob) t6
      have lk6 := fun e he => (lk5 e he).stay t6
      generalize upd H5 Kd (.dK (kvE (fun t => .ref (adr t)) ks)) = H6 at eK6 s6 nd6 lk6
      clear k6 t6 nd5 lk5 s5 hlxL ndLL obL tL hrowsL eKL sL sD
      refine ⟨.ref p, rfl, p, C, dx, _, rfl, s6 _ _ ob, T.cl, T.nL, (by show 3 < 1000; decide), ?_⟩
      rw [bF_new]
      have k7 : ∀ c o, c ≠ p → H6 c = some o → upd H6 p (.ins C dx (bF Kd Dn D)) c = some o := fun c o n e => by
        rw [upd_ne n]
        exact e
      have eP7 : upd H6 p (.ins C dx (bF Kd Dn D)) p = some (.ins C dx (bF Kd Dn D)) := upd_same
      have t7 : TupsStay H6 (upd H6 p (.ins C dx (bF Kd Dn D))) := fun c xs e => k7 c _ (ne_of e (s6 _ _ ob) (fun z => nomatch z)) e
      generalize upd H6 p (.ins C dx (bF Kd Dn D)) = H7 at k7 eP7 t7
      have keep : ∀ c o, c ≠ p → H c = some o → H7 c = some o := fun c o n e => k7 c o n (s6 _ _ e)
      have fresh : ∀ c, H7 c = none → H c = none := fun c z => by
        cases e : H c with
        | none => rfl
        | some o =>
          by_cases y : c = p
          · rw [y, eP7] at z
            cases z
          · rw [keep c o y e] at z
            cases z
      have tH7 : TupsStay H H7 := fun c xs e => keep c _ (ne_of e ob (fun z => nomatch z)) e
      have nd7 : ND P w H7 D xs := nd_stay nd6 (k7 _ _ npD.symm nd6.ob) t7
      have lk7 : ∀ e ∈ xs, LkE H7 e := fun e he => (lk6 e he).stay t7
      obtain ⟨ts, eDn, hts⟩ := hb.done
      have hb7 : BkAt C H7 p Kd Dn D (kvE (fun t => .ref (adr t)) ks) dn := ⟨⟨dx, eP7⟩, keep _ _ npK.symm hb.kept, ⟨ts, keep _ _ (ne_of eDn ob (fun z => nomatch z)) eDn, awMap (fun _ _ e => tH7 _ _ e) hts⟩, hb.ok, hb.few⟩
      have hrows7 : ∀ t ∈ ks, RwAt H7 (adr t) (rowf t) := fun t ht => tH7.row (hrows t ht).1
      clear t7 tH7 nd6 lk6 hrows hts eDn ndL hlx
      -- what each name's row looks like
      have lookt : ∀ t, ∃ lm : List MRow, t ∈ ks → ∃ T2 : Addr, getN xs (rowK (rowf t)) = some (.ref T2) ∧ NkAt H7 (lookK (rowf t).m.toNat lm) (.ref T2) ∧ LmOk (rowf t).m.toNat (rowf t).ds (rowf t).o lm := fun t => by
        by_cases ht : t ∈ ks
        · obtain ⟨j, hj⟩ := List.mem_iff_getElem?.mp ht
          have jl := (List.getElem?_eq_some_iff.mp hj).1
          have := in5 j t jl hj
          cases e : getN xs (rowK (rowf t)) with
          | none => rw [e] at this; cases this
          | some v =>
            obtain ⟨lm, T2, rfl, nk, lok⟩ := look_found lk7 e
            exact ⟨lm, fun _ => ⟨T2, rfl, nk, lok⟩⟩
        · exact ⟨[], fun z => absurd z ht⟩
      obtain ⟨lab, hlab⟩ : ∃ lab : Str → List MRow, ∀ t, t ∈ ks → ∃ T2 : Addr, getN xs (rowK (rowf t)) = some (.ref T2) ∧ NkAt H7 (lookK (rowf t).m.toNat (lab t)) (.ref T2) ∧ LmOk (rowf t).m.toNat (rowf t).ds (rowf t).o (lab t) := ⟨fun t => (lookt t).choose, fun t => (lookt t).choose_spec⟩
      clear lookt in5
      obtain ⟨lk, hlk⟩ : ∃ lk : Str → NestedKey, lk = fun t => lookK (rowf t).m.toNat (lab t) := ⟨_, rfl⟩
      intro Gd hGd
      have sG := same_new (o := NDO P w Gd []) hGd
      have hGd0 := fresh _ hGd
      have ndG : ND P w (upd H7 Gd (NDO P w Gd [])) Gd [] := nd_nil
      generalize upd H7 Gd (NDO P w Gd []) = H8 at sG ndG
      have nGp : Gd ≠ p := (ne_of_none eP7 hGd).symm
      refine ⟨.ref p, rfl, p, dx, _, rfl, sG _ _ eP7, bF_no _ _ _ (by decide +kernel) (by decide +kernel) (by decide +kernel), p, Kd, Dn, D, _, dn, ks, rfl, hb7.same sG, kvE_keys _ _, h64, fun ys Ln pm srt hLn => ?_⟩
      have hup : Up ys := up_sorted srt (pm.nodup_iff.mpr nd)
      have ymem : ∀ t ∈ ys, t ∈ ks := fun t ht => pm.mem_iff.mp ht
      have yl : ys.length = ks.length := pm.length_eq
      have nLG : Ln ≠ Gd := (ne_of_none ndG.ob hLn).symm
      have sN := same_new (o := .lst (ys.map V.str)) hLn
      refine ⟨Ln, rfl, ⟨_, .inl (.inl upd_same)⟩, for_list (K := K) (a := Ln) (xs := ys.map V.str) (fun j σ H9 => ∃ (y2 y3 : Option V) (gx : List NE), σ = [some (.ref p), some (.ref Gd), y2, y3, none] ∧ ND P w H9 Gd gx ∧ gx.length ≤ j ∧ Paired (GrE H9 H) gx (grpL lk (ys.take j)) ∧ ∀ c o, c ≠ Gd → upd H8 Ln (.lst (ys.map V.str)) c = some o → H9 c = some o)
        ⟨none, none, [], rfl, nd_same ndG sN, Nat.zero_le _, .nil, fun _ _ _ z => z⟩ (fun j σ H9 _ hp => ?_) (fun j x σ H9 hx hp => ?_) (fun σ H9 hp => ?_)⟩
      · obtain ⟨_, _, _, _, _, _, _, st⟩ := hp
        exact .inl (.inl (st _ _ nLG upd_same))
      · obtain ⟨y2, y3, gx, rfl, nd9, l9, gr9, st⟩ := hp
        rw [List.getElem?_map] at hx
        obtain ⟨t, ht, rfl⟩ := Option.map_eq_some_iff.mp hx
        have tm := ymem t (List.mem_of_getElem? ht)
        have jl := (List.getElem?_eq_some_iff.mp ht).1
        obtain ⟨T2, g2, nk2, lok⟩ := hlab t tm
        have s79 : ∀ c o, c ≠ Gd → H7 c = some o → H9 c = some o := fun c o n e => st c o n (sN _ _ (sG _ _ e))
        have t79 : TupsStay H7 H9 := fun c xs e => s79 c _ (ne_of_none e hGd) e
        have obj9 := s79 _ _ nGp.symm eP7
        have nd9D : ND P w H9 D xs := nd_stay nd7 (s79 _ _ (ne_of_none nd7.ob hGd) nd7.ob) t79
        have dg : DGet H9 Kd (.str t) (some (.ref (adr t))) := by
          have := DGet.k (k := Sum.inr t) (s79 _ _ (ne_of_none hb7.kept hGd) hb7.kept)
          rw [kvE_val, if_pos tm] at this
          exact this
        have nkl : NkAt H9 (lk t) (.ref T2) := by rw [hlk]; exact nk_stay t79 _ _ nk2
        have ky : KeyN H9 (.ref T2) (lk t) := by rw [hlk] at nkl ⊢; exact key_look nkl
        have nds : ((grpL lk (ys.take j)).map (·.1)).Nodup := (grp_ok lk (hup.sublist (List.take_sublist j ys))).nd
        refine ⟨.ref p, rfl, p, C, dx, _, _, rfl, obj9, T.cl, T.nL, bF_looks _ _ _, .ref p, rfl, p, C, dx, _, _, rfl, obj9, T.cl, T.nK, bF_kept _ _ _, .str t, rfl, Kd, .ref (adr t), rfl, dg, D, xs, rowK (rowf t), .ref T2, rfl, nd9D, key_row (t79.row (hrows7 t tm)), g2, ?_⟩
        refine ⟨.ref Gd, rfl, Gd, gx, rfl, nd9, .ref T2, rfl, (by show 0 ≤ sizeLine; decide), fun Z hZ => ?_⟩
        have sZ := same_new (o := .lst []) hZ
        refine ⟨gx, lk t, nd_same nd9 sZ, ⟨nk_stay (Same.tups sZ) _ _ ky.1, ky.2.1, T2, rfl⟩, ?_⟩
        have grZ := gr_stay (fun q xs e => sZ _ _ e) gr9
        have eZ : upd H9 Z (.lst []) Z = some (.lst []) := upd_same
        have ndZ := nd_same nd9 sZ
        have kyZ : KeyN (upd H9 Z (.lst [])) (.ref T2) (lk t) := ⟨nk_stay (Same.tups sZ) _ _ ky.1, ky.2.1, T2, rfl⟩
        have stZ : ∀ c o, c ≠ Gd → upd H8 Ln (.lst (ys.map V.str)) c = some o → upd H9 Z (.lst []) c = some o := fun c o n e => sZ _ _ (st c o n e)
        generalize upd H9 Z (.lst []) = H10 at grZ eZ ndZ kyZ stZ
        -- what stands there
        obtain ⟨q, old, eq, eo, hn, ho⟩ : ∃ (q : Addr) (old : List Str), (getN gx (lk t)).getD (.ref Z) = .ref q ∧ H10 q = some (.lst (old.map V.str)) ∧ (getN gx (lk t) = none → old = []) ∧ ∀ g ∈ grpL lk (ys.take j), g.1 = lk t → g.2 = old := by
          rcases gr_get (k := lk t) grZ nds with ⟨a, b⟩ | ⟨q, g, a, b, c, d, e⟩
          · exact ⟨Z, [], by rw [a]; rfl, eZ, fun _ => rfl, fun g hg e => absurd e (b g hg)⟩
          · exact ⟨q, g.2, by rw [a]; rfl, b, (fun z => by rw [a] at z; cases z), fun g' hg' e' => by rw [e g' hg' e']⟩
        have ol : old.length ≤ 64 := by
          by_cases hnn : getN gx (lk t) = none
          · rw [hn hnn]
            exact Nat.zero_le _
          · rcases gr_get (k := lk t) grZ nds with ⟨a, _⟩ | ⟨q', g, _, _, c, d, _⟩
            · exact absurd a hnn
            · rw [← ho g c d]
              have := grp_few lk (ys.take j) g c
              rw [List.length_take] at this
              omega
        rw [eq]
        refine ⟨.str t, rfl, (by show 1 ≤ sizeLine; decide), fun Y hY => ?_⟩
        have sY := same_new (o := .lst [.str t]) hY
        refine ⟨q, Y, _, _, rfl, rfl, sY _ _ eo, upd_same, (by rw [List.length_map]; exact Nat.le_of_lt (small1000 (by show old.length + 1 ≤ 1000; omega))), fun U hU => ?_⟩
        have sU := same_new (o := .lst (old.map V.str ++ [.str t])) hU
        have s12 := sY.trans sU
        have eU : upd (upd H10 Y (.lst [.str t])) U (.lst (old.map V.str ++ [.str t])) U = some (.lst ((old ++ [t]).map V.str)) := by
          rw [upd_same, List.map_append]
          rfl
        have hU0 : H U = none := by
          have nU : upd (upd H10 Y (.lst [.str t])) U (.lst (old.map V.str ++ [.str t])) U ≠ none := fun z => by rw [eU] at z; cases z
          cases e : H U with
          | none => rfl
          | some o =>
            exfalso
            have : H10 U = none := sY.free hU
            by_cases z : U = p
            · rw [z, stZ _ _ nGp.symm (sN _ _ (sG _ _ eP7))] at this
              cases this
            · have y : H7 U = some o := keep U o z e
              rw [stZ _ _ (ne_of_none y hGd) (sN _ _ (sG _ _ y))] at this
              cases this
        generalize upd (upd H10 Y (.lst [.str t])) U (.lst (old.map V.str ++ [.str t])) = H11 at s12 eU
        have nd11 := nd_same ndZ s12
        have ky11 : KeyN H11 (.ref T2) (lk t) := ⟨nk_stay (Same.tups s12) _ _ kyZ.1, kyZ.2.1, T2, rfl⟩
        refine ⟨.ref Gd, rfl, .ref T2, rfl, Gd, gx, lk t, T2, rfl, nd11, rfl, ky11, by rw [sizeLine_eq]; omega, ?_⟩
        have np := nd_putA (v := .ref U) nd11 ky11
        have tk : ys.take (j + 1) = ys.take j ++ [t] := by
          rw [List.take_add_one, ht]
          rfl
        refine ⟨_, _, _, rfl, np, Nat.le_trans (putN_len _ _ _ _) (by omega), ?_, fun c o n e => ?_⟩
        · rw [tk, grpL_snoc]
          have up11 : ∀ (q : Addr) (xs : List V), H11 q = some (.lst xs) → upd H11 Gd (NDO P w Gd (putN gx (lk t) T2 (.ref U))) q = some (.lst xs) := fun q xs e => by
            rw [upd_ne (ne_of e nd11.ob (fun z => nomatch z))]
            exact e
          exact gr_put grZ (fun q xs e => up11 _ _ (s12 _ _ e)) hU0 (fun z => by rw [up11 _ _ eU, hn z]; rfl) (fun g hg e => by rw [up11 _ _ eU, ho g hg e])
        · rw [upd_ne n]
          exact s12 _ _ (stZ c o n e)
      · obtain ⟨y2, y3, gx, rfl, nd9, l9, gr9, st⟩ := hp
        rw [List.length_map, List.take_length] at gr9
        rw [List.length_map] at l9
        have gok := grp_ok lk hup
        have gl := awLen gr9
        refine ⟨.ref Gd, rfl, Gd, gx, rfl, nd9.ob, fun vp hvp => ?_⟩
        have sv := same_new (o := valsO vp Gd) hvp
        have grv := gr_stay (fun q xs e => sv _ _ e) gr9
        have ndv := sv _ _ nd9.ob
        refine ⟨vp, Gd, gx, (grpL lk ys).map (·.2), rfl, upd_same, ndv, ?_, gok.firsts, by rw [List.length_map]; omega, fun L hL => ?_⟩
        · refine prOf (by rw [List.length_map]; exact gl) fun i e g he hg => ?_
          rw [List.getElem?_map] at hg
          obtain ⟨g0, hg0, rfl⟩ := Option.map_eq_some_iff.mp hg
          obtain ⟨g1, h1, h2⟩ := awGet grv he
          rw [hg0] at h1
          obtain rfl := Option.some.inj h1
          obtain ⟨q, a, b, _⟩ := h2.lst
          exact ⟨q, a, b⟩
        have sL := same_new (o := .lst (gx.map (·.2.2))) hL
        obtain ⟨qs, hqs⟩ : ∃ qs : List Addr, gx.map (·.2.2) = qs.map V.ref := by
          clear ndv hvp hL sv sL nd9 l9 gl
          have key : ∀ {gx : List NE} {gs : Gs NestedKey} {G : Hp}, Paired (GrE G H) gx gs → ∃ qs : List Addr, gx.map (·.2.2) = qs.map V.ref := by
            intro gx gs G h
            induction h with
            | nil => exact ⟨[], rfl⟩
            | cons h1 _ ih =>
              obtain ⟨qs, e⟩ := ih
              obtain ⟨q, a, _⟩ := h1.lst
              exact ⟨q :: qs, by rw [List.map_cons, List.map_cons, e, a]⟩
          exact key gr9
        have stv : ∀ c o, c ≠ Gd → H7 c = some o → upd (upd H9 vp (valsO vp Gd)) L (.lst (gx.map (·.2.2))) c = some o := fun c o n e => sL _ _ (sv _ _ (st c o n (sN _ _ (sG _ _ e))))
        have sub7 : ∀ c o, H7 c = some o → c ≠ Gd := fun c o e => ne_of_none e hGd
        have hL0 : H L = none := by
          cases e : H L with
          | none => rfl
          | some o =>
            exfalso
            have h9 : H9 L = none := sv.free hL
            by_cases z : L = p
            · rw [z, st _ _ nGp.symm (sN _ _ (sG _ _ eP7))] at h9
              cases h9
            · have y : H7 L = some o := keep L o z e
              rw [st _ _ (sub7 _ _ y) (sN _ _ (sG _ _ y))] at h9
              cases h9
        have grL := gr_stay (fun q xs e => sL _ _ e) grv
        have qat : GqAt (upd (upd H9 vp (valsO vp Gd)) L (.lst (gx.map (·.2.2)))) qs ((grpL lk ys).map (·.2)) := by
          have ql : qs.length = gx.length := by
            have := congrArg List.length hqs
            rw [List.length_map, List.length_map] at this
            omega
          refine prOf (by rw [List.length_map]; omega) fun i q g hq hg => ?_
          rw [List.getElem?_map] at hg
          obtain ⟨g0, hg0, rfl⟩ := Option.map_eq_some_iff.mp hg
          obtain ⟨e, he, h2⟩ := awGet2 grL hg0
          obtain ⟨q', a, b, _⟩ := h2.lst
          have : (qs.map V.ref)[i]? = some e.2.2 := by rw [← hqs, List.getElem?_map, he]; rfl
          rw [List.getElem?_map, hq] at this
          have e2 : V.ref q = e.2.2 := Option.some.inj this
          rw [a] at e2
          rw [V.ref.inj e2]
          exact b
        have qnew : ∀ q ∈ qs, H q = none ∧ q ≠ L := fun q hq => by
          obtain ⟨i, hi⟩ := List.mem_iff_getElem?.mp hq
          have : (gx.map (·.2.2))[i]? = some (.ref q) := by rw [hqs, List.getElem?_map, hi]; rfl
          rw [List.getElem?_map] at this
          obtain ⟨e, he, e2⟩ := Option.map_eq_some_iff.mp this
          obtain ⟨g, hg, h2⟩ := awGet grv he
          obtain ⟨q', a, b, c⟩ := h2.lst
          rw [a] at e2
          obtain rfl := V.ref.inj e2
          exact ⟨c, fun z => by rw [z] at b; rw [b] at hL; cases hL⟩
        have hD9 := st _ _ (sub7 _ _ nd7.ob) (sN _ _ (sG _ _ nd7.ob))
        have qD : D ∉ qs := fun hq => by
          obtain ⟨i, hi⟩ := List.mem_iff_getElem?.mp hq
          obtain ⟨g, _, b⟩ := awGet qat hi
          have b' : upd (upd H9 vp (valsO vp Gd)) L (.lst (gx.map (·.2.2))) D = some (.lst (g.map V.str)) := b
          rw [sL _ _ (sv _ _ hD9)] at b'
          cases b'
        have DL : D ≠ L := ne_of_none (sv _ _ hD9) hL
        have tv : TupsStay H7 (upd (upd H9 vp (valsO vp Gd)) L (.lst (gx.map (·.2.2)))) := fun c xs e => stv _ _ (sub7 _ _ e) e
        have hbf : BkAt C (upd (upd H9 vp (valsO vp Gd)) L (.lst (gx.map (·.2.2)))) p Kd Dn D (kvE (fun t => .ref (adr t)) ks) dn := hb7.stay (fun c o _ e => stv c o (sub7 _ _ e) e) tv
        have lkf : LkAt P w (upd (upd H9 vp (valsO vp Gd)) L (.lst (gx.map (·.2.2)))) D 64 := ⟨xs, nd_stay nd7 (stv _ _ (sub7 _ _ nd7.ob) nd7.ob) tv, by omega, fun e he => (lk7 e he).stay tv⟩
        have keepf : ∀ c o, c ≠ p → H c = some o → upd (upd H9 vp (valsO vp Gd)) L (.lst (gx.map (·.2.2))) c = some o := fun c o n e => stv c o (sub7 _ _ (keep c o n e)) (keep c o n e)
        have eL : upd (upd H9 vp (valsO vp Gd)) L (.lst (gx.map (·.2.2))) L = some (.lst (qs.map V.ref)) := by rw [upd_same, hqs]
        generalize upd (upd H9 vp (valsO vp Gd)) L (.lst (gx.map (·.2.2))) = HF at qat hbf lkf keepf eL
        rw [hlk] at qat
        refine qq HF L D qs ys lab pm hup (fun t ht => by obtain ⟨_, _, _, z⟩ := hlab t ht; exact z) eL qat hL0 qnew ?_ hbf lkf hD0 DL qD keepf
        -- lists of unlike names are unlike lists
        rw [← hlk] at qat
        have fs := gok.firsts
        rw [List.nodup_iff_pairwise_ne, List.pairwise_iff_getElem]
        intro i j hi hj hij e
        obtain ⟨g1, a1, b1⟩ := awGet qat (List.getElem?_eq_getElem hi)
        obtain ⟨g2, a2, b2⟩ := awGet qat (List.getElem?_eq_getElem hj)
        have b1' : HF qs[i] = some (.lst (g1.map V.str)) := b1
        have b2' : HF qs[j] = some (.lst (g2.map V.str)) := b2
        rw [e, b2'] at b1'
        have i1 := (List.getElem?_eq_some_iff.mp a1).1
        have j1 := (List.getElem?_eq_some_iff.mp a2).1
        have := List.pairwise_iff_getElem.mp fs i j i1 j1 hij
        rw [(List.getElem?_eq_some_iff.mp a1).2, (List.getElem?_eq_some_iff.mp a2).2] at this
        obtain ⟨x, r, y, u, rfl, rfl, lt⟩ := this
        have := HO.lst.inj (Option.some.inj b1')
        rw [List.map_cons, List.map_cons] at this
        have e3 := V.str.inj (List.cons.inj this).1
        rw [e3] at lt
        exact sLt_irr _ lt
/-! ### good rows as things of any kind -/
abbrev noN : Addr → Prop := fun _ => False
theorem any_ints0 {H : Hp} : ∀ l : List Int, AnyAll noN H (l.map V.int) (l.map PyData.int)
  | [] => .nil
  | x :: l => .cons (.int x) (any_ints0 l)
theorem any_deeds0 {H : Hp} : ∀ {rs : List Addr} {ds : List Deed}, DsAt H rs ds → AnyAll noN H (rs.map V.ref) (ds.map deedD)
  | _, _, .nil => .nil
  | _, _, .cons h t => .cons (.tup (fun z => z) h (.cons (.str _) (any_ints0 _))) (any_deeds0 t)
theorem any_row {H : Hp} {R : Addr} {m o : Int} {ds : List Deed} (h : RowAt H R m ds o) : AnyAt noN H (.ref R) (rowD m ds o) := by
  obtain ⟨D, rs, e1, e2, e3⟩ := h
  exact .tup (fun z => z) e1 (.cons (.int m) (.cons (.tup (fun z => z) e2 (any_deeds0 e3)) (.cons (.int o) .nil)))
theorem deedA_ok {m : Int} {d : Deed} (ok : DeedOk m d) : deedA m (deedD d) = true := by
  show numsA m d.1 (d.2.map PyData.int) = true
  rw [numsA_at ok.word, List.length_map, decide_eq_true rfl, Bool.true_and]
  refine List.all_eq_true.mpr fun x hx => ?_
  obtain ⟨i, hi, rfl⟩ := List.mem_map.mp hx
  obtain ⟨h1, h2⟩ := ok.ahead i hi
  show (decide (0 ≤ i) && decide (i < m)) = true
  rw [decide_eq_true h1, decide_eq_true h2]
  rfl
theorem rowA_ok {m o : Int} {ds : List Deed} (ok : RowOk m ds o) : rowA (rowD m ds o) = true := by
  have l := ok.len
  have o1 := ok.o1
  show (decide (1 ≤ m ∧ m ≤ 3) && (decide ((ds.map deedD).length ≤ 8) && ((deedsA m (ds.map deedD)).all id && (decide (0 ≤ o) && decide (o < m + ((ds.map deedD).length : Nat)))))) = true
  rw [List.length_map, decide_eq_true ⟨ok.m1, ok.m3⟩, decide_eq_true l, decide_eq_true ok.o0, decide_eq_true o1, Bool.true_and, Bool.true_and, Bool.and_true, Bool.and_true]
  refine List.all_eq_true.mpr fun b hb => ?_
  unfold deedsA at hb
  obtain ⟨j, hj, rfl⟩ := List.mem_mapIdx.mp hb
  rw [List.length_map] at hj
  rw [List.getElem_map]
  exact deedA_ok (ok.deeds.each j _ (List.getElem?_eq_getElem hj))
theorem ncb_deed {m : Int} {d : Deed} (h : DeedOk m d) (hm : m ≤ 100) : NcB 18 1 (deedD d) := by
  obtain ⟨h1, h2, h3⟩ := fw_short _ h.word
  refine ncb_tup (b := 5) (k := 0) (fun x hx => ?_) ?_
  · rcases List.mem_cons.mp hx with rfl | hx
    · exact ncb_str h1 h2
    · obtain ⟨i, hi, rfl⟩ := List.mem_map.mp hx
      obtain ⟨i0, i1⟩ := h.ahead i hi
      exact (ncb_int (by omega)).mono (by decide) (by decide)
  · rw [List.length_cons, List.length_map]
    have : (d.2.length : Int) ≤ 2 := h3
    omega
theorem nc_row {m o : Int} {ds : List Deed} (h : RowOk m ds o) : NcB 459 3 (rowD m ds o) := by
  have hm := h.m1
  have hm3 := h.m3
  have hl := h.len
  have ho := h.o0
  have ho1 := h.o1
  refine ncb_tup (b := 152) (k := 2) (fun x hx => ?_) (by simp only [List.length_cons, List.length_nil]; decide)
  simp only [List.mem_cons, List.not_mem_nil, or_false] at hx
  rcases hx with rfl | rfl | rfl
  · exact (ncb_int (by omega)).mono (by decide) (by decide)
  · refine ncb_tup (b := 18) (k := 1) (fun x hx => ?_) ?_
    · obtain ⟨d, hd, rfl⟩ := List.mem_map.mp hx
      obtain ⟨k, hk⟩ := List.mem_iff_getElem?.mp hd
      have hk1 := (List.getElem?_eq_some_iff.mp hk).1
      exact ncb_deed (h.deeds.each k d hk) (by omega)
    · rw [List.length_map]
      omega
  · exact (ncb_int (by omega)).mono (by decide) (by decide)
/-! ### words by which a pair of carries comes -/
theorem rtS_path {m : Nat} {ds1 ds2 : List Deed} : ∀ {t : Nat} {q : PC}, RtS m ds1 ds2 t q → ∃ cols : List (List Int), cols.length = t ∧ (∀ c ∈ cols, c.length = m ∧ ∀ x ∈ c, Bit x) ∧ q = (runC ds1 (ds1.map fcD) cols, runC ds2 (ds2.map fcD) cols)
  | 0, q, h => ⟨[], rfl, (fun _ z => nomatch z), h⟩
  | t + 1, q, ⟨q0, bs, h, hb, e⟩ => by
    obtain ⟨cols, l, hall, e0⟩ := rtS_path h
    refine ⟨cols ++ [bs], by rw [List.length_append, l]; rfl, fun c hc => ?_, ?_⟩
    · rcases List.mem_append.mp hc with z | z
      · exact hall c z
      · rw [List.mem_singleton.mp z]
        exact allB_ok m bs hb
    · rw [runC_snoc, runC_snoc, e, e0]
      rfl
/-- the words that come to a pair and tell the bits -/
theorem rt_words {m t : Nat} {ds1 ds2 : List Deed} {o1 o2 : Int} {q : PC} {bs : List Int} (ok1 : RowOk m ds1 o1) (ok2 : RowOk m ds2 o2) (h : RtS m ds1 ds2 t q) (hb : bs ∈ allB m) :
    ∃ ws : List Int, ws.length = m ∧ (∀ x ∈ ws, 0 ≤ x ∧ x < 2 ^ (t + 1)) ∧ ob ds1 o1 q.1 bs = bitA t ((vals (2 ^ (t + 1)) ds1 ws).getD o1.toNat 0) ∧ ob ds2 o2 q.2 bs = bitA t ((vals (2 ^ (t + 1)) ds2 ws).getD o2.toNat 0) := by
  obtain ⟨cols, l, hall, e⟩ := rtS_path h
  have hall' : ∀ c ∈ cols ++ [bs], c.length = m ∧ ∀ x ∈ c, Bit x := fun c hc => by
    rcases List.mem_append.mp hc with z | z
    · exact hall c z
    · rw [List.mem_singleton.mp z]
      exact allB_ok m bs hb
  have ll : (cols ++ [bs]).length = t + 1 := by rw [List.length_append, l]; rfl
  have hx := wofL_range hall'
  rw [ll] at hx
  have hm := wofL_len m (cols ++ [bs])
  refine ⟨wofL m (cols ++ [bs]), hm, hx, ?_, ?_⟩
  · have b := ob_bit (t := t) ok1 hm hx (by omega)
    rw [crry_run hall' _ (by omega), wofL_bits (t := t) hall' (by rw [List.getElem?_append_right (by omega), l, Nat.sub_self]; rfl), ← l, List.take_left] at b
    rw [e, ← l]
    exact b
  · have b := ob_bit (t := t) ok2 hm hx (by omega)
    rw [crry_run hall' _ (by omega), wofL_bits (t := t) hall' (by rw [List.getElem?_append_right (by omega), l, Nat.sub_self]; rfl), ← l, List.take_left] at b
    rw [e, ← l]
    exact b
/-! ### renumbered -/
def spRen (K : PySem.W.Frag) : Sp := fun vs H Q _ => ∃ (r L : Addr) (d : Deed) (nu : List Int), vs = [.ref r, .ref L] ∧ H r = some (.tup (dV d)) ∧ DeedOk nu.length d ∧ SqL K H L (nu.map V.int) ∧
  ∀ H' r', Same H H' → H' r' = some (.tup (dV (renD nu d))) → Q (.ref r') H'
theorem ok_ren {f : Addr} {fd : FuncData} {k : Nat} (F : Fun K "renumbered" "renumbered" s_renumbered f fd) (mt : mg "tuple" = none) : FnOk P w K mg base CX0 (k + 1) f fd ["deed", "numbers"] (spRen K) := by
  refine F.ok sc_renumbered (fun vs H Q E h => ?_) (fun cdv A outer s H vs Q E hr h => ?_)
  · obtain ⟨r, L, d, nu, rfl, _⟩ := h
    rfl
  · obtain ⟨r, L, d, nu, rfl, er, okd, eL, q⟩ := h
    refine ⟨_, pss_one (ps_ret (pe_op op_catZ (pe_tup (pa_cons (pe_ix ix_tup (pv 0) pe_int (fun _ _ => rfl)) pa_nil)) (pe_callTy call_tuple_of (by rfl) mt (by decide +kernel) (pa_cons
      (pe_lc (own := [("number", 2)]) (g := gName 2) (by rfl) sc_renumbered.nd (pi_tup (pe_slice sl_tup (pv 0) (po_some pe_int) po_none)) (blkOk_by (own := [("number", 2)]) (N := N_renumbered) (sc := defScope s_renumbered) (by decide +kernel))
        (fun _ _ _ _ _ => pg_name (i := 2) sc_renumbered.nd rfl (Or.inl rfl)) (fun _ _ _ _ _ => pts_nil) (fun _ _ _ _ _ => pe_ix (r := rIxL K) ix_list (pv 1) (pv 2) (fun _ _ => rfl))) pa_nil)))), ?_⟩
    have d2 := fw_len okd
    refine ⟨.ref r, rfl, r, _, 0, .str d.1, rfl, rfl, SqT.of er, dv0 d, (by show 1 ≤ sizeLine; decide), fun U hU => ?_⟩
    have sU := same_new (o := .tup [.str d.1]) hU
    have er1 := sU _ _ er
    refine ⟨.ref r, rfl, 1, rfl, r, dV d, rfl, SqT.of er1, notWhole _ _, fun T hT => ?_⟩
    have eT : cutV (dV d) (some 1) none = d.2.map V.int := cutTail _ _
    rw [eT]
    have sT := sU.trans (same_new (o := .tup (d.2.map V.int)) hT)
    have eU1 : upd (upd H U (.tup [.str d.1])) T (.tup (d.2.map V.int)) U = some (.tup [.str d.1]) := same_new hT _ _ upd_same
    obtain ⟨H3, hH3⟩ : ∃ H3, H3 = upd (upd H U (.tup [.str d.1])) T (.tup (d.2.map V.int)) := ⟨_, rfl⟩
    have eT3 : H3 T = some (.tup (d.2.map V.int)) := by rw [hH3]; exact upd_same
    rw [← hH3] at sT eU1 ⊢
    refine ⟨T, rfl, ⟨_, SqT.of eT3⟩, fun C hC => ?_⟩
    have sC : ∀ o, Same H3 (upd H3 C o) := fun o => same_new hC
    refine lc_tup (K := K) (a := T) (xs := d.2.map V.int) (fun j H4 => H4 = upd H3 C (.lst (((d.2.take j).map fun z => nu.getD z.toNat 0).map V.int))) rfl (fun j H4 _ hp => ?_) (fun j x H4 hx hp => ?_) (fun H4 hp => ?_)
    · rw [hp]
      exact SqT.of (sC _ _ _ eT3)
    · obtain ⟨z, hz, rfl⟩ : ∃ z, d.2[j]? = some z ∧ x = .int z := by
        rw [List.getElem?_map] at hx
        cases e : d.2[j]? with
        | none => rw [e] at hx; cases hx
        | some z => rw [e] at hx; exact ⟨z, rfl, (Option.some.inj hx).symm⟩
      obtain ⟨z0, z1⟩ := okd.ahead z (List.mem_of_getElem? hz)
      subst hp
      refine ⟨rfl, .ref L, rfl, .int z, rfl, L, _, z, _, rfl, rfl, (sT.trans (sC _)).seq eL, atI_ints z0 z1, _, upd_same, ?_, ?_⟩
      · rw [List.length_map, List.length_map, List.length_take]
        exact small1000 (by omega)
      · rw [upd_upd, List.take_add_one, hz]
        simp
    · have eC : H4 C = some (.lst ((renD nu d).2.map V.int)) := by
        rw [hp, upd_same, List.length_map, List.take_length]
        rfl
      have s4 : Same H3 H4 := by rw [hp]; exact sC _
      refine ⟨C, _, rfl, .inl ⟨.inl (.inl eC), fun Z hZ => ?_⟩⟩
      have sZ := same_new (o := .tup ((renD nu d).2.map V.int)) hZ
      refine ⟨U, Z, _, _, rfl, rfl, sZ _ _ (s4 _ _ eU1), upd_same, ?_, fun p H5 s5 e5 => ?_⟩
      · rw [List.length_map]
        show 1 + (d.2.map _).length ≤ sizeLine
        rw [List.length_map]
        exact Nat.le_of_lt (small1000 (by omega))
      · exact q H5 p (sT.trans (s4.trans (sZ.trans s5))) e5
/-! ### put_behind -/
/-- the numbers of a row's values behind others -/
def nuL (inp : List Int) (st : Int) (n : Nat) : List Int := inp ++ (List.range n).map fun (k : Nat) => st + (k : Int)
theorem nuL_len (inp : List Int) (st : Int) (n : Nat) : (nuL inp st n).length = inp.length + n := by
  unfold nuL
  rw [List.length_append, List.length_map, List.length_range]
theorem nuL_in {inp : List Int} {st : Int} {n : Nat} {m : Int} (h : ∀ x ∈ inp, 0 ≤ x ∧ x < m) (h0 : 0 ≤ st) (h1 : st + n ≤ m) : ∀ x ∈ nuL inp st n, 0 ≤ x ∧ x < m := by
  intro x hx
  rcases List.mem_append.mp hx with hx | hx
  · exact h x hx
  · obtain ⟨k, hk, rfl⟩ := List.mem_map.mp hx
    have := List.mem_range.mp hk
    omega
theorem ints_nuL (inp : List Int) (st : Int) (n : Nat) : inp.map V.int ++ rgV st (st + n) = (nuL inp st n).map V.int := by
  unfold nuL rgV
  rw [List.map_append, List.map_map]
  have : (st + (n : Int) - st).toNat = n := by omega
  rw [this]
  rfl
def spPb (K : PySem.W.Frag) : Sp := fun vs H Q _ => ∃ (D0 R I : Addr) (m m2 o : Int) (rs0 : List Addr) (ds0 ds : List Deed) (inp : List Int), vs = [.int m, .ref D0, .ref R, .ref I] ∧ H D0 = some (.tup (rs0.map V.ref)) ∧ DsAt H rs0 ds0 ∧ RowAt H R m2 ds o ∧ H I = some (.lst (inp.map V.int)) ∧
  (inp.length : Int) = m2 ∧ DsOk m2 ds ∧ 0 ≤ o ∧ o < m2 + ds.length ∧ 0 ≤ m ∧ m ≤ 100 ∧ ds0.length ≤ 100 ∧ ds.length ≤ 100 ∧ inp.length ≤ 100 ∧
  ∀ H' T D1 rs1, Same H H' → H' T = some (.tup [.ref D1, .int ((nuL inp (m + ds0.length) ds.length).getD o.toNat 0)]) → H' D1 = some (.tup (rs1.map V.ref)) → DsAt H' rs1 (ds0 ++ ds.map (renD (nuL inp (m + ds0.length) ds.length))) → Q (.ref T) H'
theorem ok_pb {f fR : Addr} {fd fdR : FuncData} {k : Nat} (F : Fun K "put_behind" "put_behind" s_put_behind f fd) (GR : FnOk P w K mg base CX0 (k + 1) fR fdR ["deed", "numbers"] (spRen K)) (kR : PySem.W.keepIn K (.ref fR) = true) (bR : Binds K fdR ["deed", "numbers"] [])
    (gR : mg "renumbered" = some (.ref fR)) (mt : mg "tuple" = none) (ml : mg "list" = none) (mr : mg "range" = none) (mn : mg "len" = none) : FnOk P w K mg base CX0 (k + 2) f fd ["many", "deeds", "row", "inputs"] (spPb K) := by
  refine F.ok sc_put_behind (fun vs H Q E h => ?_) (fun cdv A outer s H vs Q E hr h => ?_)
  · obtain ⟨D0, R, I, m, m2, o, rs0, ds0, ds, inp, rfl, _⟩ := h
    rfl
  · obtain ⟨D0, R, I, m, m2, o, rs0, ds0, ds, inp, rfl, e0, hd0, hrow, eI, hm2, hok, o0, o1, m0, m1, l0, l1, l2, q⟩ := h
    obtain ⟨D, rs, eR, eD, hd⟩ := id hrow
    refine ⟨_, pss_cons (ps_set (i := 4) sc_put_behind.nd rfl (.inl rfl) (pe_op op_add (pv 0) (pe_callB call_len_seq (by rfl) mn PySem.boot_len (pa_cons (pv 1) pa_nil))))
      (pss_cons (ps_set (i := 5) sc_put_behind.nd rfl (.inr rfl) (pe_op op_cat (pv 3) (pe_listRg rfl (by rfl) ml (prg_2 (by rfl) mr (pv 4) (pe_op op_add (pv 4) (pe_callB call_len_seq (by rfl) mn PySem.boot_len (pa_cons (pe_ix ix_tup (pv 2) pe_int (fun _ _ => rfl)) pa_nil)))))))
      (pss_one (ps_ret (pe_tup (pa_cons (pe_op op_catZ (pv 1) (pe_callTy call_tuple_of (by rfl) mt (by decide +kernel) (pa_cons
        (pe_lc (own := [("deed", 6)]) (g := gName 6) (by rfl) sc_put_behind.nd (pi_tup (pe_ix ix_tup (pv 2) pe_int (fun _ _ => rfl))) (blkOk_by (own := [("deed", 6)]) (N := N_put_behind) (sc := defScope s_put_behind) (by decide +kernel))
          (fun _ _ _ _ _ => pg_name (i := 6) sc_put_behind.nd rfl (Or.inl rfl)) (fun _ _ _ _ _ => pts_nil)
          (fun _ _ _ _ _ => pe_call GR hr (by rfl) gR kR bR .nil pass0 (pa_cons (pv 6) (pa_cons (pv 5) pa_nil)))) pa_nil)))
        (pa_cons (pe_ix ix_list (pv 5) (pe_ix ix_tup (pv 2) pe_int (fun _ _ => rfl)) (fun _ _ => rfl)) pa_nil)))))), ?_⟩
    have lr0 := awLen hd0
    have lr := awLen hd
    obtain ⟨l0', hl0⟩ : ∃ l, l = rs0.map V.ref := ⟨_, rfl⟩
    obtain ⟨l1', hl1⟩ : ∃ l, l = rs.map V.ref := ⟨_, rfl⟩
    have ln0 : l0'.length = ds0.length := by rw [hl0, List.length_map, lr0]
    have ln1 : l1'.length = ds.length := by rw [hl1, List.length_map, lr]
    obtain ⟨nu, hnu⟩ : ∃ nu, nu = nuL inp (m + ds0.length) ds.length := ⟨_, rfl⟩
    rw [← hnu] at q
    have e0' := e0
    have eD' := eD
    rw [← hl0] at e0'
    rw [← hl1] at eD'
    have eL : inp.map V.int ++ rgV (m + (l0'.length : Int)) (m + (l0'.length : Int) + (l1'.length : Int)) = nu.map V.int := by rw [ln0, ln1, ints_nuL, ← hnu]
    refine ⟨.int m, rfl, .ref D0, rfl, D0, _, rfl, .inr (SqT.of e0'), m, _, rfl, rfl, ?_⟩
    refine ⟨.ref I, rfl, .int (m + (l0'.length : Int)), rfl, .int (m + (l0'.length : Int)), rfl, .ref R, rfl, R, _, 1, .ref D, rfl, rfl, SqT.of eR, rfl, D, _, rfl, .inr (SqT.of eD'), m + (l0'.length : Int), _, rfl, rfl, m + (l0'.length : Int), m + (l0'.length : Int) + (l1'.length : Int), rfl, rfl, ?_⟩
    refine ⟨RgOk.of_le (by omega) (by omega) (by omega) (by omega), fun G hG => ?_⟩
    have sG := same_new (o := .lst (rgV (m + (l0'.length : Int)) (m + (l0'.length : Int) + (l1'.length : Int)))) hG
    refine ⟨I, G, _, _, rfl, rfl, sG _ _ eI, upd_same, ?_, fun U hU => ?_⟩
    · rw [List.length_map, rgV_length]
      exact Nat.le_of_lt (small1000 (by omega))
    rw [eL]
    have sU := sG.trans (same_new (o := .lst (nu.map V.int)) hU)
    obtain ⟨H3, hH3⟩ : ∃ H3, H3 = upd (upd H G (.lst (rgV (m + (l0'.length : Int)) (m + (l0'.length : Int) + (l1'.length : Int))))) U (.lst (nu.map V.int)) := ⟨_, rfl⟩
    have eU3 : H3 U = some (.lst (nu.map V.int)) := by rw [hH3]; exact upd_same
    rw [← hH3] at sU ⊢
    have lnu : nu.length = inp.length + ds.length := by rw [hnu, nuL_len]
    refine ⟨.ref D0, rfl, .ref R, rfl, R, _, 1, .ref D, rfl, rfl, SqT.of (sU _ _ eR), rfl, D, rfl, ⟨_, SqT.of (sU _ _ eD)⟩, fun C hC => ?_⟩
    refine lc_tup (K := K) (a := D) (xs := rs.map V.ref) (fun j H4 => ∃ qs, H4 C = some (.lst (qs.map V.ref)) ∧ DsAt H4 qs ((ds.take j).map (renD nu)) ∧ Same H3 H4) ⟨[], upd_same, .nil, same_new hC⟩ (fun j H4 _ hp => ?_) (fun j x H4 hx hp => ?_) (fun H4 hp => ?_)
    · obtain ⟨qs, _, _, s4⟩ := hp
      exact SqT.of (s4 _ _ (sU _ _ eD))
    · obtain ⟨qs, eC, hq, s4⟩ := hp
      have hi : j < rs.length := by
        have := (List.getElem?_eq_some_iff.mp hx).1
        rwa [List.length_map] at this
      have hx' : x = .ref rs[j] := by
        rw [List.getElem?_map, List.getElem?_eq_getElem hi] at hx
        exact (Option.some.inj hx).symm
      subst hx'
      obtain ⟨d, hd1, hd2⟩ := awGet hd (List.getElem?_eq_getElem hi)
      have okd : DeedOk nu.length d := by
        have h1 := hok.each j d hd1
        refine ⟨h1.word, fun i hi' => ?_⟩
        obtain ⟨i0, i1⟩ := h1.ahead i hi'
        refine ⟨i0, ?_⟩
        rw [lnu]
        omega
      have lq := awLen hq
      rw [List.length_map, List.length_take] at lq
      refine ⟨rfl, .ref rs[j], rfl, .ref U, rfl, rs[j], U, d, nu, rfl, s4 _ _ (sU _ _ hd2), okd, .inl (.inl (s4 _ _ eU3)), fun H5 r' s5 e5 => ?_⟩
      have eC5 := s5 _ _ eC
      refine ⟨_, eC5, ?_, qs ++ [r'], ?_, ?_, ?_⟩
      · rw [List.length_map]
        exact small1000 (by omega)
      · rw [upd_same, List.map_append]
        rfl
      · rw [List.take_add_one, hd1, List.map_append]
        exact (tups_put eC5).ds (awSnoc (F := fun r d => H5 r = some (.tup (dV d))) e5 ((Same.tups s5).ds hq))
      · intro b u e
        have nb : b ≠ C := ne_of_none e hC
        rw [upd_ne nb]
        exact s5 _ _ (s4 _ _ e)
    · obtain ⟨qs, eC, hq, s4⟩ := hp
      rw [List.length_map, lr, List.take_length] at hq
      have lq := awLen hq
      rw [List.length_map] at lq
      refine ⟨C, _, rfl, .inl ⟨.inl (.inl eC), fun Z hZ => ?_⟩⟩
      have sZ := same_new (o := .tup (qs.map V.ref)) hZ
      refine ⟨D0, Z, _, _, rfl, rfl, sZ _ _ (s4 _ _ (sU _ _ e0)), upd_same, ?_, fun D1 H5 s5 e5 => ?_⟩
      · rw [List.length_map, List.length_map]
        exact Nat.le_of_lt (small1000 (by omega))
      have sH5 : Same H H5 := sU.trans (s4.trans (sZ.trans s5))
      refine ⟨.ref U, rfl, .ref R, rfl, R, _, 2, .int o, rfl, rfl, SqT.of (sH5 _ _ eR), rfl, U, _, o, .int (nu.getD o.toNat 0), rfl, rfl, .inl (.inl (s5 _ _ (sZ _ _ (s4 _ _ eU3)))), atI_ints o0 (by rw [lnu]; omega), (by show 2 ≤ sizeLine; decide), fun T hT => ?_⟩
      have sT := same_new (o := .tup [.ref D1, .int (nu.getD o.toNat 0)]) hT
      refine q _ T D1 (rs0 ++ qs) (sH5.trans sT) upd_same ?_ ?_
      · rw [List.map_append]
        exact sT _ _ e5
      · exact awAppend ((Same.tups (sH5.trans sT)).ds hd0) ((Same.tups (sZ.trans (s5.trans sT))).ds hq)
/-! ### rows put together, as numbers -/
def upI (m : Int) : List Int := (List.range m.toNat).map fun (k : Nat) => (k : Int)
theorem upI_len {m : Int} (h : 0 ≤ m) : ((upI m).length : Int) = m := by
  unfold upI
  rw [List.length_map, List.length_range]
  omega
theorem upI_in {m n : Int} (h : m ≤ n) : ∀ x ∈ upI m, 0 ≤ x ∧ x < n := by
  intro x hx
  obtain ⟨k, hk, rfl⟩ := List.mem_map.mp hx
  have := List.mem_range.mp hk
  omega
theorem upI_rg {m : Int} : rgV 0 m = (upI m).map V.int := by
  unfold upI rgV
  rw [List.map_map]
  have : (m - 0).toNat = m.toNat := by omega
  rw [this]
  apply List.map_congr_left
  intro k _
  show V.int (0 + (k : Int)) = V.int (k : Int)
  rw [Int.zero_add]
def putNu (m : Int) (inp : List Int) (acc : List Deed) (r : Rw) : List Int := nuL inp (m + acc.length) r.ds.length
def putS (m : Int) (st : List Deed × List Int) (r : Rw) : List Deed × List Int := (st.1 ++ r.ds.map (renD (putNu m (upI m) st.1 r)), st.2 ++ [(putNu m (upI m) st.1 r).getD r.o.toNat 0])
def putAll (m : Int) (rws : List Rw) : List Deed × List Int := rws.foldl (putS m) ([], [])
def putF (m : Int) (rws : List Rw) (r : Rw) : Rw := ⟨m, (putAll m rws).1 ++ r.ds.map (renD (putNu m (putAll m rws).2 (putAll m rws).1 r)), (putNu m (putAll m rws).2 (putAll m rws).1 r).getD r.o.toNat 0⟩
theorem putAll_next {m : Int} {rws : List Rw} {i : Nat} {r : Rw} (h : rws[i]? = some r) : putAll m (rws.take (i + 1)) = putS m (putAll m (rws.take i)) r := by
  unfold putAll
  rw [List.take_add_one, h, List.foldl_append]
  rfl
def dsSum (rws : List Rw) : Nat := (rws.map fun r => r.ds.length).sum
theorem putS_len (m : Int) (st : List Deed × List Int) (r : Rw) : (putS m st r).1.length = st.1.length + r.ds.length ∧ (putS m st r).2.length = st.2.length + 1 := by
  unfold putS
  constructor
  · rw [List.length_append, List.length_map]
  · rw [List.length_append]
    rfl
theorem foldS_len (m : Int) : ∀ (rws : List Rw) (st : List Deed × List Int), (rws.foldl (putS m) st).1.length = st.1.length + dsSum rws ∧ (rws.foldl (putS m) st).2.length = st.2.length + rws.length
  | [], st => ⟨by simp [dsSum], by simp⟩
  | r :: rws, st => by
    obtain ⟨h1, h2⟩ := foldS_len m rws (putS m st r)
    obtain ⟨h3, h4⟩ := putS_len m st r
    rw [List.foldl_cons, h1, h2, h3, h4]
    constructor
    · unfold dsSum
      rw [List.map_cons, List.sum_cons]
      omega
    · rw [List.length_cons]
      omega
theorem putAll_len (m : Int) (rws : List Rw) : (putAll m rws).1.length = dsSum rws ∧ (putAll m rws).2.length = rws.length := by
  obtain ⟨h1, h2⟩ := foldS_len m rws ([], [])
  unfold putAll
  rw [h1, h2]
  exact ⟨by simp, by simp⟩
theorem dsSum_take (rws : List Rw) (i : Nat) : dsSum (rws.take i) ≤ dsSum rws := by
  unfold dsSum
  induction rws generalizing i with
  | nil => simp
  | cons r rws ih =>
    cases i with
    | zero => simp
    | succ i =>
      have := ih i
      simp only [List.take_succ_cons, List.map_cons, List.sum_cons]
      omega
theorem dsSum_mem {rws : List Rw} {r : Rw} (h : r ∈ rws) : r.ds.length ≤ dsSum rws := by
  unfold dsSum
  induction rws with
  | nil => cases h
  | cons x rws ih =>
    rw [List.map_cons, List.sum_cons]
    rcases List.mem_cons.mp h with rfl | h
    · omega
    · have := ih h
      omega
/-- what is asked of parts -/
structure Parts (m : Int) (rws : List Rw) (r : Rw) : Prop where
  row : RwOk r
  many : (rws.length : Int) = r.m
  parts : ∀ x ∈ rws, RwOk x ∧ x.m = m
  m1 : 1 ≤ m
  m3 : m ≤ 3
  few : r.ds.length + dsSum rws ≤ 8
theorem ren_all {m m2 : Int} {ds : List Deed} {nu : List Int} {n : Nat} (h : DsOk m2 ds) (hl : (nu.length : Int) = m2 + ds.length) (hn : ∀ j (z : Nat), z < m2.toNat + j → ∀ x, nu[z]? = some x → 0 ≤ x ∧ x < m + n + j) : DsOk (m + n) (ds.map (renD nu)) := by
  constructor
  intro k d hk
  rw [List.getElem?_map] at hk
  obtain ⟨d0, hd0, rfl⟩ := Option.map_eq_some_iff.mp hk
  have okd := h.each k d0 hd0
  refine ⟨?_, ?_⟩
  · show (d0.1, ((d0.2.map _).length : Int)) ∈ fwL
    rw [List.length_map]
    exact okd.word
  · intro i hi
    obtain ⟨z, hz, rfl⟩ := List.mem_map.mp hi
    obtain ⟨z0, z1⟩ := okd.ahead z hz
    have hk2 := (List.getElem?_eq_some_iff.mp hd0).1
    have hk : z.toNat < nu.length := by omega
    rw [List.getD_eq_getElem?_getD, List.getElem?_eq_getElem hk]
    exact hn k z.toNat (by omega) _ (List.getElem?_eq_getElem hk)
theorem nuL_at {inp : List Int} {st : Int} {n : Nat} {m2 b : Int} (hl : (inp.length : Int) = m2) (hi : ∀ x ∈ inp, 0 ≤ x ∧ x < b) (hb : b ≤ st) (h0 : 0 ≤ st) : ∀ j (z : Nat), z < m2.toNat + j → ∀ x, (nuL inp st n)[z]? = some x → 0 ≤ x ∧ x < st + j := by
  intro j z hz x hx
  unfold nuL at hx
  by_cases h : z < inp.length
  · rw [List.getElem?_append_left h] at hx
    have := hi x (List.mem_of_getElem? hx)
    omega
  · rw [List.getElem?_append_right (by omega), List.getElem?_map] at hx
    obtain ⟨k, hk, rfl⟩ := Option.map_eq_some_iff.mp hx
    obtain ⟨h1, h2⟩ := List.getElem?_eq_some_iff.mp hk
    rw [List.getElem_range] at h2
    omega
theorem dsOk_nil (m : Int) : DsOk m [] := ⟨fun k d e => by simp at e⟩
theorem fold_ok {m : Int} (h0 : 0 ≤ m) : ∀ (rws : List Rw) (st : List Deed × List Int), (∀ x ∈ rws, RwOk x ∧ x.m = m) → DsOk m st.1 → (∀ x ∈ st.2, 0 ≤ x ∧ x < m + st.1.length) →
    DsOk m (rws.foldl (putS m) st).1 ∧ ∀ x ∈ (rws.foldl (putS m) st).2, 0 ≤ x ∧ x < m + (rws.foldl (putS m) st).1.length
  | [], _, _, h1, h2 => ⟨h1, h2⟩
  | r :: rws, st, hr, h1, h2 => by
    obtain ⟨rok, rm⟩ := hr r List.mem_cons_self
    have a1 := nuL_at (n := r.ds.length) (inp := upI m) (m2 := m) (b := m) (st := m + st.1.length) (upI_len h0) (upI_in (Int.le_refl _)) (by omega) (by omega)
    have a2 : DsOk (m + st.1.length) (r.ds.map (renD (putNu m (upI m) st.1 r))) := ren_all (m := m) (m2 := m) (n := st.1.length) (by rw [← rm]; exact rok.deeds) (by
      unfold putNu
      rw [nuL_len]
      have := upI_len h0
      omega) a1
    refine fold_ok h0 rws (putS m st r) (fun x hx => hr x (List.mem_cons_of_mem _ hx)) (dsOk_append h1 a2 rfl) ?_
    intro x hx
    have hl := (putS_len m st r).1
    rw [hl]
    rcases List.mem_append.mp hx with hx | hx
    · have := h2 x hx
      omega
    · rw [List.mem_singleton.mp hx]
      have hlen : (putNu m (upI m) st.1 r).length = (upI m).length + r.ds.length := nuL_len _ _ _
      have hu := upI_len h0
      have h3 := rok.o0
      have h4 := rok.o1
      have hk : r.o.toNat < (putNu m (upI m) st.1 r).length := by omega
      rw [List.getD_eq_getElem?_getD, List.getElem?_eq_getElem hk]
      have := a1 r.ds.length r.o.toNat (by omega) _ (List.getElem?_eq_getElem hk)
      show 0 ≤ (putNu m (upI m) st.1 r)[r.o.toNat] ∧ (putNu m (upI m) st.1 r)[r.o.toNat] < _
      unfold putNu at this ⊢
      omega
theorem putF_ok {m : Int} {rws : List Rw} {r : Rw} (h : Parts m rws r) : RwOk (putF m rws r) := by
  have hm := h.m1
  obtain ⟨b1, b2⟩ := fold_ok (m := m) (by omega) rws ([], []) h.parts (dsOk_nil m) (fun x hx => by cases hx)
  obtain ⟨l1, l2⟩ := putAll_len m rws
  have e : rws.foldl (putS m) ([], []) = putAll m rws := rfl
  rw [e] at b1 b2
  have few := h.few
  have many := h.many
  have rok := h.row
  have a1 := nuL_at (n := r.ds.length) (inp := (putAll m rws).2) (m2 := r.m) (b := m + (putAll m rws).1.length) (st := m + (putAll m rws).1.length) (by rw [l2]; exact many) b2 (Int.le_refl _) (by omega)
  have a2 : DsOk (m + (putAll m rws).1.length) (r.ds.map (renD (putNu m (putAll m rws).2 (putAll m rws).1 r))) := ren_all (m := m) (m2 := r.m) (n := (putAll m rws).1.length) rok.deeds (by
    unfold putNu
    rw [nuL_len]
    omega) a1
  have hlen : (putNu m (putAll m rws).2 (putAll m rws).1 r).length = (putAll m rws).2.length + r.ds.length := nuL_len _ _ _
  have h3 := rok.o0
  have h4 := rok.o1
  have hk : r.o.toNat < (putNu m (putAll m rws).2 (putAll m rws).1 r).length := by omega
  have ho := a1 r.ds.length r.o.toNat (by omega) _ (List.getElem?_eq_getElem hk)
  have eo : (putF m rws r).o = (putNu m (putAll m rws).2 (putAll m rws).1 r)[r.o.toNat] := by
    show (putNu m (putAll m rws).2 (putAll m rws).1 r).getD r.o.toNat 0 = _
    rw [List.getD_eq_getElem?_getD, List.getElem?_eq_getElem hk]
    rfl
  have el : (putF m rws r).ds.length = (putAll m rws).1.length + r.ds.length := by
    show (_ ++ List.map _ _).length = _
    rw [List.length_append, List.length_map]
  refine ⟨hm, h.m3, by rw [el]; omega, dsOk_append b1 a2 rfl, ?_, ?_⟩
  · rw [eo]
    exact ho.1
  · rw [eo, el]
    have := ho.2
    show (putNu m (putAll m rws).2 (putAll m rws).1 r)[r.o.toNat] < m + _
    unfold putNu at this ⊢
    omega
/-! ### check_parts where nothing is refused -/
def spCk (K : PySem.W.Frag) : Sp := fun vs H Q _ => ∃ (R L : Addr) (m : Int) (as : List Addr) (rws : List Rw) (r : Rw), vs = [.ref R, .ref L] ∧ RwAt H R r ∧ H L = some (.lst (as.map V.ref)) ∧ RwsAt H as rws ∧ Parts m rws r ∧ ∀ H', Same H H' → Q .non H'
theorem ok_ck {f : Addr} {fd : FuncData} {k : Nat} {t : Tok} (F : Fun K "check_parts" "check_parts" s_check_parts f fd) (mn : mg "len" = none) (ms : mg "sum" = none) (gM : mg "MOST_DEEDS" = some (.int 8 t)) : FnOk P w K mg base CX0 (k + 1) f fd ["row", "rows"] (spCk K) := by
  refine F.ok sc_check_parts (fun vs H Q E h => ?_) (fun cdv A outer s H vs Q E hr h => ?_)
  · obtain ⟨R, L, m, as, rws, r, rfl, _⟩ := h
    rfl
  · obtain ⟨R, L, m, as, rws, r, rfl, hrow, eL, hrs, hp, q⟩ := h
    obtain ⟨D, rs, eR, eD, hd⟩ := id hrow
    refine ⟨_, pss_cons (ps_if (pt_cmpR op_ne (pe_callB call_len_seq (by rfl) mn PySem.boot_len (pa_cons (pv 1) pa_nil)) (pe_ix ix_tup (pv 0) pe_int (fun _ _ => rfl)) (nomark _)) (pss_one ps_never) pss_nil)
      (pss_cons (ps_for PassesOwn.never rfl (pi_list (pv 1)) (pg_name (i := 2) sc_check_parts.nd rfl (.inl rfl)) (pss_one (ps_if (pt_cmpR op_ne (pe_ix ix_tup (pv 2) pe_int (fun _ _ => rfl)) (pe_ix ix_tup (pe_ix ix_list (pv 1) pe_int (fun _ _ => rfl)) pe_int (fun _ _ => rfl)) (nomark _)) (pss_one ps_never) pss_nil)))
      (pss_cons (ps_set (i := 3) sc_check_parts.nd rfl (.inl rfl) (pe_op op_add (pe_callB call_len_seq (by rfl) mn PySem.boot_len (pa_cons (pe_ix ix_tup (pv 0) pe_int (fun _ _ => rfl)) pa_nil)) (pe_callB (cr_sum rfl) (by rfl) ms (by decide +kernel) (pa_cons
        (pe_lc (own := [("part", 2)]) (g := gName 2) (by rfl) sc_check_parts.nd (pi_list (pv 1)) (blkOk_by (own := [("part", 2)]) (N := N_check_parts) (sc := defScope s_check_parts) (by decide +kernel))
          (fun _ _ _ _ _ => pg_name (i := 2) sc_check_parts.nd rfl (Or.inl rfl)) (fun _ _ _ _ _ => pts_nil)
          (fun _ _ _ _ _ => pe_callB (r := rLen K) call_len_seq (by rfl) mn PySem.boot_len (pa_cons (pe_ix (r := rIxT K) ix_tup (pv 2) pe_int (fun _ _ => rfl)) pa_nil))) pa_nil))))
      (pss_one (ps_if (pt_cmpR op_gt (pv 3) (pe_glob (v := .int 8) (by rfl) gM ⟨t, rfl⟩) (nomark _)) (pss_one ps_never) pss_nil)))), ?_⟩
    have lr := awLen hd
    have la := awLen hrs
    have hm1 := hp.row.m1
    have hm3 := hp.row.m3
    have many := hp.many
    obtain ⟨a0, as0, ha0⟩ : ∃ a0 as0, as = a0 :: as0 := by
      cases as with
      | nil => rw [List.length_nil] at la; omega
      | cons a l => exact ⟨a, l, rfl⟩
    obtain ⟨x0, hx0, hw0⟩ := awGet (i := 0) (x := a0) hrs (by rw [ha0]; rfl)
    obtain ⟨D0, rs0, eA0, _, _⟩ := id hw0
    have hxm := (hp.parts x0 (List.mem_of_getElem? hx0)).2
    rw [hxm] at eA0
    have SL : SqL K H L (as.map V.ref) := .inl (.inl eL)
    have elen : V.int (((as.map V.ref).length : Nat) : Int) = V.int r.m := by rw [List.length_map, la, many]
    refine ⟨.ref L, rfl, L, _, rfl, .inl SL, .ref R, rfl, R, _, 0, .int r.m, rfl, rfl, SqT.of eR, row0, ⟨rfl, _, rfl, iteNS elen ?_⟩⟩
    refine ⟨.ref L, rfl, L, rfl, ⟨_, SL⟩, for_list (K := K) (a := L) (xs := as.map V.ref) (fun i σ H3 => ∃ y, σ = [some (.ref R), some (.ref L), y, none] ∧ H3 = H) ⟨none, rfl, rfl⟩ (fun i σ H3 _ h3 => ?_) (fun i x σ H3 hx h3 => ?_) (fun σ H3 h3 => ?_)⟩
    · obtain ⟨_, _, rfl⟩ := h3
      exact SL
    · obtain ⟨y, rfl, rfl⟩ := h3
      rw [List.getElem?_map] at hx
      obtain ⟨a, ha, rfl⟩ := Option.map_eq_some_iff.mp hx
      obtain ⟨xr, hxr, hw⟩ := awGet hrs ha
      obtain ⟨D2, rs2, eA, _, _⟩ := id hw
      have hxm2 := (hp.parts xr (List.mem_of_getElem? hxr)).2
      rw [hxm2] at eA
      refine ⟨.ref a, rfl, a, _, 0, .int m, rfl, rfl, SqT.of eA, row0, .ref L, rfl, L, _, 0, .ref a0, rfl, rfl, SL, awAt0 ha0, a0, _, 0, .int m, rfl, rfl, SqT.of eA0, row0, ⟨rfl, _, rfl, iteNS rfl ?_⟩⟩
      exact ⟨_, rfl, rfl⟩
    · obtain ⟨y, rfl, rfl⟩ := h3
      refine ⟨.ref R, rfl, R, _, 1, .ref D, rfl, rfl, SqT.of eR, rfl, D, _, rfl, .inr (SqT.of eD), .ref L, rfl, L, rfl, ⟨_, SL⟩, fun C hC => ?_⟩
      have sC : ∀ o, Same H3 (upd H3 C o) := fun o => same_new hC
      refine lc_list (K := K) (a := L) (xs := as.map V.ref) (fun i H4 => H4 = upd H3 C (.lst (((rws.take i).map fun r => (r.ds.length : Int)).map V.int))) rfl (fun i H4 _ h4 => ?_) (fun i x H4 hx h4 => ?_) (fun H4 h4 => ?_)
      · subst h4
        exact (sC _).seq SL
      · subst h4
        have hi := (List.getElem?_eq_some_iff.mp hx).1
        rw [List.length_map] at hi
        rw [List.getElem?_map] at hx
        obtain ⟨a, ha, rfl⟩ := Option.map_eq_some_iff.mp hx
        obtain ⟨xr, hxr, hw⟩ := awGet hrs ha
        obtain ⟨D2, rs2, eA, eD2, hd2⟩ := id hw
        refine ⟨rfl, .ref a, rfl, a, _, 1, .ref D2, rfl, rfl, SqT.of (sC _ _ _ eA), rfl, D2, _, rfl, .inr (SqT.of (sC _ _ _ eD2)), _, upd_same, ?_, ?_⟩
        · rw [List.length_map, List.length_map, List.length_take]
          exact small1000 (by omega)
        · rw [upd_upd, List.take_add_one, hxr]
          simp [awLen hd2]
      · have eC : H4 C = some (.lst ((rws.map fun r => (r.ds.length : Int)).map V.int)) := by
          rw [h4, upd_same, List.length_map, la, List.take_length]
        have s4 : Same H3 H4 := by rw [h4]; exact sC _
        have esum : (((rs.map V.ref).length : Nat) : Int) + (rws.map fun r => (r.ds.length : Int)).sum = ((r.ds.length + dsSum rws : Nat) : Int) := by
          rw [List.length_map, lr]
          unfold dsSum
          have : ∀ l : List Rw, (l.map fun r => (r.ds.length : Int)).sum = (((l.map fun r => r.ds.length).sum : Nat) : Int) := by
            intro l
            induction l with
            | nil => rfl
            | cons x l ih => rw [List.map_cons, List.map_cons, List.sum_cons, List.sum_cons, ih]; omega
          rw [this]
          omega
        refine ⟨C, _, rfl, .inl (.inl eC), _, _, rfl, rfl, _, rfl, _, 8, rfl, rfl, _, rfl, ite2 (fun hgt => ?_) (fun _ => ?_)⟩
        · have hgt2 := of_decide_eq_true hgt
          have few := hp.few
          rw [esum] at hgt2
          exfalso
          omega
        · exact q H4 s4
/-! ### put_together -/
def spPt (K : PySem.W.Frag) : Sp := fun vs H Q _ => ∃ (R L : Addr) (m : Int) (as : List Addr) (rws : List Rw) (r : Rw), vs = [.ref R, .ref L] ∧ RwAt H R r ∧ H L = some (.lst (as.map V.ref)) ∧ RwsAt H as rws ∧ Parts m rws r ∧
  ∀ H' Z, Same H H' → RwAt H' Z (putF m rws r) → Q (.ref Z) H'
theorem ok_pt {f fC fB : Addr} {fd fdC fdB : FuncData} {k : Nat} (F : Fun K "put_together" "put_together" s_put_together f fd)
    (GC : FnOk P w K mg base CX0 (k + 2) fC fdC ["row", "rows"] (spCk K)) (kC : PySem.W.keepIn K (.ref fC) = true) (bC : Binds K fdC ["row", "rows"] []) (gC : mg "check_parts" = some (.ref fC))
    (GB : FnOk P w K mg base CX0 (k + 2) fB fdB ["many", "deeds", "row", "inputs"] (spPb K)) (kB : PySem.W.keepIn K (.ref fB) = true) (bB : Binds K fdB ["many", "deeds", "row", "inputs"] []) (gB : mg "put_behind" = some (.ref fB))
    (ml : mg "list" = none) (mr : mg "range" = none) : FnOk P w K mg base CX0 (k + 3) f fd ["row", "rows"] (spPt K) := by
  refine F.ok sc_put_together (fun vs H Q E h => ?_) (fun cdv A outer s H vs Q E hr h => ?_)
  · obtain ⟨R, L, m, as, rws, r, rfl, _⟩ := h
    rfl
  · obtain ⟨R, L, m, as, rws, r, rfl, hrow, eL, hrs, hp, q⟩ := h
    refine ⟨_, pss_cons (ps_expr (pe_call GC hr (by rfl) gC kC bC .nil pass0 (pa_cons (pv 0) (pa_cons (pv 1) pa_nil))))
      (pss_cons (ps_set (i := 2) sc_put_together.nd rfl (.inl rfl) (pe_ix ix_tup (pe_ix ix_list (pv 1) pe_int (fun _ _ => rfl)) pe_int (fun _ _ => rfl)))
      (pss_cons (ps_par (i := 3) (j := 4) rfl sc_put_together.nd rfl rfl (by decide) rfl rfl (pa_cons (pe_tup pa_nil) (pa_cons (pe_lst pa_nil) pa_nil)) (by rfl))
      (pss_cons (ps_for PassesOwn.never rfl (pi_list (pv 1)) (pg_name (i := 5) sc_put_together.nd rfl (.inl rfl))
        (pss_cons (ps_asg (pe_call GB hr (by rfl) gB kB bB .nil pass0 (pa_cons (pv 2) (pa_cons (pv 3) (pa_cons (pv 5) (pa_cons (pe_listRg rfl (by rfl) ml (prg_1 (by rfl) mr (pv 2))) pa_nil))))) (pg_tup rfl (pgs_cons (pg_name (i := 3) sc_put_together.nd rfl (.inl rfl)) (pgs_cons (pg_name (i := 6) sc_put_together.nd rfl (.inl rfl)) pgs_nil))))
        (pss_one (ps_expr (pe_bm PySem.F.plainAttrs_list PySem.F.slot_list_append PySem.F.type_list_append mt_append (pv 4) (pa_cons (pv 6) pa_nil))))))
      (pss_cons (ps_asg (pe_call GB hr (by rfl) gB kB bB .nil pass0 (pa_cons (pv 2) (pa_cons (pv 3) (pa_cons (pv 0) (pa_cons (pv 4) pa_nil))))) (pg_tup rfl (pgs_cons (pg_name (i := 3) sc_put_together.nd rfl (.inl rfl)) (pgs_cons (pg_name (i := 6) sc_put_together.nd rfl (.inl rfl)) pgs_nil))))
      (pss_one (ps_ret (pe_tup (pa_cons (pv 2) (pa_cons (pv 3) (pa_cons (pv 6) pa_nil)))))))))), ?_⟩
    have la := awLen hrs
    have hm1 := hp.row.m1
    have hm3 := hp.row.m3
    have many := hp.many
    have few := hp.few
    have pm1 := hp.m1
    have pm3 := hp.m3
    obtain ⟨a0, as0, ha0⟩ : ∃ a0 as0, as = a0 :: as0 := by
      cases as with
      | nil => rw [List.length_nil] at la; omega
      | cons a l => exact ⟨a, l, rfl⟩
    obtain ⟨x0, hx0, hw0⟩ := awGet (i := 0) (x := a0) hrs (by rw [ha0]; rfl)
    obtain ⟨D0, rs0, eA0, _, _⟩ := id hw0
    have hxm := (hp.parts x0 (List.mem_of_getElem? hx0)).2
    rw [hxm] at eA0
    refine ⟨.ref R, rfl, .ref L, rfl, R, L, m, as, rws, r, rfl, hrow, eL, hrs, hp, fun H1 s1 => ?_⟩
    refine ⟨.ref L, rfl, L, _, 0, .ref a0, rfl, rfl, .inl (.inl (s1 _ _ eL)), awAt0 ha0, a0, _, 0, .int m, rfl, rfl, SqT.of (s1 _ _ eA0), row0, ?_⟩
    refine ⟨Nat.zero_le _, fun D hD => ⟨Nat.zero_le _, fun O hO => ⟨_, _, rfl, ?_⟩⟩⟩
    have sD := same_new (o := .tup []) hD
    have sO := same_new (o := .lst []) hO
    have s2 : Same H (upd (upd H1 D (.tup [])) O (.lst [])) := s1.trans (sD.trans sO)
    refine ⟨.ref L, rfl, L, rfl, ⟨_, .inl (.inl (s2 _ _ eL))⟩, for_list (K := K) (a := L) (xs := as.map V.ref) (fun i σ H3 => ∃ D1 rs1 y5 y6, σ = [some (.ref R), some (.ref L), some (.int m), some (.ref D1), some (.ref O), y5, y6] ∧ H3 D1 = some (.tup (rs1.map V.ref)) ∧ DsAt H3 rs1 (putAll m (rws.take i)).1 ∧
        H3 O = some (.lst ((putAll m (rws.take i)).2.map V.int)) ∧ Same H H3) ⟨D, [], none, none, rfl, sO _ _ upd_same, .nil, upd_same, s2⟩ (fun i σ H3 _ h3 => ?_) (fun i x σ H3 hx h3 => ?_) (fun σ H3 h3 => ?_)⟩
    · obtain ⟨D1, rs1, y5, y6, _, _, _, _, s3⟩ := h3
      exact .inl (.inl (s3 _ _ eL))
    · obtain ⟨D1, rs1, y5, y6, rfl, eD1, hd1, eO, s3⟩ := h3
      rw [List.getElem?_map] at hx
      obtain ⟨a, ha, rfl⟩ := Option.map_eq_some_iff.mp hx
      obtain ⟨xr, hxr, hw⟩ := awGet hrs ha
      obtain ⟨xok, xm⟩ := hp.parts xr (List.mem_of_getElem? hxr)
      have hlx := xok.len
      have ho0 := xok.o0
      have ho1 := xok.o1
      obtain ⟨st, hst⟩ : ∃ st, st = putAll m (rws.take i) := ⟨_, rfl⟩
      rw [← hst] at hd1 eO
      have hl1 : st.1.length ≤ 8 := by
        rw [hst, (putAll_len m _).1]
        have := dsSum_take rws i
        omega
      have hl2 : st.2.length ≤ 3 := by
        rw [hst, (putAll_len m _).2, List.length_take]
        omega
      refine ⟨.int m, rfl, .ref D1, rfl, .ref a, rfl, .int m, rfl, m, rfl, RgOk.of_le (by omega) (by omega) (by omega) (by omega), fun G hG => ?_⟩
      rw [upI_rg]
      have sG := same_new (o := .lst ((upI m).map V.int)) hG
      have hu := upI_len (m := m) (by omega)
      refine ⟨D1, a, G, m, m, xr.o, rs1, st.1, xr.ds, upI m, rfl, sG _ _ eD1, (Same.tups sG).ds hd1, ?_, upd_same, hu, ?_, ho0, by rw [← xm]; exact ho1, by omega, by omega, by omega, by omega, by omega, fun H5 T D2 rs2 s5 eT eD2 hd2 => ?_⟩
      · have := (Same.tups (s3.trans sG)).row hw
        rw [xm] at this
        exact this
      · rw [← xm]
        exact xok.deeds
      refine ⟨T, _, rfl, SqT.of eT, rfl, _, _, rfl, _, _, rfl, rfl, ?_⟩
      have eO5 := s5 _ _ (sG _ _ eO)
      refine ⟨.ref O, rfl, .inl ⟨rfl, _, .inl (.inl eO5)⟩, .int _, rfl, O, _, _, rfl, rfl, eO5, ?_, D2, rs2, _, _, rfl, ?_, ?_, ?_, ?_⟩
      · rw [List.length_map]
        exact small1000 (by omega)
      · rw [upd_ne (ne_of eD2 eO5 (fun z => nomatch z))]
        exact eD2
      · rw [putAll_next hxr, ← hst]
        exact (tups_put eO5).ds hd2
      · rw [upd_same, putAll_next hxr, ← hst]
        show _ = some (HO.lst ((st.2 ++ [_]).map V.int))
        rw [List.map_append]
        rfl
      · intro b u e
        have nb : b ≠ O := by
          intro z
          have z1 := sD _ _ (s1 _ _ e)
          rw [z, hO] at z1
          cases z1
        rw [upd_ne nb]
        exact s5 _ _ (sG _ _ (s3 _ _ e))
    · obtain ⟨D1, rs1, y5, y6, rfl, eD1, hd1, eO, s3⟩ := h3
      rw [List.length_map, la, List.take_length] at hd1 eO
      obtain ⟨l1, l2⟩ := putAll_len m rws
      have ho0 := hp.row.o0
      have ho1 := hp.row.o1
      refine ⟨.int m, rfl, .ref D1, rfl, .ref R, rfl, .ref O, rfl, D1, R, O, m, r.m, r.o, rs1, (putAll m rws).1, r.ds, (putAll m rws).2, rfl, eD1, hd1, (Same.tups s3).row hrow, eO, by rw [l2]; exact many, hp.row.deeds, ho0, ho1, by omega, by omega, by omega, by omega, by omega, fun H5 T D2 rs2 s5 eT eD2 hd2 => ?_⟩
      refine ⟨T, _, rfl, SqT.of eT, rfl, _, _, rfl, _, _, rfl, rfl, ?_⟩
      refine ⟨.int m, rfl, .ref D2, rfl, .int _, rfl, (by show 3 ≤ sizeLine; decide), fun Z hZ => ?_⟩
      have sZ := same_new (o := .tup [.int m, .ref D2, .int ((nuL (putAll m rws).2 (m + (putAll m rws).1.length) r.ds.length).getD r.o.toNat 0)]) hZ
      exact q _ Z (s3.trans (s5.trans sZ)) ⟨D2, rs2, upd_same, sZ _ _ eD2, (Same.tups sZ).ds hd2⟩
/-! ### what rows put together are worth -/
def wortR (size : Int) (r : Rw) (xs : List Int) : Int := (vals size r.ds xs).getD r.o.toNat 0
theorem gd_left {l k : List Int} {j : Nat} (h : j < l.length) : (l ++ k).getD j 0 = l.getD j 0 := by
  rw [List.getD_eq_getElem?_getD, List.getD_eq_getElem?_getD, List.getElem?_append_left h]
theorem gd_right {l k : List Int} {j : Nat} (h : l.length ≤ j) : (l ++ k).getD j 0 = k.getD (j - l.length) 0 := by
  rw [List.getD_eq_getElem?_getD, List.getD_eq_getElem?_getD, List.getElem?_append_right h]
theorem vals_old {size : Int} : ∀ (ds : List Deed) (t : List Int) {j : Nat}, j < t.length → (vals size ds t).getD j 0 = t.getD j 0
  | [], _, _, _ => rfl
  | d :: ds, t, j, h => by
    show (vals size ds (t ++ [dval size d t])).getD j 0 = _
    rw [vals_old ds _ (by rw [List.length_append]; omega), gd_left h]
theorem dvalue_args {x : Str} {A B A' B' s : Int} (hA : ¬ x = "none" → ¬ x = "one" → ¬ x = "all" → A = A') (hB : ¬ x = "none" → ¬ x = "one" → ¬ x = "all" → ¬ x = "not" → ¬ x = "neg" → ¬ x = "twice" → B = B') : dvalue x A B s = dvalue x A' B' s := by
  unfold dvalue
  by_cases h1 : x = "none"
  · rw [if_pos h1, if_pos h1]
  rw [if_neg h1, if_neg h1]
  by_cases h2 : x = "one"
  · rw [if_pos h2, if_pos h2]
  rw [if_neg h2, if_neg h2]
  by_cases h3 : x = "all"
  · rw [if_pos h3, if_pos h3]
  rw [if_neg h3, if_neg h3]
  rw [hA h1 h2 h3]
  by_cases h4 : x = "not"
  · rw [if_pos h4, if_pos h4]
  rw [if_neg h4, if_neg h4]
  by_cases h5 : x = "neg"
  · rw [if_pos h5, if_pos h5]
  rw [if_neg h5, if_neg h5]
  by_cases h6 : x = "twice"
  · rw [if_pos h6, if_pos h6]
  rw [if_neg h6, if_neg h6]
  rw [hB h1 h2 h3 h4 h5 h6]
theorem dval_ren {size m : Int} {nu told xs : List Int} {d : Deed} (hd : DeedOk m d) (h : ∀ i ∈ d.2, told.getD (nu.getD i.toNat 0).toNat 0 = xs.getD i.toNat 0) : dval size (renD nu d) told = dval size d xs := by
  have arg : ∀ k, k < d.2.length → argAt (renD nu d) told k = argAt d xs k := by
    intro k hk
    unfold argAt
    have e1 : (renD nu d).2.getD k 0 = nu.getD (d.2[k]).toNat 0 := by
      show (d.2.map _).getD k 0 = _
      rw [List.getD_eq_getElem?_getD, List.getElem?_map, List.getElem?_eq_getElem hk]
      rfl
    have e2 : d.2.getD k 0 = d.2[k] := by
      rw [List.getD_eq_getElem?_getD, List.getElem?_eq_getElem hk]
      rfl
    rw [e1, e2]
    exact h _ (List.getElem_mem hk)
  unfold dval
  have e : dvalue (renD nu d).1 (argAt (renD nu d) told 0) (argAt (renD nu d) told 1) size = dvalue d.1 (argAt d xs 0) (argAt d xs 1) size := by
    refine dvalue_args (x := d.1) (fun n1 n2 n3 => arg 0 ?_) (fun n1 n2 n3 n4 n5 n6 => arg 1 ?_)
    · have := fw_one _ hd.word n1 n2 n3
      have e : (1 : Int) ≤ (d.2.length : Int) := this
      omega
    · have := fw_two _ hd.word n1 n2 n3 n4 n5 n6
      have e : (2 : Int) ≤ (d.2.length : Int) := this
      omega
  rw [e]
theorem nuL_getD {inp : List Int} {st : Int} {n j : Nat} (h : j < inp.length + n) : (nuL inp st n).getD j 0 = if j < inp.length then inp.getD j 0 else st + ((j - inp.length : Nat) : Int) := by
  unfold nuL
  by_cases hj : j < inp.length
  · rw [if_pos hj, gd_left hj]
  · rw [if_neg hj, gd_right (by omega), List.getD_eq_getElem?_getD, List.getElem?_map, List.getElem?_range (by omega)]
    rfl
theorem vals_sub {size mi : Int} {told xs inp : List Int} {ds : List Deed} (hl : (inp.length : Int) = mi) (hx : xs.length = inp.length)
    (hin : ∀ j, j < inp.length → (inp.getD j 0).toNat < told.length ∧ told.getD (inp.getD j 0).toNat 0 = xs.getD j 0) (hok : DsOk mi ds) :
    ∀ i, i ≤ ds.length → ∀ j, j < xs.length + i → (vals size ((ds.take i).map (renD (nuL inp told.length ds.length))) told).getD ((nuL inp told.length ds.length).getD j 0).toNat 0 = (vals size (ds.take i) xs).getD j 0
  | 0, _, j, hj => by
    rw [List.take_zero, List.map_nil]
    show told.getD _ 0 = xs.getD j 0
    rw [nuL_getD (by omega), if_pos (by omega)]
    exact (hin j (by omega)).2
  | i + 1, hi, j, hj => by
    have ih := vals_sub (size := size) hl hx hin hok i (by omega)
    obtain ⟨nu, hnu⟩ : ∃ nu, nu = nuL inp told.length ds.length := ⟨_, rfl⟩
    have hd : ds[i]? = some ds[i] := List.getElem?_eq_getElem (by omega)
    have hdm : (ds.map (renD nu))[i]? = some (renD nu ds[i]) := by rw [List.getElem?_map, hd]; rfl
    rw [← hnu] at ih ⊢
    have okd := hok.each i _ hd
    have e1 : vals size ((ds.take (i + 1)).map (renD nu)) told = vals size ((ds.take i).map (renD nu)) told ++ [dval size (renD nu ds[i]) (vals size ((ds.take i).map (renD nu)) told)] := by
      rw [List.map_take, List.map_take]
      exact vals_next hdm
    have e2 : vals size (ds.take (i + 1)) xs = vals size (ds.take i) xs ++ [dval size ds[i] (vals size (ds.take i) xs)] := vals_next hd
    have l1 : (vals size ((ds.take i).map (renD nu)) told).length = told.length + i := by
      rw [vals_len, List.length_map, List.length_take]
      omega
    have l2 : (vals size (ds.take i) xs).length = xs.length + i := by
      rw [vals_len, List.length_take]
      omega
    have e3 : dval size (renD nu ds[i]) (vals size ((ds.take i).map (renD nu)) told) = dval size ds[i] (vals size (ds.take i) xs) := by
      refine dval_ren okd fun z hz => ?_
      obtain ⟨z0, z1⟩ := okd.ahead z hz
      exact ih z.toNat (by omega)
    rw [e1, e2, e3]
    have hn : nu.getD j 0 = if j < inp.length then inp.getD j 0 else (told.length : Int) + ((j - inp.length : Nat) : Int) := by
      rw [hnu]
      exact nuL_getD (by omega)
    by_cases hji : j < xs.length + i
    · have hb : (nu.getD j 0).toNat < told.length + i := by
        rw [hn]
        split
        · rename_i h
          have := (hin j h).1
          omega
        · omega
      rw [gd_left (by omega), gd_left (by omega)]
      exact ih j hji
    · have ej : (nu.getD j 0).toNat = told.length + i := by
        rw [hn, if_neg (by omega)]
        omega
      rw [ej, gd_right (by omega), gd_right (by omega), l1, l2]
      have a1 : told.length + i - (told.length + i) = 0 := by omega
      have a2 : j - (xs.length + i) = 0 := by omega
      rw [a1, a2]
theorem upI_getD {m : Int} {j : Nat} (h : j < (upI m).length) : (upI m).getD j 0 = (j : Int) := by
  unfold upI at h ⊢
  rw [List.length_map, List.length_range] at h
  rw [List.getD_eq_getElem?_getD, List.getElem?_map, List.getElem?_range h]
  rfl
theorem upI_nat {m : Int} (h : 0 ≤ m) : (upI m).length = m.toNat := by
  have := upI_len h
  omega
theorem put_inv {size m : Int} {rws : List Rw} {words : List Int} (h0 : 0 ≤ m) (hw : (words.length : Int) = m) (hp : ∀ x ∈ rws, RwOk x ∧ x.m = m) :
    ∀ i, i ≤ rws.length → ∀ j, j < i → ((putAll m (rws.take i)).2.getD j 0).toNat < (vals size (putAll m (rws.take i)).1 words).length ∧ (vals size (putAll m (rws.take i)).1 words).getD ((putAll m (rws.take i)).2.getD j 0).toNat 0 = (rws.map fun x => wortR size x words).getD j 0
  | 0, _, j, hj => by omega
  | i + 1, hi, j, hj => by
    have ih := put_inv (size := size) h0 hw hp i (by omega)
    have hx : rws[i]? = some rws[i] := List.getElem?_eq_getElem (by omega)
    obtain ⟨x, ex⟩ : ∃ x, x = rws[i] := ⟨_, rfl⟩
    rw [← ex] at hx
    obtain ⟨xok, xm⟩ := hp x (List.mem_of_getElem? hx)
    rw [putAll_next hx]
    obtain ⟨st, hst⟩ : ∃ st, st = putAll m (rws.take i) := ⟨_, rfl⟩
    rw [← hst] at ih ⊢
    have l2 : st.2.length = i := by
      rw [hst, (putAll_len m _).2, List.length_take]
      omega
    obtain ⟨T, hT⟩ : ∃ T, T = vals size st.1 words := ⟨_, rfl⟩
    have lT : (T.length : Int) = m + st.1.length := by
      rw [hT, vals_len]
      omega
    have eT : vals size (putS m st x).1 words = vals size (x.ds.map (renD (putNu m (upI m) st.1 x))) T := by
      show vals size (st.1 ++ _) words = _
      rw [vals_append, ← hT]
    have e2 : (putS m st x).2 = st.2 ++ [(putNu m (upI m) st.1 x).getD x.o.toNat 0] := rfl
    have eN : putNu m (upI m) st.1 x = nuL (upI m) T.length x.ds.length := by
      unfold putNu
      rw [lT]
    rw [eT, e2, eN]
    rw [← hT] at ih
    have lE : (vals size (x.ds.map (renD (nuL (upI m) T.length x.ds.length))) T).length = T.length + x.ds.length := by rw [vals_len, List.length_map]
    by_cases hji : j < i
    · rw [gd_left (by omega)]
      obtain ⟨a1, a2⟩ := ih j hji
      refine ⟨by omega, ?_⟩
      rw [vals_old _ _ a1]
      exact a2
    · have ej : j = i := by omega
      subst ej
      have hu := upI_nat h0
      have o0 := xok.o0
      have o1 := xok.o1
      have ho : x.o.toNat < (upI m).length + x.ds.length := by omega
      rw [gd_right (by omega)]
      have a0 : j - st.2.length = 0 := by omega
      rw [a0]
      show ((nuL (upI m) T.length x.ds.length).getD x.o.toNat 0).toNat < _ ∧ (vals size _ T).getD ((nuL (upI m) T.length x.ds.length).getD x.o.toNat 0).toNat 0 = _
      refine ⟨?_, ?_⟩
      · rw [nuL_getD ho, lE]
        split
        · rename_i h
          rw [upI_getD h]
          omega
        · omega
      · have := vals_sub (size := size) (told := T) (xs := words) (inp := upI m) (mi := m) (ds := x.ds) (upI_len h0) (by omega) (fun j' hj' => by
          rw [upI_getD hj']
          refine ⟨by omega, ?_⟩
          rw [hT, Int.toNat_natCast, vals_old _ _ (by omega)]) (by rw [← xm]; exact xok.deeds) x.ds.length (Nat.le_refl _) x.o.toNat (by omega)
        rw [List.take_length] at this
        rw [this, List.getD_eq_getElem?_getD (l := rws.map _), List.getElem?_map, hx]
        rfl
theorem put_worth {size m : Int} {rws : List Rw} {r : Rw} {words : List Int} (hp : Parts m rws r) (hw : (words.length : Int) = m) : wortR size (putF m rws r) words = wortR size r (rws.map fun x => wortR size x words) := by
  have hm := hp.m1
  have inv := put_inv (size := size) (by omega) hw hp.parts rws.length (Nat.le_refl _)
  rw [List.take_length] at inv
  obtain ⟨l1, l2⟩ := putAll_len m rws
  obtain ⟨T, hT⟩ : ∃ T, T = vals size (putAll m rws).1 words := ⟨_, rfl⟩
  have lT : (T.length : Int) = m + (putAll m rws).1.length := by
    rw [hT, vals_len]
    omega
  have eN : putNu m (putAll m rws).2 (putAll m rws).1 r = nuL (putAll m rws).2 T.length r.ds.length := by
    unfold putNu
    rw [lT]
  have many := hp.many
  have o0 := hp.row.o0
  have o1 := hp.row.o1
  unfold wortR
  show (vals size ((putAll m rws).1 ++ r.ds.map (renD (putNu m (putAll m rws).2 (putAll m rws).1 r))) words).getD ((putNu m (putAll m rws).2 (putAll m rws).1 r).getD r.o.toNat 0).toNat 0 = _
  rw [vals_append, ← hT, eN]
  rw [← hT] at inv
  have := vals_sub (size := size) (told := T) (xs := rws.map fun x => wortR size x words) (inp := (putAll m rws).2) (mi := r.m) (ds := r.ds) (by rw [l2]; exact many) (by rw [List.length_map, l2]) (fun j hj => inv j (by omega)) hp.row.deeds r.ds.length (Nat.le_refl _) r.o.toNat (by rw [List.length_map]; omega)
  rw [List.take_length] at this
  exact this
/-! ### rows put together stay, and go one behind the other -/
def renF (f : Int → Int) (d : Deed) : Deed := (d.1, d.2.map f)
theorem ren_congr {nu : List Int} {f : Int → Int} {d : Deed} (h : ∀ z ∈ d.2, nu.getD z.toNat 0 = f z) : renD nu d = renF f d := by
  unfold renD renF
  congr 1
  exact List.map_congr_left h
theorem ren_id {f : Int → Int} {d : Deed} (h : ∀ z ∈ d.2, f z = z) : renF f d = d := by
  unfold renF
  have : d.2.map f = d.2 := by
    conv => rhs; rw [← List.map_id d.2]
    exact List.map_congr_left h
  rw [this]
theorem ds_congr {m : Int} {ds : List Deed} {g h : Deed → Deed} (ok : DsOk m ds) (e : ∀ d, DeedOk (m + ds.length) d → g d = h d) : ds.map g = ds.map h := by
  refine List.map_congr_left fun d hd => ?_
  obtain ⟨k, hk⟩ := List.mem_iff_getElem?.mp hd
  have hk1 := (List.getElem?_eq_some_iff.mp hk).1
  have okd := ok.each k d hk
  exact e d ⟨okd.word, fun i hi => by have := okd.ahead i hi; omega⟩
def bareR (m : Int) (b : Int) : Rw := ⟨m, [], b⟩
theorem putAll_bare {m : Int} (h0 : 0 ≤ m) {bs : List Int} (hb : ∀ b ∈ bs, 0 ≤ b ∧ b < m) : putAll m (bs.map (bareR m)) = ([], bs) := by
  have key : ∀ (bs acc : List Int), (∀ b ∈ bs, 0 ≤ b ∧ b < m) → (bs.map (bareR m)).foldl (putS m) ([], acc) = ([], acc ++ bs) := by
    intro bs
    induction bs with
    | nil => intro acc _; simp
    | cons b bs ih =>
      intro acc hb
      obtain ⟨b0, b1⟩ := hb b List.mem_cons_self
      rw [List.map_cons, List.foldl_cons]
      have e : putS m ([], acc) (bareR m b) = ([], acc ++ [b]) := by
        unfold putS bareR putNu
        simp only [List.map_nil, List.append_nil, List.length_nil, Prod.mk.injEq, true_and]
        have hu := upI_nat h0
        rw [nuL_getD (by omega), if_pos (by omega), upI_getD (by omega)]
        congr 2
        omega
      rw [e, ih (acc ++ [b]) fun x hx => hb x (List.mem_cons_of_mem _ hx), List.append_assoc]
      rfl
  have := key bs [] hb
  rw [List.nil_append] at this
  exact this
theorem rw_ext {a b : Rw} (h1 : a.m = b.m) (h2 : a.ds = b.ds) (h3 : a.o = b.o) : a = b := by
  cases a
  cases b
  simp only at h1 h2 h3
  subst h1 h2 h3
  rfl
/-- with its own inputs put in a row stays -/
theorem put_id {r : Rw} (h : RwOk r) : putF r.m ((upI r.m).map (bareR r.m)) r = r := by
  have m1 := h.m1
  have hu := upI_nat (m := r.m) (by omega)
  have e := putAll_bare (m := r.m) (by omega) (bs := upI r.m) (upI_in (Int.le_refl _))
  have idn : ∀ z : Int, 0 ≤ z → z < r.m + r.ds.length → (putNu r.m (upI r.m) [] r).getD z.toNat 0 = z := by
    intro z z0 z1
    unfold putNu
    rw [nuL_getD (by omega)]
    split
    · rename_i hz
      rw [upI_getD hz]
      omega
    · simp only [List.length_nil]
      omega
  unfold putF
  rw [e]
  refine rw_ext rfl ?_ (idn _ h.o0 h.o1)
  show [] ++ r.ds.map (renD (putNu r.m (upI r.m) [] r)) = r.ds
  rw [List.nil_append]
  conv => rhs; rw [← List.map_id r.ds]
  exact ds_congr h.deeds fun d okd => (ren_congr fun z hz => idn z (okd.ahead z hz).1 (okd.ahead z hz).2).trans (ren_id (f := id) fun _ _ => rfl)
/-- put itself for one input a row stays -/
theorem put_self {r : Rw} (h : RwOk r) : putF r.m [r] ⟨1, [], 0⟩ = r := by
  have m1 := h.m1
  have hu := upI_nat (m := r.m) (by omega)
  have idn : ∀ z : Int, 0 ≤ z → z < r.m + r.ds.length → (putNu r.m (upI r.m) [] r).getD z.toNat 0 = z := by
    intro z z0 z1
    unfold putNu
    rw [nuL_getD (by omega)]
    split
    · rename_i hz
      rw [upI_getD hz]
      omega
    · simp only [List.length_nil]
      omega
  have e : putAll r.m [r] = (r.ds, [r.o]) := by
    show putS r.m ([], []) r = _
    unfold putS
    simp only [List.nil_append]
    rw [idn _ h.o0 h.o1]
    congr 1
    conv => rhs; rw [← List.map_id r.ds]
    exact ds_congr h.deeds fun d okd => (ren_congr fun z hz => idn z (okd.ahead z hz).1 (okd.ahead z hz).2).trans (ren_id (f := id) fun _ _ => rfl)
  unfold putF
  rw [e]
  refine rw_ext rfl ?_ rfl
  show r.ds ++ [] = r.ds
  rw [List.append_nil]
def shF (bs : List Int) (l : Int) (z : Int) : Int := if z.toNat < bs.length then bs.getD z.toNat 0 else l + ((z.toNat - bs.length : Nat) : Int)
def subR (bs : List Int) (l : Int) (r : Rw) : Rw := ⟨l, r.ds.map (renF (shF bs l)), shF bs l r.o⟩
theorem put_bare {bs : List Int} {l : Int} {r : Rw} (h : RwOk r) (h0 : 0 ≤ l) (hl : (bs.length : Int) = r.m) (hb : ∀ b ∈ bs, 0 ≤ b ∧ b < l) : putF l (bs.map (bareR l)) r = subR bs l r := by
  have key : ∀ z : Int, 0 ≤ z → z < r.m + r.ds.length → (putNu l bs [] r).getD z.toNat 0 = shF bs l z := by
    intro z z0 z1
    unfold putNu shF
    rw [nuL_getD (by omega)]
    simp
  unfold putF subR
  rw [putAll_bare h0 hb]
  refine rw_ext rfl ?_ (key _ h.o0 h.o1)
  show [] ++ r.ds.map _ = _
  rw [List.nil_append]
  exact ds_congr h.deeds fun d okd => ren_congr fun z hz => key z (okd.ahead z hz).1 (okd.ahead z hz).2
theorem sub_in {bs : List Int} {l : Int} (hb : ∀ b ∈ bs, 0 ≤ b ∧ b < l) {j : Nat} (h : j < bs.length) : 0 ≤ bs.getD j 0 ∧ bs.getD j 0 < l := by
  rw [List.getD_eq_getElem?_getD, List.getElem?_eq_getElem h]
  exact hb _ (List.getElem_mem h)
theorem put_twice {bs : List Int} {l m : Int} {rws : List Rw} {r : Rw} (hp : Parts m rws r) (h0 : 0 ≤ l) (hl : (bs.length : Int) = m) (hb : ∀ b ∈ bs, 0 ≤ b ∧ b < l) : putF l (rws.map (subR bs l)) r = subR bs l (putF m rws r) := by
  have hm := hp.m1
  have stepN : ∀ (acc n : Nat) (z : Int), 0 ≤ z → z < m + n → (nuL (upI l) (l + acc) n).getD (shF bs l z).toNat 0 = shF bs l ((nuL (upI m) (m + acc) n).getD z.toNat 0) := by
    intro acc n z z0 z1
    have hu := upI_nat (m := m) (by omega)
    have hul := upI_nat (m := l) h0
    have e1 : (nuL (upI m) (m + acc) n).getD z.toNat 0 = if z.toNat < bs.length then z else z + acc := by
      rw [nuL_getD (by omega)]
      by_cases hz : z.toNat < bs.length
      · rw [if_pos (by omega), if_pos hz, upI_getD (by omega)]
        omega
      · rw [if_neg (by omega), if_neg hz]
        omega
    rw [e1]
    by_cases hz : z.toNat < bs.length
    · rw [if_pos hz]
      unfold shF
      rw [if_pos hz]
      obtain ⟨b0, b1⟩ := sub_in hb hz
      rw [nuL_getD (by omega), if_pos (by omega), upI_getD (by omega)]
      omega
    · rw [if_neg hz]
      unfold shF
      rw [if_neg hz, if_neg (by omega), nuL_getD (by omega), if_neg (by omega)]
      omega
  have fold : ∀ (rws : List Rw) (st : List Deed × List Int), (∀ x ∈ rws, RwOk x ∧ x.m = m) → (rws.map (subR bs l)).foldl (putS l) (st.1.map (renF (shF bs l)), st.2.map (shF bs l)) = ((rws.foldl (putS m) st).1.map (renF (shF bs l)), (rws.foldl (putS m) st).2.map (shF bs l)) := by
    intro rws
    induction rws with
    | nil => intro st _; rfl
    | cons x rws ih =>
      intro st hx
      obtain ⟨xok, xm⟩ := hx x List.mem_cons_self
      rw [List.map_cons, List.foldl_cons, List.foldl_cons, ← ih (putS m st x) fun y hy => hx y (List.mem_cons_of_mem _ hy)]
      congr 1
      unfold putS
      simp only [Prod.mk.injEq]
      have eN1 : putNu l (upI l) (st.1.map (renF (shF bs l))) (subR bs l x) = nuL (upI l) (l + st.1.length) x.ds.length := by
        unfold putNu subR
        simp only [List.length_map]
      have eN2 : putNu m (upI m) st.1 x = nuL (upI m) (m + st.1.length) x.ds.length := rfl
      rw [eN1, eN2]
      refine ⟨?_, ?_⟩
      · rw [List.map_append]
        congr 1
        show (x.ds.map (renF (shF bs l))).map _ = (x.ds.map _).map _
        rw [List.map_map, List.map_map]
        refine ds_congr (m := m) (by rw [← xm]; exact xok.deeds) fun d okd => ?_
        show renD _ (renF (shF bs l) d) = renF (shF bs l) (renD _ d)
        unfold renD renF
        simp only [List.map_map, Prod.mk.injEq, true_and]
        exact List.map_congr_left fun z hz => stepN _ _ z (okd.ahead z hz).1 (okd.ahead z hz).2
      · rw [List.map_append]
        congr 1
        show [(nuL _ _ _).getD (shF bs l x.o).toNat 0] = [shF bs l _]
        rw [stepN _ _ x.o xok.o0 (by rw [← xm]; exact xok.o1)]
  have eA : putAll l (rws.map (subR bs l)) = ((putAll m rws).1.map (renF (shF bs l)), (putAll m rws).2.map (shF bs l)) := fold rws ([], []) hp.parts
  obtain ⟨l1, l2⟩ := putAll_len m rws
  have many := hp.many
  have last : ∀ z : Int, 0 ≤ z → z < r.m + r.ds.length → (nuL ((putAll m rws).2.map (shF bs l)) (l + (putAll m rws).1.length) r.ds.length).getD z.toNat 0 = shF bs l ((nuL (putAll m rws).2 (m + (putAll m rws).1.length) r.ds.length).getD z.toNat 0) := by
    intro z z0 z1
    rw [nuL_getD (by rw [List.length_map]; omega), nuL_getD (by omega), List.length_map]
    by_cases hz : z.toNat < (putAll m rws).2.length
    · rw [if_pos hz, if_pos hz, List.getD_eq_getElem?_getD, List.getD_eq_getElem?_getD, List.getElem?_map, List.getElem?_eq_getElem hz]
      rfl
    · rw [if_neg hz, if_neg hz]
      unfold shF
      rw [if_neg (by omega)]
      omega
  unfold putF
  rw [eA]
  refine rw_ext rfl ?_ ?_
  · show (putAll m rws).1.map (renF (shF bs l)) ++ r.ds.map (renD (nuL ((putAll m rws).2.map (shF bs l)) (l + (((putAll m rws).1.map (renF (shF bs l))).length : Nat)) r.ds.length)) = ((putAll m rws).1 ++ r.ds.map (renD (nuL (putAll m rws).2 (m + (putAll m rws).1.length) r.ds.length))).map (renF (shF bs l))
    rw [List.map_append, List.length_map]
    congr 1
    rw [List.map_map]
    refine ds_congr hp.row.deeds fun d okd => ?_
    show renD _ d = renF (shF bs l) (renD _ d)
    unfold renD renF
    simp only [List.map_map, Prod.mk.injEq, true_and]
    exact List.map_congr_left fun z hz => last z (okd.ahead z hz).1 (okd.ahead z hz).2
  · show (nuL ((putAll m rws).2.map (shF bs l)) (l + (((putAll m rws).1.map (renF (shF bs l))).length : Nat)) r.ds.length).getD r.o.toNat 0 = shF bs l ((nuL (putAll m rws).2 (m + (putAll m rws).1.length) r.ds.length).getD r.o.toNat 0)
    rw [List.length_map]
    exact last r.o hp.row.o0 hp.row.o1
/-! ### rows that are alike, and looks -/
def AlkB (r s : Rw) : Prop := r.m = s.m ∧ ∀ t, ¬ PrtS r.m.toNat r.ds r.o s.ds s.o t
theorem look_alk {r s : Rw} {a b : List MRow} (hr : RwOk r) (hs : RwOk s) (h1 : LmOk r.m.toNat r.ds r.o a) (h2 : LmOk s.m.toNat s.ds s.o b) : lookK r.m.toNat a = lookK s.m.toNat b ↔ AlkB r s := by
  have m1 : (1 : Int) ≤ r.m := hr.m1
  have m2 : (1 : Int) ≤ s.m := hs.m1
  constructor
  · intro e
    obtain ⟨e1, e2⟩ := lookK_inj e
    have em : r.m = s.m := by omega
    rw [← em] at h2
    exact ⟨em, (lm_eq h1 h2).mp e2⟩
  · rintro ⟨em, h⟩
    rw [← em] at h2
    rw [← em, (lm_eq h1 h2).mpr h]
/-! ### rows of one worth are alike; what is made of a row -/
theorem alk_of {r s : Rw} (hr : RwOk r) (hs : RwOk s) (em : r.m = s.m) (h : ∀ (n : Nat) (xs : List Int), xs.length = r.m.toNat → (∀ x ∈ xs, 0 ≤ x ∧ x < 2 ^ n) → wortR (2 ^ n) r xs = wortR (2 ^ n) s xs) : AlkB r s := by
  refine ⟨em, fun t => ?_⟩
  rintro ⟨q, bs, hq, hb, hne⟩
  have m1 : (1 : Int) ≤ r.m := hr.m1
  have hr' : RowOk (r.m.toNat : Int) r.ds r.o := by
    rw [show ((r.m.toNat : Nat) : Int) = r.m by omega]
    exact hr
  have hs' : RowOk (r.m.toNat : Int) s.ds s.o := by
    rw [show ((r.m.toNat : Nat) : Int) = s.m by omega]
    exact hs
  obtain ⟨ws, wl, wr, e1, e2⟩ := rt_words (o1 := r.o) (o2 := s.o) hr' hs' hq hb
  have := h (t + 1) ws wl wr
  unfold wortR at this
  rw [e1, e2, this] at hne
  exact hne rfl
theorem AlkB.symm {r s : Rw} (h : AlkB r s) : AlkB s r := ⟨h.1.symm, fun t p => h.2 t (by
  have e := prtS_swap p
  rw [← h.1] at e
  exact e)⟩
abbrev noneR : Rw := ⟨1, [("none", [])], 0⟩
abbrev nnR : Rw := ⟨1, [("not", [0]), ("not", [1])], 2⟩
theorem noneR_ok : RwOk noneR := ⟨by decide, by decide, by decide, dsOk_snoc (dsOk_nil 1) ⟨by decide +kernel, (fun i z => nomatch z)⟩, by decide, by decide⟩
theorem nnR_ok : RwOk nnR := by
  refine ⟨by decide, by decide, by decide, ?_, by decide, by decide⟩
  have h1 : DsOk 1 [("not", [0])] := dsOk_snoc (ds := []) (dsOk_nil 1) ⟨by decide +kernel, fun i hi => by
    rw [List.mem_singleton.mp hi]
    decide⟩
  exact dsOk_snoc h1 ⟨by decide +kernel, fun i hi => by
    rw [List.mem_singleton.mp hi]
    decide⟩
theorem noneR_worth (size y : Int) (_ : 0 ≤ y) (_ : y < size) : wortR size noneR [y] = y := rfl
theorem nnR_worth (size y : Int) (h0 : 0 ≤ y) (h1 : y < size) : wortR size nnR [y] = y := by
  have e : wortR size nnR [y] = dvalue "not" (dvalue "not" y 0 size % size) 0 size % size := rfl
  have d : ∀ A : Int, dvalue "not" A 0 size = size - 1 - A := fun A => by
    unfold dvalue
    rw [if_neg (by decide +kernel), if_neg (by decide +kernel), if_neg (by decide +kernel), if_pos rfl]
  rw [e, d, d, Int.emod_eq_of_lt (show 0 ≤ size - 1 - y by omega) (by omega), Int.emod_eq_of_lt (by omega) (by omega)]
  omega
theorem parts_one {r w1 : Rw} (hr : RwOk r) (hw : RwOk w1) (h1 : w1.m = 1) (few : w1.ds.length + r.ds.length ≤ 8) : Parts r.m [r] w1 := ⟨hw, by rw [h1]; rfl, fun x hx => by rw [List.mem_singleton.mp hx]; exact ⟨hr, rfl⟩, hr.m1, hr.m3, by
  show w1.ds.length + ([r].map fun r => r.ds.length).sum ≤ 8
  simpa using few⟩
theorem putF_m (m : Int) (rws : List Rw) (r : Rw) : (putF m rws r).m = m := rfl
theorem made_alk {r w1 : Rw} (hr : RwOk r) (hw : RwOk w1) (h1 : w1.m = 1) (few : w1.ds.length + r.ds.length ≤ 8) (id1 : ∀ size y, 0 ≤ y → y < size → wortR size w1 [y] = y) : AlkB r (putF r.m [r] w1) := by
  have m1 : (1 : Int) ≤ r.m := hr.m1
  refine alk_of hr (putF_ok (parts_one hr hw h1 few)) rfl fun n xs hm hx => ?_
  rw [put_worth (parts_one hr hw h1 few) (by omega)]
  have hr' : RowOk (r.m.toNat : Int) r.ds r.o := by
    rw [show ((r.m.toNat : Nat) : Int) = r.m by omega]
    exact hr
  have e := wr_range hr' hm hx
  have p := pw_pos n
  refine (id1 _ _ ?_ ?_).symm
  · show 0 ≤ (vals (2 ^ n) r.ds xs).getD r.o.toNat 0
    rw [← e]
    exact Int.emod_nonneg _ (by omega)
  · show (vals (2 ^ n) r.ds xs).getD r.o.toNat 0 < _
    rw [← e]
    exact Int.emod_lt_of_pos _ p
theorem alk_self {r : Rw} (hr : RwOk r) : AlkB r r := alk_of hr hr rfl fun _ _ _ _ => rfl
/-! ### _law_of_one -/
def spLo : Sp := fun vs H Q _ => ∃ (R S : Addr) (r s : Rw), vs = [.ref R, .ref S] ∧ RwAt H R r ∧ RwAt H S s ∧ RwOk r ∧ RwOk s ∧ ∀ H' (b : Bool), Same H H' → (b = true ↔ AlkB r s) → Q (.bl b) H'
theorem ok_lo {f fA cP : Addr} {fd fdA : FuncData} {k : Nat} (F : Fun K "_law_of_one" "_law_of_one" s_law_of_one f fd)
    (GA : FnOk P w K mg base (L2.CX P w) (k + 6) fA fdA ["row", "other"] (spAl cP)) (kA : PySem.W.keepIn K (.ref fA) = true) (bA : Binds K fdA ["row", "other"] []) (gA : mg "alike" = some (.ref fA)) : FnOk P w K mg base CX0 (k + 7) f fd ["row", "other"] spLo := by
  refine F.ok sc_law_of_one (fun vs H Q E h => ?_) (fun cdv A outer s H vs Q E hr h => ?_)
  · obtain ⟨R, S, r, s, rfl, _⟩ := h
    rfl
  · obtain ⟨R, S, r, s, rfl, hR, hS, hr1, hs1, q⟩ := h
    refine ⟨_, pss_one (ps_ret (pe_and (pe_cmpR op_eq (pe_ix ix_tup (pv 0) pe_int (fun _ _ => rfl)) (pe_ix ix_tup (pv 1) pe_int (fun _ _ => rfl)) (nomark _)) (pe_one (pe_cmpR op_eq (pe_ix ix_tup (pe_call GA hr (by rfl) gA kA bA .nil passL (pa_cons (pv 0) (pa_cons (pv 1) pa_nil))) pe_int (fun _ _ => rfl)) pe_str (nomark _))))), ?_⟩
    obtain ⟨rm, rds, ro⟩ := r
    obtain ⟨sm, sds, so⟩ := s
    have r1 : (1 : Int) ≤ rm := hr1.m1
    have s1 : (1 : Int) ≤ sm := hs1.m1
    obtain ⟨m1, rfl⟩ : ∃ m1 : Nat, rm = m1 := ⟨rm.toNat, by omega⟩
    obtain ⟨m2, rfl⟩ : ∃ m2 : Nat, sm = m2 := ⟨sm.toNat, by omega⟩
    obtain ⟨D, rs, eR, _, _⟩ := id hR
    obtain ⟨D2, rs2, eS, _, _⟩ := id hS
    refine ⟨.ref R, rfl, R, _, 0, .int (m1 : Int), rfl, rfl, SqT.of eR, atI_nat (j := 0) rfl, .ref S, rfl, S, _, 0, .int (m2 : Int), rfl, rfl, SqT.of eS, atI_nat (j := 0) rfl, rfl, _, rfl, ite2 (fun e => ?_) (fun e => ?_)⟩
    · have em : m1 = m2 := by
        have : (V.int (m1 : Int)) = .int (m2 : Int) := of_decide_eq_true e
        injection this with this
        omega
      subst em
      refine ⟨.ref R, rfl, .ref S, rfl, R, S, m1, m1, ro, so, rds, sds, rfl, hR, hS, hr1, hs1, fun _ => ⟨fun H' T M as ps wy s' _ _ eT _ _ hB _ _ => ?_, fun H' T L ps wy cu qq bs s' _ _ eT _ hB hq hbs hne _ _ => ?_⟩, fun ne => absurd rfl ne⟩
      · refine ⟨T, _, 0, .str "alike", rfl, rfl, SqT.of eT, atI_nat (j := 0) rfl, rfl, ?_⟩
        rw [decide_eq_true rfl]
        exact q H' true s' ⟨fun _ => ⟨rfl, fun t => bfs_never hB t⟩, fun _ => rfl⟩
      · refine ⟨T, _, 0, .str "apart", rfl, rfl, SqT.of eT, atI_nat (j := 0) rfl, rfl, ?_⟩
        rw [decide_eq_false (by decide +kernel)]
        refine q H' false s' ⟨(fun z => by cases z), fun z => ?_⟩
        have hl : (path wy cu ++ [bs]).length = (path wy cu).length + 1 := by rw [List.length_append]; rfl
        rcases bfs_firstw hB hq hbs hne with ⟨z1, _⟩ | ⟨t, z1, z2, z3⟩
        · exact absurd z1 (by omega)
        · exact absurd z2 (z.2 t)
    · refine q H false (Same.refl H) ⟨(fun z => by cases z), fun z => absurd ?_ e⟩
      exact decide_eq_true (congrArg V.int z.1)
/-! ### _law_places: for each name the number of its kind -/
section flat
variable {κ : Type} [DecidableEq κ]
theorem addG_perm {gs : Gs κ} {k : κ} {t : Str} (nd : (gs.map (·.1)).Nodup) : ((addG gs k t).map (·.2)).flatten.Perm ((gs.map (·.2)).flatten ++ [t]) := by
  unfold addG
  by_cases a : ((gs.any fun g => decide (g.1 = k)) = true)
  · rw [if_pos a]
    induction gs with
    | nil => cases a
    | cons g gs ih =>
      rw [List.map_cons, List.nodup_cons] at nd
      by_cases b : g.1 = k
      · have hno : ∀ g' ∈ gs, ¬ g'.1 = k := fun g' hg' e => nd.1 (List.mem_map.mpr ⟨g', hg', e.trans b.symm⟩)
        have e : gs.map (fun g => if g.1 = k then (g.1, g.2 ++ [t]) else g) = gs := by
          conv => rhs; rw [← List.map_id gs]
          exact List.map_congr_left fun g' hg' => if_neg (hno g' hg')
        rw [List.map_cons, if_pos b, e, List.map_cons, List.map_cons, List.flatten_cons, List.flatten_cons]
        show (g.2 ++ [t] ++ _).Perm (g.2 ++ _ ++ [t])
        rw [List.append_assoc, List.append_assoc]
        exact List.Perm.append_left _ List.perm_append_comm
      · have a' : (gs.any fun g => decide (g.1 = k)) = true := by
          rw [List.any_cons, decide_eq_false b, Bool.false_or] at a
          exact a
        rw [List.map_cons, if_neg b, List.map_cons, List.map_cons, List.flatten_cons, List.flatten_cons, List.append_assoc]
        exact List.Perm.append_left _ (ih nd.2 a')
  · rw [if_neg a, List.map_append, List.flatten_append]
    exact .refl _
theorem grp_perm (lab : Str → κ) {ns : List Str} (h : Up ns) : ((grpL lab ns).map (·.2)).flatten.Perm ns := by
  have key : ∀ i, i ≤ ns.length → ((grpL lab (ns.take i)).map (·.2)).flatten.Perm (ns.take i) := by
    intro i
    induction i with
    | zero => intro _; rw [List.take_zero]; exact .refl _
    | succ i ih =>
      intro hi
      have hg := List.getElem?_eq_getElem (show i < ns.length by omega)
      have nd := (grp_ok lab (h.sublist (List.take_sublist i ns))).nd
      rw [List.take_add_one, hg]
      show ((grpL lab (ns.take i ++ [ns[i]])).map (·.2)).flatten.Perm (ns.take i ++ [ns[i]])
      rw [grpL_snoc]
      exact (addG_perm nd).trans (List.Perm.append_right _ (ih (by omega)))
  have := key ns.length (Nat.le_refl _)
  rwa [List.take_length] at this
end flat
/-- the number of the group that a name stands in -/
def plOf (gs : List (List Str)) (t : Str) : Nat := gs.findIdx fun g => decide (t ∈ g)
theorem plOf_at {gs : List (List Str)} (nd : gs.flatten.Nodup) {i : Nat} {g : List Str} (hg : gs[i]? = some g) {t : Str} (ht : t ∈ g) : plOf gs t = i := by
  obtain ⟨hi, he⟩ := List.getElem?_eq_some_iff.mp hg
  unfold plOf
  refine (List.findIdx_eq hi).mpr ⟨decide_eq_true (by rw [he]; exact ht), fun j hj => decide_eq_false fun hj2 => ?_⟩
  have pw := (List.pairwise_flatten.mp nd).2
  exact (List.pairwise_iff_getElem.mp pw j i (by omega) hi hj) t hj2 t (by rw [he]; exact ht) rfl
theorem fl_take {gs : List (List Str)} {i : Nat} {g : List Str} (hg : gs[i]? = some g) (k : Nat) : ((gs.take i).flatten ++ g.take k).Sublist gs.flatten := by
  have h1 : gs = gs.take i ++ g :: gs.drop (i + 1) := by
    obtain ⟨hi, he⟩ := List.getElem?_eq_some_iff.mp hg
    rw [← he, ← List.drop_eq_getElem_cons hi, List.take_append_drop]
  have h2 : gs.flatten = (gs.take i).flatten ++ (g ++ (gs.drop (i + 1)).flatten) := by
    conv => lhs; rw [h1]
    rw [List.flatten_append, List.flatten_cons]
  rw [h2]
  exact List.Sublist.append (List.Sublist.refl _) ((List.take_sublist k g).trans (List.sublist_append_left _ _))
theorem kvE_new (g : Str → V) {ks : List Str} {t : Str} (h : t ∉ ks) : putK (kvE g ks) (Sum.inr t) (g t) = kvE g (ks ++ [t]) := by
  rw [putK_new _ (by rw [kvE_val, if_neg h])]
  unfold kvE
  rw [List.map_append]
  rfl
def spPl (P : Program) (w : World) (C : Addr) : Sp := fun vs H Q _ => ∃ (p Kd Dn Lk : Addr) (dn : List Dn1) (kb : List Str) (adr : Str → Addr) (rowf : Str → Rw) (n : Nat), vs = [.ref p] ∧ BkAt C H p Kd Dn Lk (kvE (fun t => .ref (adr t)) kb) dn ∧ LkAt P w H Lk n ∧ kb.Nodup ∧ kb.length < 64 ∧ (∀ t ∈ kb, RwAt H (adr t) (rowf t) ∧ RwOk (rowf t)) ∧
  ∀ (H' : Hp) (F D : Addr) (pl : Str → Nat) (ns : List Str), ns.Perm kb → H' F = some (.dK (kvE (fun t => .int (pl t : Int)) ns)) → (∀ s ∈ kb, ∀ t ∈ kb, pl s = pl t ↔ AlkB (rowf s) (rowf t)) → H F = none → BkAt C H' p Kd Dn D (kvE (fun t => .ref (adr t)) kb) dn → LkAt P w H' D 64 → (∀ c o, c ≠ p → H c = some o → H' c = some o) → Q (.ref F) H'
set_option maxHeartbeats 2000000 in
theorem ok_pl {f fK C : Addr} {fd fdK : FuncData} {k : Nat} (F : Fun K "_law_places" "_law_places" s_law_places f fd) (T : BCls K mg C)
    (MK : Meth K C "kinds" fK) (GK : FnOk P w K mg base CX0 (k + 8) fK fdK ["self"] (spBk P w C)) (bK : Binds K fdK ["self"] [])
    (me : mg "enumerate" = none) : FnOk P w K mg base CX0 (k + 9) f fd ["book"] (spPl P w C) := by
  refine F.ok sc_law_places (fun vs H Q E h => ?_) (fun cdv A outer s H vs Q E hr h => ?_)
  · obtain ⟨p, Kd, Dn, Lk, dn, kb, adr, rowf, n, rfl, _⟩ := h
    rfl
  · obtain ⟨p, Kd, Dn, Lk, dn, kb, adr, rowf, n, rfl, hb, hlk, nd, h64, hrows, qq⟩ := h
    have hu := hu_of hr
    refine ⟨_, pss_cons (ps_set (i := 1) sc_law_places.nd rfl (.inl rfl) pe_dnewK)
    (pss_cons (ps_for PassesOwn.never rfl (pi_enum (by rfl) me (pa_cons (pe_meth0 (pv 0) T.cl MK GK hr bK .nil pass0) pa_nil)) (pg_tup rfl (pgs_cons (pg_name (i := 2) sc_law_places.nd rfl (.inl rfl)) (pgs_cons (pg_name (i := 3) sc_law_places.nd rfl (.inl rfl)) pgs_nil)))
      (pss_one (ps_for PassesOwn.never rfl (pi_list (pv 3)) (pg_name (i := 4) sc_law_places.nd rfl (.inl rfl))
        (pss_cons (ps_if (pt_cmp (pc_din hu (pv 4) (pv 1))) (pss_one (ps_ret pe_non)) pss_nil)
        (pss_one (ps_dput hu (pv 1) (pv 4) (pv 2) rfl))))))
    (pss_one (ps_ret (pv 1)))), ?_⟩
    intro Fd hFd
    have sF := same_new (o := .dK []) hFd
    have eF : upd H Fd (.dK []) Fd = some (.dK []) := upd_same
    generalize upd H Fd (.dK []) = H1 at sF eF
    have hb1 := hb.same sF
    obtain ⟨dx, ob⟩ := hb1.ob
    refine ⟨.ref p, rfl, p, dx, _, rfl, ob, bF_no _ _ _ (by decide +kernel) (by decide +kernel) (by decide +kernel), p, Kd, Dn, Lk, dn, kb, adr, rowf, n, rfl, hb1, hlk.stay (fun u e => sF _ _ e) (Same.tups sF), nd, h64, (fun t ht => ⟨(Same.tups sF).row (hrows t ht).1, (hrows t ht).2⟩), fun H2 L D qs ys lab pm up hlab eL hqs hL hq ndq bk2 lk2 hD nDL nDq keep => ?_⟩
    have npF : Fd ≠ p := (ne_of ob eF (fun z => nomatch z)).symm
    have eF2 := keep _ _ npF eF
    have ok := grp_ok (fun t => lookK (rowf t).m.toNat (lab t)) up
    have fp := grp_perm (fun t => lookK (rowf t).m.toNat (lab t)) up
    obtain ⟨gg, hgg⟩ : ∃ gg, gg = grpL (fun t => lookK (rowf t).m.toNat (lab t)) ys := ⟨_, rfl⟩
    rw [← hgg] at ok fp hqs
    obtain ⟨gs, hgs⟩ : ∃ gs : List (List Str), gs = gg.map (·.2) := ⟨_, rfl⟩
    rw [← hgs] at fp hqs
    have fnd : gs.flatten.Nodup := fp.nodup_iff.mpr (up_nodup up)
    have fl : gs.flatten.length = kb.length := (fp.trans pm).length_eq
    have ql := awLen hqs
    refine ⟨L, _, rfl, .inl (.inl eL), for_it (walk_enum (K := K) (a := L) (xs := qs.map V.ref)) (fun i σ H3 => ∃ (y2 y3 y4 : Option V), σ = [some (.ref p), some (.ref Fd), y2, y3, y4] ∧ H3 Fd = some (.dK (kvE (fun t => .int (plOf gs t : Int)) (gs.take i).flatten)) ∧ ∀ c o, c ≠ Fd → H2 c = some o → H3 c = some o)
      ⟨none, none, none, rfl, eF2, fun _ _ _ z => z⟩ (fun i σ H3 _ hp => ?_) (fun i x σ H3 H4 hi hp hy => ?_) (fun σ H3 hp => ?_)⟩
    · obtain ⟨_, _, _, _, _, k3⟩ := hp
      have nLF : L ≠ Fd := (ne_of_none eF hL).symm
      exact .inl (.inl (k3 _ _ nLF eL))
    · obtain ⟨y2, y3, y4, rfl, eF3, k3⟩ := hp
      obtain ⟨U, x1, x2, rfl, hU, rfl, g1, g2⟩ := hy
      obtain rfl := Option.some.inj g1
      rw [List.length_map] at hi
      have g2' : (qs.map V.ref)[i]? = some x2 := g2
      have hQi : qs[i]? = some qs[i] := List.getElem?_eq_getElem hi
      rw [List.getElem?_map, hQi] at g2'
      obtain rfl := Option.some.inj g2'
      obtain ⟨g, hg, eq⟩ := awGet hqs hQi
      generalize qs[i] = q at hQi eq
      have nqF : q ≠ Fd := (ne_of_none eF (hq q (List.mem_of_getElem? hQi)).1).symm
      have sU := same_new (o := .tup [.int (i : Nat), .ref q]) hU
      refine ⟨U, _, rfl, SqT.of upd_same, rfl, .int (i : Nat), _, rfl, .ref q, _, rfl, rfl, ?_⟩
      have eF4 := sU _ _ eF3
      have k4 : ∀ c o, c ≠ Fd → H2 c = some o → upd H3 U (.tup [.int (i : Nat), .ref q]) c = some o := fun c o n e => sU _ _ (k3 c o n e)
      generalize upd H3 U (.tup [.int (i : Nat), .ref q]) = H4 at eF4 k4
      refine ⟨.ref q, rfl, q, rfl, ⟨_, .inl (.inl (k4 _ _ nqF eq))⟩, for_list (K := K) (a := q) (xs := g.map V.str) (fun j σ H5 => ∃ (y4 : Option V), σ = [some (.ref p), some (.ref Fd), some (.int (i : Nat)), some (.ref q), y4] ∧ H5 Fd = some (.dK (kvE (fun t => .int (plOf gs t : Int)) ((gs.take i).flatten ++ g.take j))) ∧ ∀ c o, c ≠ Fd → H2 c = some o → H5 c = some o)
        ⟨_, rfl, by rw [List.take_zero, List.append_nil]; exact eF4, k4⟩ (fun j σ H5 _ hp => ?_) (fun j x σ H5 hx hp => ?_) (fun σ H5 hp => ?_)⟩
      · obtain ⟨_, _, _, k5⟩ := hp
        exact .inl (.inl (k5 _ _ nqF eq))
      · obtain ⟨y4, rfl, eF5, k5⟩ := hp
        rw [List.getElem?_map] at hx
        obtain ⟨t, ht, rfl⟩ := Option.map_eq_some_iff.mp hx
        have sub := fl_take hg (j + 1)
        have tk : g.take (j + 1) = g.take j ++ [t] := by rw [List.take_add_one, ht]; rfl
        rw [tk, ← List.append_assoc] at sub
        have nd2 := sub.nodup fnd
        have tn : t ∉ (gs.take i).flatten ++ g.take j := fun z => by
          rw [List.nodup_append] at nd2
          exact nd2.2.2 t z t (List.mem_singleton_self t) rfl
        have sl := sub.length_le
        rw [List.length_append] at sl
        have hv : valV (kvE (fun t => V.int (plOf gs t : Int)) ((gs.take i).flatten ++ g.take j)) (Sum.inr t) = none := by rw [kvE_val, if_neg tn]
        have hpl : plOf gs t = i := plOf_at fnd hg (List.mem_of_getElem? ht)
        have dg := DGet.k (k := Sum.inr t) eF5
        rw [hv] at dg
        refine ⟨.str t, rfl, .ref Fd, rfl, Fd, none, rfl, dg, false, rfl, iteF ?_⟩
        refine ⟨.int (i : Nat), rfl, .ref Fd, rfl, .str t, rfl, Fd, _, rfl, DPut.k (k := Sum.inr t) eF5 (by rw [kvE_len, sizeLine_eq]; omega), ?_⟩
        refine ⟨_, rfl, ?_, fun c o n e => by rw [upd_ne n]; exact k5 c o n e⟩
        rw [upd_same]
        have := kvE_new (fun t => V.int (plOf gs t : Int)) tn
        rw [hpl] at this
        rw [this, tk, List.append_assoc]
      · obtain ⟨y4, rfl, eF5, k5⟩ := hp
        rw [List.length_map, List.take_length] at eF5
        refine ⟨_, _, _, rfl, ?_, k5⟩
        rw [List.take_add_one, hg]
        show _ = some (HO.dK (kvE _ (gs.take i ++ [g]).flatten))
        rw [List.flatten_append, List.flatten_singleton]
        exact eF5
    · obtain ⟨y2, y3, y4, rfl, eF3, k3⟩ := hp
      rw [List.length_map, ql, List.take_length] at eF3
      obtain ⟨ts2, eD2, hts2⟩ := id bk2.done
      obtain ⟨lx, ndL, _, _⟩ := id lk2
      obtain ⟨dx2, ob2⟩ := id bk2.ob
      have nF : ∀ x o, H2 x = some o → (∀ kvs, o ≠ .dK kvs) → x ≠ Fd := fun x o e z => ne_of e eF2 (z _)
      have npF2 := npF.symm
      have nKF : Kd ≠ Fd := ne_of_none hb.kept hFd
      have nDF : Dn ≠ Fd := nF _ _ eD2 (fun _ z => nomatch z)
      have t3 : TupsStay H2 H3 := fun x xs e => k3 x _ (nF _ _ e (fun _ z => nomatch z)) e
      have nLkF : D ≠ Fd := fun z => by rw [z, eF] at hD; cases hD
      refine ⟨.ref Fd, rfl, qq H3 Fd D (plOf gs) gs.flatten (fp.trans pm) eF3 (fun s hs t ht => ?_) hFd (bk2.stay (fun c o z e => ?_) t3) (lk2.stay (fun u e => k3 _ _ nLkF e) t3) (fun c o n e => k3 c o (ne_of_none e hFd) (keep c o n (sF _ _ e)))⟩
      · have fm : ∀ t ∈ kb, ∃ i g, gs[i]? = some g ∧ t ∈ g ∧ gg[i]? = some (lookK (rowf t).m.toNat (lab t), g) := fun t ht => by
          obtain ⟨g, hg, htg⟩ := List.mem_flatten.mp ((fp.trans pm).mem_iff.mpr ht)
          obtain ⟨i, hi⟩ := List.mem_iff_getElem?.mp hg
          have hi2 := hi
          rw [hgs, List.getElem?_map] at hi2
          obtain ⟨g2, h1, h2⟩ := Option.map_eq_some_iff.mp hi2
          have := (ok.has g2 (List.mem_of_getElem? h1) t (by rw [h2]; exact htg)).2
          exact ⟨i, g, hi, htg, by rw [h1, this, ← h2]⟩
        obtain ⟨i, g, hi, hsg, hgi⟩ := fm s hs
        obtain ⟨j, g', hj, htg, hgj⟩ := fm t ht
        rw [plOf_at fnd hi hsg, plOf_at fnd hj htg, ← look_alk (hrows s hs).2 (hrows t ht).2 (hlab s hs) (hlab t ht)]
        constructor
        · rintro rfl
          rw [hgi] at hgj
          exact (Prod.mk.inj (Option.some.inj hgj)).1
        · intro e
          exact nd_idx ok.nd (x := lookK (rowf s).m.toNat (lab s)) (by rw [List.getElem?_map, hgi]; rfl) (by rw [List.getElem?_map, hgj, e]; rfl)
      · rcases z with rfl | rfl | rfl
        · exact k3 _ _ npF2 e
        · exact k3 _ _ nKF e
        · exact k3 _ _ nDF e
/-! ### texts as data; _law_kinds_right -/
def TxOk (t : Str) : Prop := t.cps.size ≤ 8 ∧ (t.cps.toList.all fun c => decide (c < 1114112)) = true
theorem let_small : (letS.cps.toList.all fun c => decide (c < 1114112)) = true := by decide +kernel
theorem name_tx {t : Str} (h : nameS t = true) : TxOk t := by
  refine ⟨nameS_len h, ?_⟩
  unfold nameS at h
  rw [Bool.and_eq_true] at h
  refine List.all_eq_true.mpr fun c hc => ?_
  have h1 := List.all_eq_true.mp h.2 c hc
  have h2 : c ∈ letS.cps.toList := of_decide_eq_true h1
  exact List.all_eq_true.mp let_small c h2
def nmD (ys : List Str) : PyData := .list (ys.map PyData.str)
theorem dp_nm {H : Hp} {L : Addr} {ys : List Str} (h : H L = some (.lst (ys.map V.str))) : Dp K H (.ref L) (nmD ys) := .lst (.inl (.inl h)) (dp_strs ys)
theorem shaped_nm {ys : List Str} (h : ∀ t ∈ ys, TxOk t) : SeqAt.shaped (nmD ys) = true := by
  have key : ∀ l : List Str, (∀ t ∈ l, TxOk t) → PyData.canLayAll0 (l.map PyData.str) = true := by
    intro l
    induction l with
    | nil => intro _; simp only [List.map_nil, PyData.canLayAll0]
    | cons x l ih =>
      intro hl
      have hx : PyData.strOk x = true := by
        unfold PyData.strOk
        rw [← Array.all_toList]
        exact (hl x List.mem_cons_self).2
      simp only [List.map_cons, PyData.canLayAll0, PyData.canLay0, hx, ih fun t ht => hl t (List.mem_cons_of_mem _ ht), Bool.and_self]
  unfold SeqAt.shaped nmD
  rw [Bool.and_eq_true]
  refine ⟨by rw [PyData.canLay0]; exact key ys h, decide_eq_true ?_⟩
  rw [PyData.depth, depth_strs]
  decide
theorem eqv_strs : ∀ ys : List Str, PyData.eqvAll (ys.map PyData.str) (ys.map PyData.str) = true
  | [] => by simp only [List.map_nil, PyData.eqvAll]
  | x :: ys => by
    have ih := eqv_strs ys
    simp only [List.map_cons, PyData.eqvAll, PyData.eqv, ih, Bool.and_true]
    simp
def spKr (P : Program) (w : World) (C : Addr) : Sp := fun vs H Q _ => ∃ (p S Kd Dn Lk : Addr) (dn : List Dn1) (kb ks : List Str) (adr : Str → Addr) (rowf : Str → Rw) (n : Nat), vs = [.ref p, .ref S] ∧ BkAt C H p Kd Dn Lk (kvE (fun t => .ref (adr t)) kb) dn ∧ LkAt P w H Lk n ∧ H S = some (.dK (kvE (fun t => .ref (adr t)) ks)) ∧ ks.Perm kb ∧ kb.Nodup ∧ kb.length < 64 ∧ (∀ t ∈ kb, TxOk t) ∧ (∀ t ∈ kb, RwAt H (adr t) (rowf t) ∧ RwOk (rowf t)) ∧
  ∀ (H' : Hp) (D : Addr), BkAt C H' p Kd Dn D (kvE (fun t => .ref (adr t)) kb) dn → LkAt P w H' D 64 → (∀ c o, c ≠ p → H c = some o → H' c = some o) → Q (.bl true) H'
set_option maxHeartbeats 2000000 in
theorem ok_kr {f fP fO C : Addr} {fd fdP fdO : FuncData} {k : Nat} (F : Fun K "_law_kinds_right" "_law_kinds_right" s_law_kinds_right f fd)
    (GP : FnOk P w K mg base CX0 (k + 9) fP fdP ["book"] (spPl P w C)) (kP : PySem.W.keepIn K (.ref fP) = true) (bP : Binds K fdP ["book"] []) (gP : mg "_law_places" = some (.ref fP))
    (GO : FnOk P w K mg base CX0 (k + 7) fO fdO ["row", "other"] spLo) (kO : PySem.W.keepIn K (.ref fO) = true) (bO : Binds K fdO ["row", "other"] []) (gO : mg "_law_of_one" = some (.ref fO))
    (ms : mg "sorted" = none) (me : mg "enumerate" = none) : FnOk P w K mg base CX0 (k + 10) f fd ["book", "shelf"] (spKr P w C) := by
  refine F.ok sc_law_kinds_right (fun vs H Q E h => ?_) (fun cdv A outer s H vs Q E hr h => ?_)
  · obtain ⟨p, S, Kd, Dn, Lk, dn, kb, ks, adr, rowf, n, rfl, _⟩ := h
    rfl
  · obtain ⟨p, S, Kd, Dn, Lk, dn, kb, ks, adr, rowf, n, rfl, hb, hlk, eS, pk, nd, h64, htx, hrows, qq⟩ := h
    have hu := hu_of hr
    have R7 := hr.mono (show k + 7 ≤ k + 9 by omega)
    refine ⟨_, pss_cons (ps_set (i := 2) sc_law_kinds_right.nd rfl (.inl rfl) (pe_call GP hr (by rfl) gP kP bP .nil pass0 (pa_cons (pv 0) pa_nil)))
    (pss_cons (ps_if (PW.pt (pw_or (pt_cmpR op_isN (pv 2) pe_non (nomark _)) (pw_or1 (pt_cmpR (op_neD hr.units) (pe_callB (call_sortedD rfl) (by rfl) ms (by decide +kernel) (pa_cons (pv 2) pa_nil)) (pe_callB (call_sortedD rfl) (by rfl) ms (by decide +kernel) (pa_cons (pv 1) pa_nil)) (nomark _)))))
      (pss_one (ps_ret pe_bl)) pss_nil)
    (pss_cons (ps_set (i := 3) sc_law_kinds_right.nd rfl (.inl rfl) (pe_callB (call_sortedD rfl) (by rfl) ms (by decide +kernel) (pa_cons (pv 1) pa_nil)))
    (pss_cons (ps_for PassesOwn.never rfl (pi_enum (by rfl) me (pa_cons (pv 3) pa_nil)) (pg_tup rfl (pgs_cons (pg_name (i := 4) sc_law_kinds_right.nd rfl (.inl rfl)) (pgs_cons (pg_name (i := 5) sc_law_kinds_right.nd rfl (.inl rfl)) pgs_nil)))
      (pss_one (ps_for PassesOwn.never rfl (pi_list (pe_slice sl_list (pv 3) po_none (po_some (pv 4)))) (pg_name (i := 6) sc_law_kinds_right.nd rfl (.inl rfl))
        (pss_cons (ps_set (i := 7) sc_law_kinds_right.nd rfl (.inl rfl) (pe_cmpR op_eq (pe_dget hu (pv 2) (pv 5) (fun _ _ => rfl)) (pe_dget hu (pv 2) (pv 6) (fun _ _ => rfl)) (nomark _)))
        (pss_one (ps_if (pt_cmpR op_ne (pv 7) (pe_call GO R7 (by rfl) gO kO bO .nil pass0 (pa_cons (pe_dget hu (pv 1) (pv 5) (fun _ _ => rfl)) (pa_cons (pe_dget hu (pv 1) (pv 6) (fun _ _ => rfl)) pa_nil))) (nomark _))
          (pss_one (ps_ret pe_bl)) pss_nil))))))
    (pss_one (ps_ret pe_bl))))), ?_⟩
    refine ⟨.ref p, rfl, p, Kd, Dn, Lk, dn, kb, adr, rowf, n, rfl, hb, hlk, nd, h64, hrows, fun H1 Fd D pl ns pn eF hal hFd bk1 lk1 keep1 => ?_⟩
    obtain ⟨dx, ob⟩ := id hb.ob
    have nSp : S ≠ p := ne_of eS ob (fun z => nomatch z)
    have eS1 := keep1 _ _ nSp eS
    refine ⟨.ref Fd, rfl, rfl, false, rfl, ?_⟩
    refine ⟨.ref Fd, rfl, Fd, _, ns, rfl, .inl eF, kvE_keys _ _, by rw [pn.length_eq]; exact h64, fun ys A pA sA hA => ?_⟩
    have s2 := same_new (o := .lst (ys.map V.str)) hA
    have eA : upd H1 A (.lst (ys.map V.str)) A = some (.lst (ys.map V.str)) := upd_same
    generalize upd H1 A (.lst (ys.map V.str)) = H2 at s2 eA
    refine ⟨.ref S, rfl, S, _, ks, rfl, .inl (s2 _ _ eS1), kvE_keys _ _, by rw [pk.length_eq]; exact h64, fun zs B pB sB hB => ?_⟩
    have s3 := same_new (o := .lst (zs.map V.str)) hB
    have eB : upd H2 B (.lst (zs.map V.str)) B = some (.lst (zs.map V.str)) := upd_same
    generalize upd H2 B (.lst (zs.map V.str)) = H3 at s3 eB
    have py : ys.Perm kb := pA.trans pn
    have pz : zs.Perm kb := pB.trans pk
    obtain rfl : ys = zs := up_uniq (py.trans pz.symm) (up_sorted sA (py.nodup_iff.mpr nd)) (up_sorted sB (pz.nodup_iff.mpr nd))
    have txy : ∀ t ∈ ys, TxOk t := fun t ht => htx t (py.mem_iff.mp ht)
    have ee : PyData.eqv (nmD ys) (nmD ys) = true := by unfold nmD; rw [PyData.eqv]; exact eqv_strs ys
    refine ⟨nmD ys, nmD ys, dp_nm (s3 _ _ eA), dp_nm eB, shaped_nm txy, shaped_nm txy, ?_⟩
    rw [ee]
    refine ⟨false, rfl, iteF ?_⟩
    refine ⟨.ref S, rfl, S, _, ks, rfl, .inl (s3 _ _ (s2 _ _ eS1)), kvE_keys _ _, by rw [pk.length_eq]; exact h64, fun us L pL sL hL => ?_⟩
    have s4 := same_new (o := .lst (us.map V.str)) hL
    have eL : upd H3 L (.lst (us.map V.str)) L = some (.lst (us.map V.str)) := upd_same
    generalize upd H3 L (.lst (us.map V.str)) = H4 at s4 eL
    have pu : us.Perm kb := pL.trans pk
    have s14 : Same H1 H4 := s2.trans (s3.trans s4)
    have k4 : ∀ c o, c ≠ p → H c = some o → H4 c = some o := fun c o n e => s14 _ _ (keep1 c o n e)
    have eS4 := s14 _ _ eS1
    have eF4 := s14 _ _ eF
    have lu := pu.length_eq
    refine ⟨.ref L, rfl, L, _, rfl, .inl (.inl eL), for_it (walk_enum (K := K) (a := L) (xs := us.map V.str)) (fun i σ H5 => ∃ (y4 y5 y6 y7 : Option V), σ = [some (.ref p), some (.ref S), some (.ref Fd), some (.ref L), y4, y5, y6, y7] ∧ Same H4 H5)
      ⟨none, none, none, none, rfl, Same.refl H4⟩ (fun i σ H5 _ hp => ?_) (fun i x σ H5 H6 hi hp hy => ?_) (fun σ H5 hp => ?_)⟩
    · obtain ⟨_, _, _, _, _, s5⟩ := hp
      exact .inl (.inl (s5 _ _ eL))
    · obtain ⟨y4, y5, y6, y7, rfl, s5⟩ := hp
      obtain ⟨U, x1, x2, rfl, hU, rfl, g1, g2⟩ := hy
      obtain rfl := Option.some.inj g1
      rw [List.length_map] at hi
      have g2' : (us.map V.str)[i]? = some x2 := g2
      have hui : us[i]? = some us[i] := List.getElem?_eq_getElem hi
      rw [List.getElem?_map, hui] at g2'
      obtain rfl := Option.some.inj g2'
      have tm : us[i] ∈ kb := pu.mem_iff.mp (List.mem_of_getElem? hui)
      generalize us[i] = t at hui tm
      have sU := same_new (o := .tup [.int (i : Nat), .str t]) hU
      refine ⟨U, _, rfl, SqT.of upd_same, rfl, .int (i : Nat), _, rfl, .str t, _, rfl, rfl, ?_⟩
      have s6 := s5.trans sU
      generalize upd H5 U (.tup [.int (i : Nat), .str t]) = H6 at s6
      refine ⟨.ref L, rfl, .int (i : Nat), rfl, (i : Int), rfl, L, _, rfl, .inl (.inl (s6 _ _ eL)), fun X hX => ?_⟩
      have sX := same_new (o := .lst (cutV (us.map V.str) none (some (i : Int)))) hX
      have eX : upd H6 X (.lst (cutV (us.map V.str) none (some (i : Int)))) X = some (.lst ((us.take i).map V.str)) := by rw [upd_same, cut_take, List.map_take]
      generalize upd H6 X (.lst (cutV (us.map V.str) none (some (i : Int)))) = H7 at sX eX
      have s7 := s6.trans sX
      refine ⟨X, rfl, ⟨_, .inl (.inl eX)⟩, for_list (K := K) (a := X) (xs := (us.take i).map V.str) (fun j σ H8 => ∃ (y6 y7 : Option V), σ = [some (.ref p), some (.ref S), some (.ref Fd), some (.ref L), some (.int (i : Nat)), some (.str t), y6, y7] ∧ Same H7 H8)
        ⟨_, _, rfl, Same.refl H7⟩ (fun j σ H8 _ hp => ?_) (fun j x σ H8 hx hp => ?_) (fun σ H8 hp => ?_)⟩
      · obtain ⟨_, _, _, s8⟩ := hp
        exact .inl (.inl (s8 _ _ eX))
      · obtain ⟨y6, y7, rfl, s8⟩ := hp
        rw [List.getElem?_map] at hx
        obtain ⟨u, hu2, rfl⟩ := Option.map_eq_some_iff.mp hx
        have um : u ∈ kb := pu.mem_iff.mp (List.mem_of_mem_take (List.mem_of_getElem? hu2))
        have s48 := s7.trans s8
        have dgF : ∀ t ∈ kb, DGet H8 Fd (.str t) (some (.int (pl t : Int))) := fun t ht => by
          have := DGet.k (k := Sum.inr t) (s48 _ _ eF4)
          rw [kvE_val, if_pos (pn.mem_iff.mpr ht)] at this
          exact this
        have dgS : ∀ H9, Same H8 H9 → ∀ t ∈ kb, DGet H9 S (.str t) (some (.ref (adr t))) := fun H9 s9 t ht => by
          have := DGet.k (k := Sum.inr t) (s9 _ _ (s48 _ _ eS4))
          rw [kvE_val, if_pos (pk.mem_iff.mpr ht)] at this
          exact this
        refine ⟨.ref Fd, rfl, .str t, rfl, Fd, .int (pl t : Int), rfl, dgF t tm, .ref Fd, rfl, .str u, rfl, Fd, .int (pl u : Int), rfl, dgF u um, rfl, ?_⟩
        obtain ⟨bb, hbb⟩ : ∃ bb : Bool, bb = decide (V.int (pl t : Int) = V.int (pl u : Int)) := ⟨_, rfl⟩
        have hbb2 : bb = true ↔ AlkB (rowf t) (rowf u) := by
          rw [hbb, ← hal t tm u um]
          constructor
          · intro z
            have := of_decide_eq_true z
            injection this with this
            omega
          · intro z
            rw [z]
            exact decide_eq_true rfl
        have rowK8 : ∀ t ∈ kb, RwAt H8 (adr t) (rowf t) := fun t ht => by
          have tt : TupsStay H H8 := fun x xs e => s48 _ _ (k4 x _ (ne_of e ob (fun z => nomatch z)) e)
          exact tt.row (hrows t ht).1
        refine ⟨_, rfl, .ref S, rfl, .str t, rfl, S, .ref (adr t), rfl, dgS H8 (Same.refl H8) t tm, .ref S, rfl, .str u, rfl, S, .ref (adr u), rfl, dgS H8 (Same.refl H8) u um, adr t, adr u, rowf t, rowf u, rfl, rowK8 t tm, rowK8 u um, (hrows t tm).2, (hrows u um).2, fun H9 b2 s9 hb2 => ?_⟩
        obtain rfl : bb = b2 := by
          have := hbb2.trans hb2.symm
          cases bb <;> cases b2 <;> simp_all
        refine ⟨rfl, _, rfl, ?_⟩
        rw [← hbb]
        have ebb : (!decide (V.bl bb = V.bl bb)) = false := by simp
        rw [ebb]
        exact iteF ⟨_, _, rfl, s8.trans s9⟩
      · obtain ⟨y6, y7, rfl, s8⟩ := hp
        exact ⟨_, _, _, _, rfl, s7.trans s8⟩
    · obtain ⟨y4, y5, y6, y7, rfl, s5⟩ := hp
      have s15 := s14.trans s5
      exact qq H5 D (bk1.same s15) (lk1.stay (fun u e => s15 _ _ e) (Same.tups s15)) (fun c o n e => s5 _ _ (k4 c o n e))
/-! ### _law_made_of: another row that is alike to one -/
theorem dsSum_bare (m : Int) (bs : List Int) : dsSum (bs.map (bareR m)) = 0 := by
  unfold dsSum
  induction bs with
  | nil => rfl
  | cons b bs ih =>
    rw [List.map_cons, List.map_cons, List.sum_cons, ih]
    rfl
theorem bare_ok {m b : Int} (h1 : 1 ≤ m) (h3 : m ≤ 3) (b0 : 0 ≤ b) (b1 : b < m) : RwOk (bareR m b) ∧ (bareR m b).m = m := ⟨⟨h1, h3, Nat.zero_le _, dsOk_nil _, b0, by show b < m + 0; omega⟩, rfl⟩
theorem putF_len (m : Int) (rws : List Rw) (r : Rw) : (putF m rws r).ds.length = dsSum rws + r.ds.length := by
  have h : (putF m rws r).ds.length = (putAll m rws).1.length + r.ds.length := by
    show (_ ++ List.map _ _).length = _
    rw [List.length_append, List.length_map]
  rw [h, (putAll_len m rws).1]
theorem dsSum_one1 (r : Rw) : dsSum [r] = r.ds.length := by
  unfold dsSum
  rw [List.map_singleton, List.sum_singleton]
def spMo : Sp := fun vs H Q _ => ∃ (a c R : Addr) (r : Rw), vs = [.ref a, .ref R] ∧ WL H a c ∧ RwAt H R r ∧ RwOk r ∧ r.ds.length ≤ 6 ∧
  ∀ (H' : Hp) (Z : Addr) (r' : Rw), RwAt H' Z r' → RwOk r' → AlkB r r' → WL H' a c → Kp a c H H' → Q (.ref Z) H'
set_option maxHeartbeats 2000000 in
theorem ok_mo {f fD fP : Addr} {fd fdD fdP : FuncData} {k : Nat} (F : Fun K "_law_made_of" "_law_made_of" s_law_made_of f fd)
    (GD : FnOk P w K mg base CX0 (k + 1) fD fdD ["well", "many"] spDraw) (kD : PySem.W.keepIn K (.ref fD) = true) (bD : Binds K fdD ["well", "many"] []) (gD : mg "_law_draw" = some (.ref fD))
    (GP : FnOk P w K mg base CX0 (k + 3) fP fdP ["row", "rows"] (spPt K)) (kP : PySem.W.keepIn K (.ref fP) = true) (bP : Binds K fdP ["row", "rows"] []) (gP : mg "put_together" = some (.ref fP))
    (mr : mg "range" = none) : FnOk P w K mg base CX0 (k + 4) f fd ["well", "row"] spMo := by
  refine F.ok sc_law_made_of (fun vs H Q E h => ?_) (fun cdv A outer s H vs Q E hr h => ?_)
  · obtain ⟨a, c, R, r, rfl, _⟩ := h
    rfl
  · obtain ⟨a, c, R, r, rfl, hw, hR, hok, h6, qq⟩ := h
    have R1 := hr.mono (show k + 1 ≤ k + 3 by omega)
    refine ⟨_, pss_cons (ps_set (i := 2) sc_law_made_of.nd rfl (.inl rfl) (pe_call GD R1 (by rfl) gD kD bD .nil pass0 (pa_cons (pv 0) (pa_cons pe_int pa_nil))))
    (pss_cons (ps_if (pt_cmpR op_eq (pv 2) pe_int (nomark _))
      (pss_one (ps_ret (pe_call GP hr (by rfl) gP kP bP .nil pass0 (pa_cons (pv 1) (pa_cons (pe_lc (own := [("k", 3)]) (g := gName 3) (by rfl) sc_law_made_of.nd (pi_range1 (by rfl) mr (pa_cons (pe_ix ix_tup (pv 1) pe_int (fun _ _ => rfl)) pa_nil)) (blkOk_by (own := [("k", 3)]) (N := N_law_made_of) (sc := defScope s_law_made_of) (by decide +kernel)) (fun _ _ _ _ _ => (pg_name (i := 3) sc_law_made_of.nd rfl (.inl rfl))) (fun _ _ _ _ _ => pts_nil) (fun _ _ _ _ _ => (pe_tup (pa_cons (pe_ix (r := rIxT K) ix_tup (pv 1) pe_int (fun _ _ => rfl)) (pa_cons (pe_tup pa_nil) (pa_cons (pv 3) pa_nil)))))) pa_nil)))))
      pss_nil)
    (pss_cons (ps_if (pt_cmpR op_eq (pv 2) pe_int (nomark _))
      (pss_one (ps_ret (pe_call GP hr (by rfl) gP kP bP .nil pass0 (pa_cons (pe_tup (pa_cons pe_int (pa_cons (pe_tup (pa_cons (pe_tup (pa_cons pe_str pa_nil)) pa_nil)) (pa_cons pe_int pa_nil)))) (pa_cons (pe_lst (pa_cons (pv 1) pa_nil)) pa_nil)))))
      pss_nil)
    (pss_one (ps_ret (pe_call GP hr (by rfl) gP kP bP .nil pass0 (pa_cons (pe_tup (pa_cons pe_int (pa_cons (pe_tup (pa_cons (pe_tup (pa_cons pe_str (pa_cons pe_int pa_nil))) (pa_cons (pe_tup (pa_cons pe_str (pa_cons pe_int pa_nil))) pa_nil))) (pa_cons pe_int pa_nil)))) (pa_cons (pe_lst (pa_cons (pv 1) pa_nil)) pa_nil))))))), ?_⟩
    have r1 : (1 : Int) ≤ r.m := hok.m1
    have r3 : r.m ≤ 3 := hok.m3
    refine ⟨.ref a, rfl, a, c, 3, rfl, by decide, by decide, hw, fun H1 wy wy0 wy1 w1 k1 => ?_⟩
    have hR1 : RwAt H1 R r := (k1.tups hw).row hR
    have fin : ∀ {H2 : Hp} {Z : Addr} {r' : Rw}, Same H1 H2 → RwAt H2 Z r' → RwOk r' → AlkB r r' → Q (.ref Z) H2 := fun s2 hz ok al => qq _ _ _ hz ok al (w1.same s2) (k1.trans (Same.kp s2))
    refine ⟨.int wy, rfl, rfl, _, rfl, ite2 (fun _ => ?_) (fun _ => ?_)⟩
    · obtain ⟨D, rs, eR, _, _⟩ := id hR1
      refine ⟨.ref R, rfl, .ref R, rfl, R, _, 0, .int r.m, rfl, rfl, SqT.of eR, row0, r.m, rfl, by omega, by omega, fun C hC => ?_⟩
      refine lc_range (lo := 0) (n := r.m.toNat) (fun i H4 => ∃ qs, H4 C = some (.lst (qs.map V.ref)) ∧ RwsAt H4 qs ((List.range i).map fun (k : Nat) => bareR r.m (k : Int)) ∧ Same H1 H4) ⟨[], upd_same, .nil, same_new hC⟩ (fun i H4 hi h4 => ?_) (fun H5 h5 => ?_)
      · obtain ⟨qs, eC, hq, s4⟩ := h4
        have lq := awLen hq
        rw [List.length_map, List.length_range] at lq
        refine ⟨rfl, .ref R, rfl, R, _, 0, .int r.m, rfl, rfl, SqT.of (s4 _ _ eR), row0, Nat.zero_le _, fun T hT => ?_⟩
        have sT := same_new (o := .tup []) hT
        refine ⟨.int (0 + (i : Int)), rfl, (by show 3 ≤ sizeLine; decide), fun U hU => ?_⟩
        have sU := same_new (o := .tup [.int r.m, .ref T, .int (0 + (i : Int))]) hU
        have eU : upd (upd H4 T (.tup [])) U (.tup [.int r.m, .ref T, .int (0 + (i : Int))]) U = some (.tup [.int r.m, .ref T, .int (0 + (i : Int))]) := upd_same
        have eT := sU _ _ (upd_same (H := H4) (a := T) (o := .tup []))
        have s5 := sT.trans sU
        generalize upd (upd H4 T (.tup [])) U (.tup [.int r.m, .ref T, .int (0 + (i : Int))]) = H5 at eU eT s5
        rw [Int.zero_add] at eU
        have eC5 := s5 _ _ eC
        refine ⟨_, eC5, by rw [List.length_map]; exact small1000 (by omega), qs ++ [U], by rw [upd_same, List.map_append]; rfl, ?_, fun b u e => by rw [upd_ne (ne_of_none e hC)]; exact s5 _ _ (s4 _ _ e)⟩
        rw [List.range_succ, List.map_append]
        have tt : TupsStay H5 (upd H5 C (.lst (qs.map V.ref ++ [.ref U]))) := tups_put eC5
        exact awSnoc (F := RwAt _) (y := bareR r.m (i : Int)) ⟨T, [], tt _ _ eU, tt _ _ eT, .nil⟩ (stayRws tt (stayRws (Same.tups s5) hq))
      · obtain ⟨qs, eC, hq, s5⟩ := h5
        have eup : ((List.range r.m.toNat).map fun (k : Nat) => bareR r.m (k : Int)) = (upI r.m).map (bareR r.m) := by
          unfold upI
          rw [List.map_map]
          rfl
        rw [eup] at hq
        have hup := upI_len (m := r.m) (by omega)
        have pid : Parts r.m ((upI r.m).map (bareR r.m)) r := ⟨hok, by rw [List.length_map]; exact hup, fun x hx => by
          obtain ⟨b, hb, rfl⟩ := List.mem_map.mp hx
          obtain ⟨b0, b1⟩ := upI_in (Int.le_refl _) b hb
          exact bare_ok r1 r3 b0 b1, r1, r3, by rw [dsSum_bare]; omega⟩
        refine ⟨R, C, r.m, qs, _, r, rfl, (Same.tups s5).row hR1, eC, hq, pid, fun H6 Z s6 hZ => ?_⟩
        rw [put_id hok] at hZ
        exact fin (s5.trans s6) hZ hok (alk_self hok)
    refine ⟨.int wy, rfl, rfl, _, rfl, ite2 (fun _ => ?_) (fun _ => ?_)⟩
    · refine ⟨(by show 1 ≤ sizeLine; decide), fun T0 h0 => ⟨(by show 1 ≤ sizeLine; decide), fun T1 h1 => ⟨(by show 3 ≤ sizeLine; decide), fun T2 h2 => ?_⟩⟩⟩
      have s0 := same_new (o := .tup [.str "none"]) h0
      have s1 := same_new (o := .tup [.ref T0]) h1
      have s2 := same_new (o := .tup [.int 1, .ref T1, .int 0]) h2
      refine ⟨.ref R, rfl, (by show 1 ≤ sizeLine; decide), fun L hL => ?_⟩
      have s3 := same_new (o := .lst [.ref R]) hL
      have few : noneR.ds.length + r.ds.length ≤ 8 := by show 1 + _ ≤ 8; omega
      have hp := parts_one hok noneR_ok rfl few
      refine ⟨T2, L, r.m, [R], [r], noneR, rfl, ?_, upd_same, .cons ((Same.tups (s0.trans (s1.trans (s2.trans s3)))).row hR1) .nil, hp, fun H5 Z s5 hZ => ?_⟩
      · exact (Same.tups s3).row (m := noneR.m) (ds := noneR.ds) (o := noneR.o) ⟨T1, [T0], upd_same, s2 _ _ upd_same, .cons (s2 _ _ (s1 _ _ upd_same)) .nil⟩
      · exact fin ((s0.trans (s1.trans (s2.trans s3))).trans s5) hZ (putF_ok hp) (made_alk hok noneR_ok rfl few fun size y h0 h1 => noneR_worth size y h0 h1)
    · refine ⟨(by show 2 ≤ sizeLine; decide), fun T0 h0 => ⟨(by show 2 ≤ sizeLine; decide), fun T3 h3 => ⟨(by show 2 ≤ sizeLine; decide), fun T1 h1 => ⟨(by show 3 ≤ sizeLine; decide), fun T2 h2 => ?_⟩⟩⟩⟩
      have s0 := same_new (o := .tup [.str "not", .int 0]) h0
      have s03 := same_new (o := .tup [.str "not", .int 1]) h3
      have s1 := same_new (o := .tup [.ref T0, .ref T3]) h1
      have s2 := same_new (o := .tup [.int 1, .ref T1, .int 2]) h2
      refine ⟨.ref R, rfl, (by show 1 ≤ sizeLine; decide), fun L hL => ?_⟩
      have s3 := same_new (o := .lst [.ref R]) hL
      have few : nnR.ds.length + r.ds.length ≤ 8 := by show 2 + _ ≤ 8; omega
      have hp := parts_one hok nnR_ok rfl few
      have sa := s0.trans (s03.trans (s1.trans (s2.trans s3)))
      refine ⟨T2, L, r.m, [R], [r], nnR, rfl, ?_, upd_same, .cons ((Same.tups sa).row hR1) .nil, hp, fun H5 Z s5 hZ => ?_⟩
      · exact (Same.tups s3).row (m := nnR.m) (ds := nnR.ds) (o := nnR.o) ⟨T1, [T0, T3], upd_same, s2 _ _ upd_same, .cons (s2 _ _ (s1 _ _ (s03 _ _ upd_same))) (.cons (s2 _ _ (s1 _ _ upd_same)) .nil)⟩
      · exact fin (sa.trans s5) hZ (putF_ok hp) (made_alk hok nnR_ok rfl few fun size y h0 h1 => nnR_worth size y h0 h1)
/-! ### a book of few names -/
def upF {β : Type} (f : Str → β) (t : Str) (x : β) : Str → β := fun s => if s = t then x else f s
theorem upF_self {β : Type} (f : Str → β) (t : Str) : upF f t (f t) = f := by
  funext s
  unfold upF
  split
  · rename_i h
    rw [h]
  · rfl
theorem upF_same {β : Type} {f : Str → β} {t : Str} {x : β} : upF f t x t = x := if_pos rfl
theorem upF_ne {β : Type} {f : Str → β} {s t : Str} {x : β} (h : s ≠ t) : upF f t x s = f s := if_neg h
theorem kvE_add (adr : Str → Addr) {ks : List Str} {t : Str} (R : Addr) (h : t ∉ ks) : putK (kvE (fun t => V.ref (adr t)) ks) (Sum.inr t) (.ref R) = kvE (fun s => V.ref (upF adr t R s)) (ks ++ [t]) := by
  have h1 : kvE (fun t => V.ref (adr t)) ks = kvE (fun s => V.ref (upF adr t R s)) ks := kvE_congr fun s hs => by
    have ne : s ≠ t := fun e => h (e ▸ hs)
    show V.ref (adr s) = V.ref (upF adr t R s)
    rw [upF_ne ne]
  have h2 := kvE_new (fun s => V.ref (upF adr t R s)) h
  rw [upF_same] at h2
  rw [h1, h2]
theorem merge_kv (g : Str → V) : ∀ (l acc : List Str), (acc ++ l).Nodup → mergeK (kvE g acc) (kvE g l) = kvE g (acc ++ l)
  | [], acc, _ => by rw [List.append_nil]; rfl
  | t :: l, acc, h => by
    have ht : t ∉ acc := fun z => (List.nodup_append.mp h).2.2 t z t List.mem_cons_self rfl
    show mergeK (putK (kvE g acc) (Sum.inr t) (g t)) (kvE g l) = _
    rw [kvE_new g ht, merge_kv g l (acc ++ [t]) (by rw [List.append_assoc]; exact h), List.append_assoc]
    rfl
structure SB (P : Program) (w : World) (C : Addr) (H : Hp) (p Kd Dn Lk : Addr) (ks : List Str) (adr : Str → Addr) (rowf : Str → Rw) (dn : List Dn1) : Prop where
  bk : BkAt C H p Kd Dn Lk (kvE (fun t => .ref (adr t)) ks) dn
  lk : LkAt P w H Lk 64
  rw : ∀ t ∈ ks, RwAt H (adr t) (rowf t) ∧ RwOk (rowf t)
  nd : ks.Nodup
  nm : ∀ t ∈ ks, nameS t = true
  few : ks.length ≤ 8
  dl : dn.length ≤ 100
theorem SB.stay {C : Addr} {H H' : Hp} {p Kd Dn Lk : Addr} {ks : List Str} {adr : Str → Addr} {rowf : Str → Rw} {dn : List Dn1} (h : SB P w C H p Kd Dn Lk ks adr rowf dn) (k : ∀ c o, (c = p ∨ c = Kd ∨ c = Dn ∨ c = Lk) → H c = some o → H' c = some o) (t : TupsStay H H') : SB P w C H' p Kd Dn Lk ks adr rowf dn :=
  ⟨h.bk.stay (fun c o z e => k c o (z.elim .inl fun z => .inr (z.elim .inl fun z => .inr (.inl z))) e) t, h.lk.stay (fun o e => k _ _ (.inr (.inr (.inr rfl))) e) t, fun x hx => ⟨t.row (h.rw x hx).1, (h.rw x hx).2⟩, h.nd, h.nm, h.few, h.dl⟩
theorem SB.same {C : Addr} {H H' : Hp} {p Kd Dn Lk : Addr} {ks : List Str} {adr : Str → Addr} {rowf : Str → Rw} {dn : List Dn1} (h : SB P w C H p Kd Dn Lk ks adr rowf dn) (s : Same H H') : SB P w C H' p Kd Dn Lk ks adr rowf dn := h.stay (fun c o _ e => s c o e) (Same.tups s)
theorem SB.kpt {C : Addr} {H H' : Hp} {p Kd Dn Lk : Addr} {ks : List Str} {adr : Str → Addr} {rowf : Str → Rw} {dn : List Dn1} (h : SB P w C H p Kd Dn Lk ks adr rowf dn) (kp : KpB p Kd Dn H H') : TupsStay H H' := fun x xs e => by
  obtain ⟨ts, eD, _⟩ := h.bk.done
  exact kp x _ (ne_of e h.bk.kept (fun z => nomatch z)) (ne_of e eD (fun z => nomatch z)) e
theorem SB.told {C : Addr} {H H' : Hp} {p Kd Dn Lk R : Addr} {ks : List Str} {adr : Str → Addr} {rowf : Str → Rw} {dn : List Dn1} {t : Str} {r : Rw} (h : SB P w C H p Kd Dn Lk ks adr rowf dn) (ht : t ∉ ks) (hn : nameS t = true) (hl : ks.length < 8) (hd : dn.length < 100) (hR : RwAt H R r) (ok : RwOk r)
    (bk : BkAt C H' p Kd Dn Lk (putK (kvE (fun t => .ref (adr t)) ks) (Sum.inr t) (.ref R)) (dn ++ [(t, none)])) (kp : KpB p Kd Dn H H') : SB P w C H' p Kd Dn Lk (ks ++ [t]) (upF adr t R) (upF rowf t r) (dn ++ [(t, none)]) := by
  have tt := h.kpt kp
  obtain ⟨ts, eD, _⟩ := h.bk.done
  obtain ⟨lx, ndL, _, _⟩ := id h.lk
  refine ⟨by rw [← kvE_add adr R ht]; exact bk, h.lk.stay (fun o e => kp _ _ (ne_of ndL.ob h.bk.kept (fun z => nomatch z)) (ne_of ndL.ob eD (fun z => nomatch z)) e) tt, fun s hs => ?_, ?_, fun s hs => ?_, by rw [List.length_append]; exact hl, by rw [List.length_append]; exact hd⟩
  · rcases List.mem_append.mp hs with hs | hs
    · have ne : s ≠ t := fun e => ht (e ▸ hs)
      rw [upF_ne ne, upF_ne ne]
      exact ⟨tt.row (h.rw s hs).1, (h.rw s hs).2⟩
    · rw [List.mem_singleton.mp hs, upF_same, upF_same]
      exact ⟨tt.row hR, ok⟩
  · refine List.nodup_append.mpr ⟨h.nd, by simp, fun x hx y hy e => ?_⟩
    rw [List.mem_singleton.mp hy] at e
    exact ht (e ▸ hx)
  · rcases List.mem_append.mp hs with hs | hs
    · exact h.nm s hs
    · rw [List.mem_singleton.mp hs]
      exact hn
/-! ### _law_long_right -/
def five : List Str := ["and", "or", "xor", "add", "sub"]
theorem five_two : ∀ x ∈ five, (x, (2 : Int)) ∈ fwL := by decide +kernel
abbrev w2R (x : Str) (o : Int) : Rw := ⟨2, [(x, [0, 1]), ("not", [2])], o⟩
theorem w2_ok {x : Str} (hx : x ∈ five) {o : Int} (h0 : 2 ≤ o) (h1 : o ≤ 3) : RwOk (w2R x o) := by
  have d1 : DsOk 2 [(x, [0, 1])] := dsOk_snoc (ds := []) (dsOk_nil 2) ⟨five_two x hx, fun i hi => by
    simp only [List.mem_cons, List.not_mem_nil, or_false] at hi
    rcases hi with rfl | rfl <;> decide⟩
  have d2 : DsOk 2 [(x, [0, 1]), ("not", [2])] := dsOk_snoc d1 ⟨by decide +kernel, fun i hi => by
    rw [List.mem_singleton.mp hi]
    exact ⟨by decide, by show (2 : Int) < 2 + 1; decide⟩⟩
  exact ⟨by show (1 : Int) ≤ 2; decide, by show (2 : Int) ≤ 3; decide, by show 2 ≤ 8; decide, d2, by show 0 ≤ o; omega, by show o < 2 + 2; omega⟩
def spLr : Sp := fun vs H Q _ => ∃ a c : Addr, vs = [.ref a] ∧ WL H a c ∧ ∀ H', WL H' a c → Kp a c H H' → Q (.bl true) H'
abbrev n4 : List Str := ["long", "twin", "one", "other"]
theorem n4_nd : n4.Nodup := by decide +kernel
theorem n4_nm : ∀ t ∈ n4, nameS t = true := by decide +kernel
def four {β : Type} (a b c d : β) : Str → β := upF (upF (upF (upF (fun _ => d) "other" d) "one" c) "twin" b) "long" a
theorem four_l {β : Type} (a b c d : β) : four a b c d "long" = a := upF_same
theorem four_t {β : Type} (a b c d : β) : four a b c d "twin" = b := (upF_ne (by decide +kernel)).trans upF_same
theorem four_o {β : Type} (a b c d : β) : four a b c d "one" = c := (upF_ne (by decide +kernel)).trans ((upF_ne (by decide +kernel)).trans upF_same)
theorem four_r {β : Type} (a b c d : β) : four a b c d "other" = d := (upF_ne (by decide +kernel)).trans ((upF_ne (by decide +kernel)).trans ((upF_ne (by decide +kernel)).trans upF_same))
theorem n4_all {p : Str → Prop} (h1 : p "long") (h2 : p "twin") (h3 : p "one") (h4 : p "other") : ∀ t ∈ n4, p t := fun t ht => by
  simp only [List.mem_cons, List.not_mem_nil, or_false] at ht
  rcases ht with rfl | rfl | rfl | rfl
  · exact h1
  · exact h2
  · exact h3
  · exact h4
theorem made_one {C p dx Kd Dn : Addr} {H H' : Hp} (np : H p = none) (ndx : H dx = none) (nKd : upd (upd H dx (.own p)) p (.ins C dx []) Kd = none) (nDn : upd (upd H dx (.own p)) p (.ins C dx []) Dn = none) (keep : ∀ c o, c ≠ p → upd (upd H dx (.own p)) p (.ins C dx []) c = some o → H' c = some o) :
    Same H H' ∧ H Kd = none ∧ H Dn = none := by
  have s5 : Same H (upd (upd H dx (.own p)) p (.ins C dx [])) := fun x o e => by
    rw [upd_ne (ne_of_none e np), upd_ne (ne_of_none e ndx)]
    exact e
  exact ⟨fun x o e => keep _ _ (ne_of_none e np) (s5 _ _ e), s5.free nKd, s5.free nDn⟩
theorem sb_new {C p Kd Dn Lk : Addr} {H : Hp} {adr : Str → Addr} {rowf : Str → Rw} (bk : BkAt C H p Kd Dn Lk [] []) (lk : H Lk = some (NDO P w Lk [])) : SB P w C H p Kd Dn Lk [] adr rowf [] :=
  ⟨bk, ⟨[], ⟨lk, (fun _ z => nomatch z)⟩, Nat.zero_le _, (fun _ z => nomatch z)⟩, (fun _ z => nomatch z), List.nodup_nil, (fun _ z => nomatch z), Nat.zero_le _, Nat.zero_le _⟩
set_option maxHeartbeats 4000000 in
theorem ok_lr {f fD fR fP fL fKr : Addr} {fd fdD fdR fdP fdL fdKr : FuncData} {k : Nat} (F : Fun K "_law_long_right" "_law_long_right" s_law_long_right f fd)
    {C fI fT : Addr} {fdI fdT : FuncData} (T : BCls K mg C) (KB : Mk K C fI) (GI : FnOk P w K mg base CX0 (k + 1) fI fdI ["self"] (spBi P w C)) (bI : Binds K fdI ["self"] [])
    (MT : Meth K C "tell" fT) (GT : FnOk P w K mg base CX0 (k + 6) fT fdT ["self", "name", "row"] (spBt C)) (bT : Binds K fdT ["self", "name", "row"] [])
    (GD : FnOk P w K mg base CX0 (k + 1) fD fdD ["well", "many"] spDraw) (kD : PySem.W.keepIn K (.ref fD) = true) (bD : Binds K fdD ["well", "many"] []) (gD : mg "_law_draw" = some (.ref fD))
    (GR : FnOk P w K mg base CX0 (k + 3) fR fdR ["well", "many", "most"] spRow) (kR : PySem.W.keepIn K (.ref fR) = true) (bR : Binds K fdR ["well", "many", "most"] []) (gR : mg "_law_row" = some (.ref fR))
    (GP : FnOk P w K mg base CX0 (k + 3) fP fdP ["row", "rows"] (spPt K)) (kP : PySem.W.keepIn K (.ref fP) = true) (bP : Binds K fdP ["row", "rows"] []) (gP : mg "put_together" = some (.ref fP))
    (GL : FnOk P w K mg base CX0 (k + 9) fL fdL ["book"] (spPl P w C)) (kL : PySem.W.keepIn K (.ref fL) = true) (bL : Binds K fdL ["book"] []) (gL : mg "_law_places" = some (.ref fL))
    (GK : FnOk P w K mg base CX0 (k + 10) fKr fdKr ["book", "shelf"] (spKr P w C)) (kK : PySem.W.keepIn K (.ref fKr) = true) (bK : Binds K fdKr ["book", "shelf"] []) (gK : mg "_law_kinds_right" = some (.ref fKr))
    : FnOk P w K mg base CX0 (k + 11) f fd ["well"] spLr := by
  refine F.ok sc_law_long_right (fun vs H Q E h => ?_) (fun cdv A outer s H vs Q E hr h => ?_)
  · obtain ⟨a, c, rfl, _⟩ := h
    rfl
  · obtain ⟨a, c, rfl, hw, qq⟩ := h
    have hu := hu_of hr
    have R1 := hr.mono (show k + 1 ≤ k + 10 by omega)
    have R2 := hr.mono (show k + 1 + 1 ≤ k + 10 by omega)
    have R3 := hr.mono (show k + 3 ≤ k + 10 by omega)
    have R6 := hr.mono (show k + 6 ≤ k + 10 by omega)
    have R9 := hr.mono (show k + 9 ≤ k + 10 by omega)
    refine ⟨_, pss_cons (ps_set (i := 1) sc_law_long_right.nd rfl (.inl rfl) (pe_ix ix_list (pe_lst (pa_cons pe_str (pa_cons pe_str (pa_cons pe_str (pa_cons pe_str (pa_cons pe_str pa_nil)))))) (pe_call GD R1 (by rfl) gD kD bD .nil pass0 (pa_cons (pv 0) (pa_cons pe_int pa_nil))) (fun _ _ => rfl)))
    (pss_cons (ps_set (i := 2) sc_law_long_right.nd rfl (.inl rfl) (pe_op op_add pe_int (pe_call GD R1 (by rfl) gD kD bD .nil pass0 (pa_cons (pv 0) (pa_cons pe_int pa_nil)))))
    (pss_cons (ps_par (i := 3) (j := 4) rfl sc_law_long_right.nd rfl rfl (by decide) rfl rfl (pa_cons (pe_call GR R3 (by rfl) gR kR bR .nil pass0 (pa_cons (pv 0) (pa_cons (pv 2) (pa_cons pe_int pa_nil)))) (pa_cons (pe_call GR R3 (by rfl) gR kR bR .nil pass0 (pa_cons (pv 0) (pa_cons (pv 2) (pa_cons pe_int pa_nil)))) pa_nil)) (by rfl))
    (pss_cons (ps_set (i := 5) sc_law_long_right.nd rfl (.inl rfl) (pe_call GP R3 (by rfl) gP kP bP .nil pass0 (pa_cons (pe_tup (pa_cons pe_int (pa_cons (pe_tup (pa_cons (pe_tup (pa_cons (pv 1) (pa_cons pe_int (pa_cons pe_int pa_nil)))) (pa_cons (pe_tup (pa_cons pe_str (pa_cons pe_int pa_nil))) pa_nil))) (pa_cons (pe_op op_sub pe_int (pe_call GD R1 (by rfl) gD kD bD .nil pass0 (pa_cons (pv 0) (pa_cons pe_int pa_nil)))) pa_nil)))) (pa_cons (pe_lst (pa_cons (pv 3) (pa_cons (pv 4) pa_nil))) pa_nil))))
    (pss_cons (ps_set (i := 6) sc_law_long_right.nd rfl (.inl rfl) (pe_call GP R3 (by rfl) gP kP bP .nil pass0 (pa_cons (pe_tup (pa_cons pe_int (pa_cons (pe_tup (pa_cons (pe_tup (pa_cons pe_str (pa_cons pe_int pa_nil))) (pa_cons (pe_tup (pa_cons pe_str (pa_cons pe_int pa_nil))) pa_nil))) (pa_cons pe_int pa_nil)))) (pa_cons (pe_lst (pa_cons (pv 5) pa_nil)) pa_nil))))
    (pss_cons (ps_set (i := 7) sc_law_long_right.nd rfl (.inl rfl) (pe_make0 KB GI R2 (by rfl) T.mgC bI .nil pass0))
    (pss_cons (ps_set (i := 8) sc_law_long_right.nd rfl (.inl rfl) (pe_disp (pps_cons pe_str (pv 5) (pps_cons pe_str (pv 6) (pps_cons pe_str (pv 3) (pps_cons pe_str (pv 4) pps_nil)))) (by rfl) (by rfl) (fun z => by cases z) (by decide)))
    (pss_cons (ps_lock (ps_for PassesOwn.never rfl (pi_keys (pv 8)) (pg_name (i := 9) sc_law_long_right.nd rfl (.inl rfl))
      (pss_one (ps_expr (pe_meth (pv 7) T.cl MT GT R6 bT .nil pass0 (pa_cons (pv 9) (pa_cons (pe_dget hu (pv 8) (pv 9) (fun _ _ => rfl)) pa_nil)))))))
    (pss_cons (ps_set (i := 10) sc_law_long_right.nd rfl (.inl rfl) (pe_call GL R9 (by rfl) gL kL bL .nil pass0 (pa_cons (pv 7) pa_nil)))
    (pss_one (ps_ret (pe_and (pe_cmpR op_notN (pv 10) pe_non (nomark _)) (pe_and (pe_cmpR op_eq (pe_dget hu (pv 10) pe_str (fun _ _ => rfl)) (pe_dget hu (pv 10) pe_str (fun _ _ => rfl)) (nomark _)) (pe_one (pe_call GK hr (by rfl) gK kK bK .nil pass0 (pa_cons (pv 7) (pa_cons (pv 8) pa_nil)))))))))))))))), ?_⟩
    refine ⟨(by show 5 ≤ sizeLine; decide), fun W hW => ?_⟩
    have sW := same_new (o := .lst (five.map V.str)) hW
    have eW : upd H W (.lst (five.map V.str)) W = some (.lst (five.map V.str)) := upd_same
    obtain ⟨nWa, nWc⟩ := hw.ne_new hW
    have hw1 := hw.same sW
    refine ⟨.ref a, rfl, a, c, 5, rfl, by decide, by decide, hw1, fun H1 z z0 z1 w1 k1 => ?_⟩
    have hz : z.toNat < five.length := by show z.toNat < 5; omega
    obtain ⟨x, hx⟩ : ∃ x, five[z.toNat]? = some x := ⟨_, List.getElem?_eq_getElem hz⟩
    have hx5 := List.mem_of_getElem? hx
    have ez : z = ((z.toNat : Nat) : Int) := by omega
    refine ⟨W, _, z, .str x, rfl, rfl, .inl (.inl (k1 _ _ nWa nWc eW)), by rw [ez]; exact atI_nat (by rw [List.getElem?_map, hx]; rfl), ?_⟩
    have kk1 := (Same.kp (a := a) (c := c) sW).trans k1
    refine ⟨.ref a, rfl, a, c, 2, rfl, by decide, by decide, w1, fun H2 z2 z20 z21 w2 k2 => ⟨1, z2, rfl, rfl, ?_⟩⟩
    refine ⟨.ref a, rfl, .int (1 + z2), rfl, a, c, 1 + z2, 2, rfl, by omega, by omega, by decide, by decide, w2, fun H3 R1_ ds1 o1 hr1 ok1 l1 w3 k3 => ?_⟩
    refine ⟨.ref a, rfl, .int (1 + z2), rfl, a, c, 1 + z2, 2, rfl, by omega, by omega, by decide, by decide, w3, fun H4 R2_ ds2 o2 hr2 ok2 l2 w4 k4 => ⟨_, _, rfl, ?_⟩⟩
    obtain ⟨r1, er1⟩ : ∃ r1 : Rw, r1 = ⟨1 + z2, ds1, o1⟩ := ⟨_, rfl⟩
    obtain ⟨r2, er2⟩ : ∃ r2 : Rw, r2 = ⟨1 + z2, ds2, o2⟩ := ⟨_, rfl⟩
    have hr1 : RwAt H4 R1_ r1 := by rw [er1]; exact (k4.tups w3).row hr1
    have hr2 : RwAt H4 R2_ r2 := by rw [er2]; exact hr2
    have ok1 : RwOk r1 := by rw [er1]; exact ok1
    have ok2 : RwOk r2 := by rw [er2]; exact ok2
    have m1 : r1.m = 1 + z2 := by rw [er1]
    have m2 : r2.m = 1 + z2 := by rw [er2]
    have l1 : r1.ds.length ≤ 2 := by rw [er1]; show ds1.length ≤ 2; omega
    have l2 : r2.ds.length ≤ 2 := by rw [er2]; show ds2.length ≤ 2; omega
    have k04 : Kp a c H H4 := kk1.trans (k2.trans (k3.trans k4))
    clear k1 k2 k3 k4 kk1 eW sW w1 w2 w3 hw1
    refine ⟨.str x, rfl, (by show 3 ≤ sizeLine; decide), fun T0 h0 => ⟨(by show 2 ≤ sizeLine; decide), fun T3 h3 => ⟨(by show 2 ≤ sizeLine; decide), fun T1 h1 => ?_⟩⟩⟩
    have s0 := same_new (o := .tup [.str x, .int 0, .int 1]) h0
    have e0 : upd H4 T0 (.tup [.str x, .int 0, .int 1]) T0 = some (.tup [.str x, .int 0, .int 1]) := upd_same
    generalize upd H4 T0 (.tup [.str x, .int 0, .int 1]) = H5 at s0 e0 h3 h1
    have s3 := same_new (o := .tup [.str "not", .int 2]) h3
    have e3 : upd H5 T3 (.tup [.str "not", .int 2]) T3 = some (.tup [.str "not", .int 2]) := upd_same
    generalize upd H5 T3 (.tup [.str "not", .int 2]) = H6 at s3 e3 h1
    have s1 := same_new (o := .tup [.ref T0, .ref T3]) h1
    have e1 : upd H6 T1 (.tup [.ref T0, .ref T3]) T1 = some (.tup [.ref T0, .ref T3]) := upd_same
    generalize upd H6 T1 (.tup [.ref T0, .ref T3]) = H7 at s1 e1
    have s47 : Same H4 H7 := s0.trans (s3.trans s1)
    have w7 := w4.same s47
    refine ⟨.ref a, rfl, a, c, 2, rfl, by decide, by decide, w7, fun H8 z3 z30 z31 w8 k8 => ⟨3, z3, rfl, rfl, (by show 3 ≤ sizeLine; decide), fun T2 h2 => ?_⟩⟩
    have t8 := k8.tups w7
    have s8 := same_new (o := .tup [.int 2, .ref T1, .int (3 - z3)]) h2
    have e2 : upd H8 T2 (.tup [.int 2, .ref T1, .int (3 - z3)]) T2 = some (.tup [.int 2, .ref T1, .int (3 - z3)]) := upd_same
    generalize upd H8 T2 (.tup [.int 2, .ref T1, .int (3 - z3)]) = H9 at s8 e2
    refine ⟨.ref R1_, rfl, .ref R2_, rfl, (by show 2 ≤ sizeLine; decide), fun L hL => ?_⟩
    have s9 := same_new (o := .lst [.ref R1_, .ref R2_]) hL
    have eL : upd H9 L (.lst [.ref R1_, .ref R2_]) L = some (.lst [.ref R1_, .ref R2_]) := upd_same
    generalize upd H9 L (.lst [.ref R1_, .ref R2_]) = H10 at s9 eL
    have t48 : TupsStay H4 H8 := fun b xs e => t8 _ _ (s47 _ _ e)
    have s810 := s8.trans s9
    have t410 : TupsStay H4 H10 := fun b xs e => s810 _ _ (t48 _ _ e)
    have w10 := w8.same s810
    have k010 : Kp a c H H10 := k04.trans ((Same.kp s47).trans (k8.trans (Same.kp s810)))
    have hw2 : RwAt H10 T2 (w2R x (3 - z3)) := ⟨T1, [T0, T3], s9 _ _ e2, s810 _ _ (t8 _ _ e1), .cons (s810 _ _ (t8 _ _ (s1 _ _ (s3 _ _ e0)))) (.cons (s810 _ _ (t8 _ _ (s1 _ _ e3))) .nil)⟩
    have hr1 := t410.row hr1
    have hr2 := t410.row hr2
    have okw := w2_ok hx5 (o := 3 - z3) (by omega) (by omega)
    clear s0 s3 s1 e0 e3 e1 e2 s47 w7 t8 s8 s9 t48 s810 t410 k04 k8 w8 h0 h3 h1 h2 hL w4
    have hp : Parts (1 + z2) [r1, r2] (w2R x (3 - z3)) := ⟨okw, rfl, fun y hy => by
      simp only [List.mem_cons, List.not_mem_nil, or_false] at hy
      rcases hy with rfl | rfl
      · exact ⟨ok1, m1⟩
      · exact ⟨ok2, m2⟩, by omega, by omega, by
      show 2 + ([r1, r2].map fun r => r.ds.length).sum ≤ 8
      simp only [List.map_cons, List.map_nil, List.sum_cons, List.sum_nil]
      omega⟩
    refine ⟨T2, L, 1 + z2, [R1_, R2_], [r1, r2], w2R x (3 - z3), rfl, hw2, eL, .cons hr1 (.cons hr2 .nil), hp, fun H11 Z s11 hZ => ?_⟩
    obtain ⟨lg, elg⟩ : ∃ lg, lg = putF (1 + z2) [r1, r2] (w2R x (3 - z3)) := ⟨_, rfl⟩
    rw [← elg] at hZ
    have lok : RwOk lg := by rw [elg]; exact putF_ok hp
    have l6 : lg.ds.length ≤ 6 := by
      rw [elg, putF_len]
      show ([r1, r2].map fun r => r.ds.length).sum + 2 ≤ 6
      simp only [List.map_cons, List.map_nil, List.sum_cons, List.sum_nil]
      omega
    clear elg hp
    refine ⟨(by show 2 ≤ sizeLine; decide), fun T0 h0 => ⟨(by show 2 ≤ sizeLine; decide), fun T3 h3 => ⟨(by show 2 ≤ sizeLine; decide), fun T1 h1 => ⟨(by show 3 ≤ sizeLine; decide), fun T5 h2 => ?_⟩⟩⟩⟩
    have s0 := same_new (o := .tup [.str "not", .int 0]) h0
    have s03 := same_new (o := .tup [.str "not", .int 1]) h3
    have s1 := same_new (o := .tup [.ref T0, .ref T3]) h1
    have s2 := same_new (o := .tup [.int 1, .ref T1, .int 2]) h2
    refine ⟨.ref Z, rfl, (by show 1 ≤ sizeLine; decide), fun L2 hL2 => ?_⟩
    have s3 := same_new (o := .lst [.ref Z]) hL2
    have few : nnR.ds.length + lg.ds.length ≤ 8 := by show 2 + _ ≤ 8; omega
    have hp := parts_one lok nnR_ok rfl few
    have sa := s0.trans (s03.trans (s1.trans (s2.trans s3)))
    refine ⟨T5, L2, lg.m, [Z], [lg], nnR, rfl, (Same.tups s3).row (m := nnR.m) (ds := nnR.ds) (o := nnR.o) ⟨T1, [T0, T3], upd_same, s2 _ _ upd_same, .cons (s2 _ _ (s1 _ _ (s03 _ _ upd_same))) (.cons (s2 _ _ (s1 _ _ upd_same)) .nil)⟩, upd_same, .cons ((Same.tups sa).row hZ) .nil, hp, fun H12 Zt s12 hZt => ?_⟩
    have tal : AlkB lg (putF lg.m [lg] nnR) := made_alk lok nnR_ok rfl few fun size y h0 h1 => nnR_worth size y h0 h1
    have tok := putF_ok hp
    obtain ⟨tw, etw⟩ : ∃ tw, tw = putF lg.m [lg] nnR := ⟨_, rfl⟩
    rw [← etw] at hZt tal tok
    have s1012 : Same H10 H12 := s11.trans (sa.trans s12)
    have hZ := (Same.tups (sa.trans s12)).row hZ
    have hr1 := (Same.tups s1012).row hr1
    have hr2 := (Same.tups s1012).row hr2
    have w12 := w10.same s1012
    have k12 : Kp a c H H12 := k010.trans (Same.kp s1012)
    clear sa s12 s11 s1012 s0 s03 s1 s2 s3 h0 h3 h1 h2 hL2 etw hp k010 w10 eL hw2
    intro p dx np ndx nxp
    refine ⟨p, dx, rfl, upd_same, fun H13 Kd Dn Lk bk0 eLk nKd nDn nLk keep0 => ⟨rfl, ?_⟩⟩
    obtain ⟨s13, nKd, nDn⟩ := made_one np ndx nKd nDn keep0
    intro S hS
    refine ⟨.ref Z, rfl, .ref Zt, rfl, .ref R1_, rfl, .ref R2_, rfl, upd_same, [(Sum.inr "long", .ref Z), (Sum.inr "twin", .ref Zt), (Sum.inr "one", .ref R1_), (Sum.inr "other", .ref R2_)], rfl, by show 4 ≤ 15; decide, ?_⟩
    obtain ⟨adr, eadr⟩ : ∃ adr : Str → Addr, adr = four Z Zt R1_ R2_ := ⟨_, rfl⟩
    obtain ⟨rowf, erowf⟩ : ∃ rowf : Str → Rw, rowf = four lg tw r1 r2 := ⟨_, rfl⟩
    have ekv : ([(Sum.inr "long", .ref Z), (Sum.inr "twin", .ref Zt), (Sum.inr "one", .ref R1_), (Sum.inr "other", .ref R2_)] : Kvs) = kvE (fun t => .ref (adr t)) n4 := by
      unfold kvE
      simp only [n4, List.map_cons, List.map_nil, eadr, four_l, four_t, four_o, four_r]
    rw [ekv, upd_upd, show mergeK [] (kvE (fun t => V.ref (adr t)) n4) = kvE (fun t => .ref (adr t)) n4 from merge_kv (fun t => V.ref (adr t)) n4 [] n4_nd]
    have hrows : ∀ t ∈ n4, RwAt H12 (adr t) (rowf t) ∧ RwOk (rowf t) := by
      rw [eadr, erowf]
      exact n4_all (by rw [four_l, four_l]; exact ⟨hZ, lok⟩) (by rw [four_t, four_t]; exact ⟨hZt, tok⟩) (by rw [four_o, four_o]; exact ⟨hr1, ok1⟩) (by rw [four_r, four_r]; exact ⟨hr2, ok2⟩)
    have hlt : AlkB (rowf "long") (rowf "twin") := by
      rw [erowf, four_l, four_t]
      exact tal
    have s14 := same_new (o := .dK (kvE (fun t => .ref (adr t)) n4)) (show H13 S = none from hS)
    have eS : upd H13 S (.dK (kvE (fun t => .ref (adr t)) n4)) S = some (.dK (kvE (fun t => .ref (adr t)) n4)) := upd_same
    obtain ⟨td, eDn, _⟩ := id bk0.done
    have nSK : S ≠ Kd := (ne_of_none bk0.kept hS).symm
    have nSD : S ≠ Dn := (ne_of_none eDn hS).symm
    have nSL : S ≠ Lk := (ne_of_none eLk hS).symm
    obtain ⟨dx0, ob0⟩ := id bk0.ob
    have nSp : S ≠ p := (ne_of_none ob0 hS).symm
    have sb0 : SB P w C (upd H13 S (.dK (kvE (fun t => .ref (adr t)) n4))) p Kd Dn Lk [] adr rowf [] := (sb_new bk0 eLk).same s14
    have s1214 := s13.trans s14
    have hS12 : H12 S = none := s13.free hS
    generalize upd H13 S (.dK (kvE (fun t => .ref (adr t)) n4)) = H14 at eS sb0 s1214
    clear s14 s13 bk0 eLk keep0 ekv hS tal
    refine ⟨S, _, eS, trivial, fun od => ?_⟩
    have sL : ∀ c o, c ≠ S → H14 c = some o → upd H14 S (.frz od (.dK (kvE (fun t => .ref (adr t)) n4))) c = some o := fun c o n e => by
      rw [upd_ne n]
      exact e
    have eSL : upd H14 S (.frz od (.dK (kvE (fun t => .ref (adr t)) n4))) S = some (.frz od (.dK (kvE (fun t => .ref (adr t)) n4))) := upd_same
    have tL : TupsStay H14 (upd H14 S (.frz od (.dK (kvE (fun t => .ref (adr t)) n4)))) := fun x xs e => sL x _ (ne_of e eS (fun z => nomatch z)) e
    have sbL : SB P w C (upd H14 S (.frz od (.dK (kvE (fun t => .ref (adr t)) n4)))) p Kd Dn Lk [] adr rowf [] := sb0.stay (fun c o z e => sL c o (by rcases z with rfl | rfl | rfl | rfl <;> first | exact nSp.symm | exact nSK.symm | exact nSD.symm | exact nSL.symm) e) tL
    have sL12 : ∀ c o, H12 c = some o → upd H14 S (.frz od (.dK (kvE (fun t => .ref (adr t)) n4))) c = some o := fun c o e => sL c o (ne_of_none e hS12) (s1214 _ _ e)
    generalize upd H14 S (.frz od (.dK (kvE (fun t => .ref (adr t)) n4))) = HL at sbL eSL sL12
    clear sL tL sb0 s1214 eS
    refine ⟨.ref S, rfl, S, od, rfl, .inl ⟨_, eSL, for_it (walk_keys (d := S) (o := od) (kvs := kvE (fun t => .ref (adr t)) n4)) (fun i σ H5 => ∃ (y9 : Option V) (dn : List Dn1), σ = [some (.ref a), some (.str x), some (.int (1 + z2)), some (.ref R1_), some (.ref R2_), some (.ref Z), some (.ref Zt), some (.ref p), some (.ref S), y9, none] ∧ SB P w C H5 p Kd Dn Lk (n4.take i) adr rowf dn ∧ dn.length = i ∧ H5 S = some (.frz od (.dK (kvE (fun t => .ref (adr t)) n4))) ∧ ∀ c o, H12 c = some o → H5 c = some o)
      ⟨none, [], rfl, sbL, rfl, eSL, sL12⟩ (fun i σ H5 _ hp => ?_) (fun i y σ H5 H6 hi hp hy => ?_) (fun σ H5 hp => ?_)⟩⟩
    · obtain ⟨_, _, _, _, _, e, _⟩ := hp
      exact e
    · obtain ⟨y9, dn, rfl, sb, dl, eS5, s5⟩ := hp
      obtain ⟨rfl, k0, v, hk, rfl⟩ := hy
      rw [kvE_len] at hi
      have hi4 : i < 4 := hi
      have hni : n4[i]? = some n4[i] := List.getElem?_eq_getElem hi
      obtain ⟨t, ht⟩ : ∃ t, t = n4[i] := ⟨_, rfl⟩
      rw [← ht] at hni
      have htm : t ∈ n4 := List.mem_of_getElem? hni
      unfold kvE at hk
      rw [List.getElem?_map, hni] at hk
      obtain ⟨rfl, rfl⟩ := Prod.mk.inj (Option.some.inj hk)
      have tk : n4.take (i + 1) = n4.take i ++ [t] := by rw [List.take_add_one, hni]; rfl
      have nin : t ∉ n4.take i := fun z => by
        have nd := n4_nd.sublist (List.take_sublist (i + 1) n4)
        rw [tk] at nd
        exact (List.nodup_append.mp nd).2.2 t z t (List.mem_singleton_self t) rfl
      have hR : RwAt H6 (adr t) (rowf t) := TupsStay.row (fun b xs e => s5 b _ e) (hrows t htm).1
      have okr := (hrows t htm).2
      obtain ⟨dx5, ob5⟩ := id sb.bk.ob
      have tl : (n4.take i).length ≤ i := by rw [List.length_take]; omega
      have dg : DGet H6 S (.str t) (some (.ref (adr t))) := .inl ⟨_, Sum.inr t, .inr ⟨od, eS5⟩, rfl, by rw [kvE_val, if_pos htm]⟩
      refine ⟨.ref p, rfl, p, dx5, _, rfl, ob5, bF_no _ _ _ (by decide +kernel) (by decide +kernel) (by decide +kernel), .str t, rfl, .ref S, rfl, .str t, rfl, S, .ref (adr t), rfl, dg, p, Kd, Dn, Lk, adr t, _, dn, t, none, noN, rowD (rowf t).m (rowf t).ds (rowf t).o, 459, 3, rfl, sb.bk, by omega, by rw [kvE_len]; omega, n4_nm t htm, any_row hR, nc_row okr, by decide, rowA_ok okr, by rw [kvE_val, if_neg nin]; rfl, fun H7 bk7 kp7 => ?_⟩
      have sb7 := sb.told nin (n4_nm t htm) (by omega) (by omega) hR okr bk7 kp7
      rw [upF_self, upF_self, ← tk] at sb7
      exact ⟨_, _, rfl, sb7, by rw [List.length_append, dl]; rfl, kp7 _ _ nSK nSD eS5, fun c o e => kp7 _ _ (ne_of_none e nKd) (ne_of_none e nDn) (s5 _ _ e)⟩
    obtain ⟨y9, dn, rfl, sb, dl, eS5, s5⟩ := hp
    refine ⟨eS5, ?_⟩
    rw [kvE_len] at sb
    have sb : SB P w C H5 p Kd Dn Lk n4 adr rowf dn := sb
    have k6 : ∀ c o, c ≠ S → H5 c = some o → upd H5 S (.dK (kvE (fun t => .ref (adr t)) n4)) c = some o := fun c o n e => by
      rw [upd_ne n]
      exact e
    have eS6 : upd H5 S (.dK (kvE (fun t => .ref (adr t)) n4)) S = some (.dK (kvE (fun t => .ref (adr t)) n4)) := upd_same
    have sb6 : SB P w C (upd H5 S (.dK (kvE (fun t => .ref (adr t)) n4))) p Kd Dn Lk n4 adr rowf dn := sb.stay (fun c o z e => k6 c o (by rcases z with rfl | rfl | rfl | rfl <;> first | exact nSp.symm | exact nSK.symm | exact nSD.symm | exact nSL.symm) e) (fun x xs e => k6 x _ (ne_of e eS5 (fun z => nomatch z)) e)
    have s126 : Same H12 (upd H5 S (.dK (kvE (fun t => .ref (adr t)) n4))) := fun c o e => k6 c o (ne_of_none e hS12) (s5 _ _ e)
    generalize upd H5 S (.dK (kvE (fun t => .ref (adr t)) n4)) = H6 at sb6 s126 eS6
    clear k6 sb eS5 s5 sbL eSL sL12
    refine ⟨.ref p, rfl, p, Kd, Dn, Lk, dn, n4, adr, rowf, 64, rfl, sb6.bk, sb6.lk, n4_nd, by decide, sb6.rw, fun H7 Fd D pl ns pn eF hal hFd bk7 lk7 keep7 => ?_⟩
    have npH : ∀ {x o}, H12 x = some o → x ≠ p := fun e => ne_of_none e np
    have s127 : Same H12 H7 := fun c o e => keep7 c o (npH e) (s126 _ _ e)
    have eS7 := keep7 _ _ nSp eS6
    have dg : ∀ t ∈ n4, DGet H7 Fd (.str t) (some (.int (pl t : Int))) := fun t ht => by
      have := DGet.k (k := Sum.inr t) eF
      rw [kvE_val, if_pos (pn.mem_iff.mpr ht)] at this
      exact this
    have epl : pl "long" = pl "twin" := (hal "long" (by decide +kernel) "twin" (by decide +kernel)).mpr hlt
    refine ⟨.ref Fd, rfl, rfl, true, rfl, iteT ?_⟩
    refine ⟨.ref Fd, rfl, Fd, _, rfl, dg "long" (by decide +kernel), .ref Fd, rfl, Fd, _, rfl, dg "twin" (by decide +kernel), rfl, true, ?_, iteT ?_⟩
    · show V.bl (decide (V.int (pl "long" : Int) = V.int (pl "twin" : Int))) = .bl true
      rw [epl, decide_eq_true rfl]
    refine ⟨.ref p, rfl, .ref S, rfl, p, S, Kd, Dn, D, dn, n4, n4, adr, rowf, 64, rfl, bk7, lk7, eS7, .refl _, n4_nd, by decide, fun t ht => name_tx (n4_nm t ht), fun t ht => ⟨(Same.tups s127).row (hrows t ht).1, (hrows t ht).2⟩, fun H8 D8 bk8 lk8 keep8 => ?_⟩
    have s128 : Same H12 H8 := fun c o e => keep8 c o (npH e) (s127 _ _ e)
    exact qq H8 (w12.same s128) (k12.trans (Same.kp s128))
/-! ### _law_names: seven, each another -/
def Lt (t : Str) : Prop := ∀ c ∈ t.cps.toList, isLet c = true
theorem lt_cut {t : Str} (h : Lt t) (lo hi : Option Int) : Lt (cutS t lo hi) := fun c hc => by
  have hc' : c ∈ ((t.cps.toList.drop (HT.sIx t.length 0 lo)).take (HT.sIx t.length t.length hi - HT.sIx t.length 0 lo)).toArray.toList := hc
  rw [List.toList_toArray] at hc'
  exact h c (List.mem_of_mem_drop (List.mem_of_mem_take hc'))
theorem lt_app {a b : Str} (h : Lt a) (k : Lt b) : Lt (a ++ b) := fun c hc => by
  have hc' : c ∈ (a.cps ++ b.cps).toList := hc
  rw [Array.toList_append] at hc'
  exact (List.mem_append.mp hc').elim (h c) (k c)
theorem cut_len (t : Str) (lo hi : Option Int) : (cutS t lo hi).length = min (HT.sIx t.length t.length hi - HT.sIx t.length 0 lo) (t.length - HT.sIx t.length 0 lo) := by
  show ((t.cps.toList.drop (HT.sIx t.length 0 lo)).take (HT.sIx t.length t.length hi - HT.sIx t.length 0 lo)).toArray.size = _
  rw [List.size_toArray, List.length_take, List.length_drop]
  rfl
theorem name_of {t : Str} (h : Lt t) (h1 : 1 ≤ t.length) (h8 : t.length ≤ 8) : nameS t = true := by
  unfold nameS
  rw [decide_eq_true ⟨h1, h8⟩, Bool.true_and]
  exact List.all_eq_true.mpr h
theorem let_len : letS.length = 26 := by decide +kernel
theorem lt_let {i : Nat} (h : i < letS.cps.size) : Lt ⟨#[letS.cps[i]]⟩ := fun c hc => by
  have hc' : c ∈ [letS.cps[i]] := hc
  rw [List.mem_singleton.mp hc']
  exact decide_eq_true (Array.getElem_mem_toList h)
theorem join_nil (ys : List Str) : (Txt.join "" ys).cps.toList = (ys.map fun y => y.cps.toList).flatten := by
  have h : TL.tl (Txt.join "" ys) = TL.joinL (TL.tl "") (ys.map TL.tl) := by rw [TL.join_eq, TL.tl_join]
  have e0 : TL.tl "" = [] := by decide +kernel
  rw [e0] at h
  have key : ∀ l : List (List Nat), TL.joinL [] l = l.flatten := by
    intro l
    induction l with
    | nil => rfl
    | cons p r ih =>
      cases r with
      | nil => show p = _; simp
      | cons q r => show p ++ ([] ++ TL.joinL [] (q :: r)) = _; rw [ih]; simp
  rw [key] at h
  exact h
theorem join_ones {ys : List Str} (h1 : ∀ y ∈ ys, y.length = 1) (h2 : ∀ y ∈ ys, Lt y) : (Txt.join "" ys).length = ys.length ∧ Lt (Txt.join "" ys) := by
  have e := join_nil ys
  refine ⟨?_, fun c hc => ?_⟩
  · have : (Txt.join "" ys).length = (Txt.join "" ys).cps.toList.length := by simp [Str.length]
    rw [this, e, List.length_flatten, List.map_map]
    clear e this
    induction ys with
    | nil => rfl
    | cons y ys ih =>
      rw [List.map_cons, List.sum_cons, ih (fun z hz => h1 z (List.mem_cons_of_mem _ hz)) (fun z hz => h2 z (List.mem_cons_of_mem _ hz)), List.length_cons]
      have : y.cps.toList.length = 1 := by
        have := h1 y List.mem_cons_self
        simpa [Str.length] using this
      show y.cps.toList.length + _ = _
      omega
  · rw [e] at hc
    obtain ⟨l, hl, hc⟩ := List.mem_flatten.mp hc
    obtain ⟨y, hy, rfl⟩ := List.mem_map.mp hl
    exact h2 y hy c hc
theorem nd_key {β : Type} (key : Str → β) (f : Nat → β) (inj : ∀ i j, i < 7 → j < 7 → f i = f j → i = j) {ns : List Str} (hl : ns.length = 7) (h : ∀ (j : Nat) (t : Str), ns[j]? = some t → key t = f j) : ns.Nodup := by
  refine List.pairwise_iff_getElem.mpr fun i j hi hj hij e => ?_
  have h1 := h i _ (List.getElem?_eq_getElem hi)
  have h2 := h j _ (List.getElem?_eq_getElem hj)
  rw [e, h2] at h1
  have := inj j i (by omega) (by omega) h1
  omega
theorem key_snoc {β : Type} {key : Str → β} {f : Nat → β} {ns : List Str} {t : Str} {i : Nat} (hl : ns.length = i) (h : ∀ (j : Nat) (t : Str), ns[j]? = some t → key t = f j) (ht : key t = f i) : ∀ (j : Nat) (s : Str), (ns ++ [t])[j]? = some s → key s = f j := fun j s hs => by
  by_cases hj : j < ns.length
  · rw [List.getElem?_append_left hj] at hs
    exact h j s hs
  · rw [List.getElem?_append_right (by omega)] at hs
    have hj2 : j - ns.length = 0 := by
      have := (List.getElem?_eq_some_iff.mp hs).1
      simp at this
      omega
    rw [hj2] at hs
    have ej : j = i := by omega
    rw [← Option.some.inj hs, ej]
    exact ht
theorem at_mid {x y : Str} {c n : Nat} (h : x.length = n) : ((x ++ (⟨#[c]⟩ : Str) ++ y).cps.toList).getD n 0 = c := by
  have e : (x ++ (⟨#[c]⟩ : Str) ++ y).cps.toList = x.cps.toList ++ c :: y.cps.toList := by
    show ((x.cps ++ #[c]) ++ y.cps).toList = _
    rw [Array.toList_append, Array.toList_append, List.append_assoc]
    rfl
  have hl : x.cps.toList.length = n := by
    rw [Array.length_toList]
    exact h
  rw [e, List.getD_eq_getElem?_getD, List.getElem?_append_right (by omega), hl, Nat.sub_self]
  rfl
theorem let_nd : letS.cps.toList.Nodup := by decide +kernel
def spNm : Sp := fun vs H Q _ => ∃ a c : Addr, vs = [.ref a] ∧ WL H a c ∧ ∀ (H' : Hp) (L : Addr) (ns : List Str), H' L = some (.lst (ns.map V.str)) → ns.length = 7 → (∀ t ∈ ns, nameS t = true) → ns.Nodup → L ≠ a → L ≠ c → WL H' a c → Kp a c H H' → Q (.ref L) H'
set_option maxHeartbeats 1000000 in
theorem ok_nm {f fD : Addr} {fd fdD : FuncData} {k : Nat} (F : Fun K "_law_names" "_law_names" s_law_names f fd)
    (GD : FnOk P w K mg base CX0 (k + 1) fD fdD ["well", "many"] spDraw) (kD : PySem.W.keepIn K (.ref fD) = true) (bD : Binds K fdD ["well", "many"] []) (gD : mg "_law_draw" = some (.ref fD))
    (mr : mg "range" = none) (mn : mg "len" = none)
    : FnOk P w K mg base CX0 (k + 2) f fd ["well"] spNm := by
  refine F.ok sc_law_names (fun vs H Q E h => ?_) (fun cdv A outer s H vs Q E hr h => ?_)
  · obtain ⟨a, c, rfl, _⟩ := h
    rfl
  · obtain ⟨a, c, rfl, hw, q⟩ := h
    refine ⟨_, pss_cons (ps_set (i := 1) sc_law_names.nd rfl (.inl rfl) (pe_call GD hr (by rfl) gD kD bD .nil pass0 (pa_cons (pv 0) (pa_cons pe_int pa_nil))))
    (pss_cons (ps_set (i := 2) sc_law_names.nd rfl (.inr rfl) pe_str)
    (pss_cons (ps_if (pt_cmpR op_eq (pv 1) pe_int (nomark _)) (pss_one (ps_ret (pe_lst (pa_cons pe_str (pa_cons pe_str (pa_cons pe_str (pa_cons pe_str (pa_cons pe_str (pa_cons pe_str (pa_cons pe_str pa_nil)))))))))) pss_nil)
    (pss_cons (ps_set (i := 3) sc_law_names.nd rfl (.inr rfl) (pe_join pe_str (pe_lc (own := [("k", 6)]) (g := gName 6) (by rfl) sc_law_names.nd (pi_range1 (by rfl) mr (pa_cons pe_int pa_nil)) (blkOk_by (own := [("k", 6)]) (N := N_law_names) (sc := defScope s_law_names) (by decide +kernel)) (fun _ _ _ _ _ => pg_name (i := 6) sc_law_names.nd rfl (Or.inl rfl)) (fun _ _ _ _ _ => pts_nil) (fun _ _ _ _ _ => pe_item_str (pv 2) (pe_call GD hr (by rfl) gD kD bD .nil pass0 (pa_cons (pv 0) (pa_cons pe_int pa_nil))) (fun _ _ => rfl)))))
    (pss_cons (ps_set (i := 4) sc_law_names.nd rfl (.inr rfl) (pe_call GD hr (by rfl) gD kD bD .nil pass0 (pa_cons (pv 0) (pa_cons pe_int pa_nil))))
    (pss_cons (ps_if (pt_cmpR op_eq (pv 1) pe_int (nomark _)) (pss_one (ps_ret (pe_lc (own := [("k", 6)]) (g := gName 6) (by rfl) sc_law_names.nd (pi_range1 (by rfl) mr (pa_cons pe_int pa_nil)) (blkOk_by (own := [("k", 6)]) (N := N_law_names) (sc := defScope s_law_names) (by decide +kernel)) (fun _ _ _ _ _ => pg_name (i := 6) sc_law_names.nd rfl (Or.inl rfl)) (fun _ _ _ _ _ => pts_nil) (fun _ _ _ _ _ => pe_slice sl_str (pv 3) po_none (po_some (pe_op op_add (pv 6) pe_int)))))) pss_nil)
    (pss_cons (ps_if (pt_cmpR op_eq (pv 1) pe_int (nomark _)) (pss_one (ps_ret (pe_lc (own := [("k", 6)]) (g := gName 6) (by rfl) sc_law_names.nd (pi_range1 (by rfl) mr (pa_cons pe_int pa_nil)) (blkOk_by (own := [("k", 6)]) (N := N_law_names) (sc := defScope s_law_names) (by decide +kernel)) (fun _ _ _ _ _ => pg_name (i := 6) sc_law_names.nd rfl (Or.inl rfl)) (fun _ _ _ _ _ => pts_nil) (fun _ _ _ _ _ => pe_slice sl_str (pv 3) (po_some (pv 6)) po_none)))) pss_nil)
    (pss_cons (ps_set (i := 3) sc_law_names.nd rfl (.inr rfl) (pe_slice sl_str (pv 3) po_none (po_some (pe_op op_add pe_int (pe_call GD hr (by rfl) gD kD bD .nil pass0 (pa_cons (pv 0) (pa_cons pe_int pa_nil)))))))
    (pss_cons (ps_set (i := 5) sc_law_names.nd rfl (.inr rfl) (pe_call GD hr (by rfl) gD kD bD .nil pass0 (pa_cons (pv 0) (pa_cons (pe_callB call_len_str (by rfl) mn PySem.boot_len (pa_cons (pv 3) pa_nil)) pa_nil))))
    (pss_one (ps_ret (pe_lc (own := [("k", 6)]) (g := gName 6) (by rfl) sc_law_names.nd (pi_range1 (by rfl) mr (pa_cons pe_int pa_nil)) (blkOk_by (own := [("k", 6)]) (N := N_law_names) (sc := defScope s_law_names) (by decide +kernel)) (fun _ _ _ _ _ => pg_name (i := 6) sc_law_names.nd rfl (Or.inl rfl)) (fun _ _ _ _ _ => pts_nil) (fun _ _ _ _ _ => pe_op op_add_str (pe_op op_add_str (pe_slice sl_str (pv 3) po_none (po_some (pv 5))) (pe_item_str (pv 2) (pe_op op_mod (pe_op op_add (pv 4) (pe_op op_mul pe_int (pv 6))) pe_int) (fun _ _ => rfl))) (pe_slice sl_str (pv 3) (po_some (pe_op op_add (pv 5) pe_int)) po_none))))))))))))), ?_⟩
    refine ⟨.ref a, rfl, a, c, 4, rfl, by decide, by decide, hw, fun H1 wy wy0 wy1 w1 k1 => ?_⟩
    refine ⟨.int wy, rfl, rfl, _, rfl, ite2 (fun h3 => ?_) (fun h3 => ?_)⟩
    · refine ⟨(by show 7 ≤ sizeLine; decide), fun L hL => ?_⟩
      obtain ⟨n1, n2⟩ := w1.ne_new hL
      exact q _ L ["tell", "forget", "back", "none", "kinds", "in", "out"] upd_same rfl (by decide +kernel) (by decide +kernel) n1 n2 (w1.upd n1 n2) (k1.trans (Same.kp (same_new hL)))
    refine ⟨⟨_, rfl⟩, 8, rfl, by decide, by decide, fun C hC => ?_⟩
    obtain ⟨nCa, nCc⟩ := w1.ne_new hC
    have sC0 := same_new (o := .lst []) hC
    refine lc_range (lo := 0) (n := 8) (fun i H4 => ∃ ys : List Str, H4 C = some (.lst (ys.map V.str)) ∧ ys.length = i ∧ (∀ y ∈ ys, y.length = 1) ∧ (∀ y ∈ ys, Lt y) ∧ WL H4 a c ∧ Kp a c H1 H4) ⟨[], upd_same, rfl, (fun _ z => nomatch z), (fun _ z => nomatch z), w1.upd nCa nCc, Same.kp sC0⟩ (fun i H4 hi hp => ?_) (fun H4 hp => ?_)
    · obtain ⟨ys, eC, hyl, hy1, hy2, w4, k4⟩ := hp
      refine ⟨rfl, .str letS, rfl, .ref a, rfl, a, c, 26, rfl, by decide, by decide, w4, fun H5 z z0 z1 w5 k5 => ?_⟩
      have hz : z.toNat < letS.cps.size := by
        have : letS.cps.size = 26 := let_len
        omega
      refine ⟨letS, z, _, rfl, rfl, z0, by omega, by rw [let_len]; exact z1, Array.getElem?_eq_getElem hz, _, k5 _ _ nCa nCc eC, by rw [List.length_map, hyl, sizeLine_eq]; omega, ys ++ [⟨#[letS.cps[z.toNat]]⟩], ?_, by rw [List.length_append, hyl]; rfl, ?_, ?_, w5.upd nCa nCc, ?_⟩
      · rw [upd_same, List.map_append]
        rfl
      · intro y hy
        rcases List.mem_append.mp hy with hy | hy
        · exact hy1 y hy
        · rw [List.mem_singleton.mp hy]
          rfl
      · intro y hy
        rcases List.mem_append.mp hy with hy | hy
        · exact hy2 y hy
        · rw [List.mem_singleton.mp hy]
          exact lt_let hz
      · intro b o n1 n2 e
        rw [upd_ne (ne_of_none e hC)]
        exact k5 b o n1 n2 (k4 b o n1 n2 e)
    obtain ⟨ys, eC, hyl, hy1, hy2, w4, k4⟩ := hp
    obtain ⟨jl, jt⟩ := join_ones hy1 hy2
    refine ⟨"", C, ys, rfl, rfl, .inl (.inl (.inl eC)), ?_, ?_⟩
    · have e0 : (ys.map (·.length)).sum = ys.length := by
        clear eC hyl hy2 jl jt
        induction ys with
        | nil => rfl
        | cons y ys ih =>
          rw [List.map_cons, List.sum_cons, ih fun z hz => hy1 z (List.mem_cons_of_mem _ hz), List.length_cons, hy1 y List.mem_cons_self]
          omega
      have e1 : (Str.ofString "").length = 0 := by decide +kernel
      rw [e0, hyl]
      show 8 + 8 * (Str.ofString "").length ≤ _
      rw [e1]
      decide
    rw [hyl] at jl
    generalize Txt.join "" ys = W at jl jt
    have hW : W.length ≤ sizeLine := by rw [sizeLine_eq]; omega
    refine ⟨.ref a, rfl, a, c, 26, rfl, by decide, by decide, w4, fun H5 tu tu0 tu1 w5 k5 => ?_⟩
    have k15 := (k1.trans k4).trans k5
    have fin : ∀ (H6 : Hp) (L : Addr) (ns : List Str), H5 L = none → H6 = upd H5 L (.lst (ns.map V.str)) → ns.length = 7 → (∀ t ∈ ns, nameS t = true) → ns.Nodup → Q (.ref L) H6 := fun H6 L ns hL e h7 hn nd => by
      obtain ⟨n1, n2⟩ := w5.ne_new hL
      rw [e]
      exact q _ L ns upd_same h7 hn nd n1 n2 (w5.upd n1 n2) (k15.trans (Same.kp (same_new hL)))
    refine ⟨.int wy, rfl, rfl, _, rfl, ite2 (fun h0 => ?_) (fun h0 => ?_)⟩
    · refine ⟨7, rfl, by decide, by decide, fun L hL => ?_⟩
      refine lc_range (lo := 0) (n := 7) (fun i H6 => ∃ ns : List Str, H6 = upd H5 L (.lst (ns.map V.str)) ∧ ns.length = i ∧ (∀ t ∈ ns, nameS t = true) ∧ ∀ (j : Nat) (t : Str), ns[j]? = some t → t.length = j + 1) ⟨[], rfl, rfl, (fun _ z => nomatch z), fun j t z => by cases z⟩ (fun i H6 hi hp => ?_) (fun H6 hp => ?_)
      · obtain ⟨ns, rfl, hl, hn, hkey⟩ := hp
        refine ⟨rfl, .str W, rfl, .int (0 + (i : Int)), rfl, 0 + (i : Int), 1, rfl, rfl, 0 + (i : Int) + 1, rfl, W, rfl, hW, ns.map V.str, upd_same, by rw [List.length_map, hl, sizeLine_eq]; omega, ns ++ [cutS W none (some (0 + (i : Int) + 1))], ?_, by rw [List.length_append, hl]; rfl, ?_⟩
        · rw [upd_upd, List.map_append]
          rfl
        · refine ⟨fun t ht => ?_, key_snoc (key := fun t => t.length) (f := fun j => j + 1) hl hkey ?_⟩
          rotate_left
          · have e := cut_len W none (some (0 + (i : Int) + 1))
            have e1 : (0 + (i : Int) + 1) = ((i + 1 : Nat) : Int) := by omega
            rw [e1, HT.sIx_none, HT.sIx_nat, jl] at e
            show (cutS W none (some (0 + (i : Int) + 1))).length = i + 1
            rw [e1, e]
            omega
          rcases List.mem_append.mp ht with ht | ht
          · exact hn t ht
          · rw [List.mem_singleton.mp ht]
            have e := cut_len W none (some (0 + (i : Int) + 1))
            have e1 : (0 + (i : Int) + 1) = ((i + 1 : Nat) : Int) := by omega
            rw [e1, HT.sIx_none, HT.sIx_nat, jl] at e
            refine name_of (lt_cut jt _ _) ?_ ?_ <;> rw [e1, e] <;> omega
      · obtain ⟨ns, e, hl, hn, hkey⟩ := hp
        exact fin H6 L ns hL e hl hn (nd_key (fun t => t.length) _ (fun i j _ _ z => by omega) hl hkey)
    refine ⟨.int wy, rfl, rfl, _, rfl, ite2 (fun h1 => ?_) (fun h1 => ?_)⟩
    · refine ⟨7, rfl, by decide, by decide, fun L hL => ?_⟩
      refine lc_range (lo := 0) (n := 7) (fun i H6 => ∃ ns : List Str, H6 = upd H5 L (.lst (ns.map V.str)) ∧ ns.length = i ∧ (∀ t ∈ ns, nameS t = true) ∧ ∀ (j : Nat) (t : Str), ns[j]? = some t → t.length = 8 - j) ⟨[], rfl, rfl, (fun _ z => nomatch z), fun j t z => by cases z⟩ (fun i H6 hi hp => ?_) (fun H6 hp => ?_)
      · obtain ⟨ns, rfl, hl, hn, hkey⟩ := hp
        refine ⟨rfl, .str W, rfl, .int (0 + (i : Int)), rfl, 0 + (i : Int), rfl, W, rfl, hW, ns.map V.str, upd_same, by rw [List.length_map, hl, sizeLine_eq]; omega, ns ++ [cutS W (some (0 + (i : Int))) none], ?_, by rw [List.length_append, hl]; rfl, ?_⟩
        · rw [upd_upd, List.map_append]
          rfl
        · refine ⟨fun t ht => ?_, key_snoc (key := fun t => t.length) (f := fun j => 8 - j) hl hkey ?_⟩
          rotate_left
          · have e := cut_len W (some (0 + (i : Int))) none
            have e1 : (0 + (i : Int)) = ((i : Nat) : Int) := by omega
            rw [e1, HT.sIx_none, HT.sIx_nat, jl] at e
            show (cutS W (some (0 + (i : Int))) none).length = 8 - i
            rw [e1, e]
            omega
          rcases List.mem_append.mp ht with ht | ht
          · exact hn t ht
          · rw [List.mem_singleton.mp ht]
            have e := cut_len W (some (0 + (i : Int))) none
            have e1 : (0 + (i : Int)) = ((i : Nat) : Int) := by omega
            rw [e1, HT.sIx_none, HT.sIx_nat, jl] at e
            refine name_of (lt_cut jt _ _) ?_ ?_ <;> rw [e1, e] <;> omega
      · obtain ⟨ns, e, hl, hn, hkey⟩ := hp
        exact fin H6 L ns hL e hl hn (nd_key (fun t => t.length) _ (fun i j _ _ z => by omega) hl hkey)
    refine ⟨.str W, rfl, .ref a, rfl, a, c, 8, rfl, by decide, by decide, w5, fun H6 g g0 g1 w6 k6 => ⟨1, g, rfl, rfl, 1 + g, rfl, W, rfl, hW, ?_⟩⟩
    have eW2 := cut_len W none (some (1 + g))
    have lW2 : Lt (cutS W none (some (1 + g))) := lt_cut jt _ _
    have e1 : (1 + g) = (((1 + g).toNat : Nat) : Int) := by omega
    rw [e1, HT.sIx_none, HT.sIx_nat, jl, ← e1] at eW2
    generalize cutS W none (some (1 + g)) = W2 at eW2 lW2
    have hW2 : W2.length ≤ sizeLine := by rw [sizeLine_eq]; omega
    refine ⟨.ref a, rfl, .str W2, rfl, W2, rfl, hW2, a, c, _, rfl, by omega, by omega, w6, fun H7 at_ at0 at1 w7 k7 => ?_⟩
    have k17 := (k15.trans k6).trans k7
    refine ⟨7, rfl, by decide, by decide, fun L hL => ?_⟩
    refine lc_range (lo := 0) (n := 7) (fun i H8 => ∃ ns : List Str, H8 = upd H7 L (.lst (ns.map V.str)) ∧ ns.length = i ∧ (∀ t ∈ ns, nameS t = true) ∧ ∀ (j : Nat) (t : Str), ns[j]? = some t → t.cps.toList.getD at_.toNat 0 = letS.cps.toList.getD ((tu + 3 * (0 + (j : Int))) % 26).toNat 0) ⟨[], rfl, rfl, (fun _ z => nomatch z), fun j t z => by cases z⟩ (fun i H8 hi hp => ?_) (fun H8 hp => ?_)
    · obtain ⟨ns, rfl, hl, hn, hkey⟩ := hp
      have c1 := cut_len W2 none (some at_)
      have c2 := cut_len W2 (some (at_ + 1)) none
      have ea : at_ = ((at_.toNat : Nat) : Int) := by omega
      have ea1 : at_ + 1 = ((at_.toNat + 1 : Nat) : Int) := by omega
      rw [HT.sIx_none, ea, HT.sIx_nat, ← ea] at c1
      rw [HT.sIx_none, ea1, HT.sIx_nat, ← ea1] at c2
      have i0 : 0 ≤ (tu + 3 * (0 + (i : Int))) % 26 := Int.emod_nonneg _ (by decide)
      have i1 : (tu + 3 * (0 + (i : Int))) % 26 < 26 := Int.emod_lt_of_pos _ (by decide)
      have hz : ((tu + 3 * (0 + (i : Int))) % 26).toNat < letS.cps.size := by
        have : letS.cps.size = 26 := let_len
        omega
      have l1 : (⟨#[letS.cps[((tu + 3 * (0 + (i : Int))) % 26).toNat]]⟩ : Str).length = 1 := rfl
      have al : ∀ x y : Str, (x ++ y).length = x.length + y.length := fun x y => by
        show (x.cps ++ y.cps).size = _
        rw [Array.size_append]
        rfl
      refine ⟨rfl, .str W2, rfl, .int at_, rfl, at_, rfl, W2, rfl, hW2, .str letS, rfl, .int tu, rfl, .int (0 + (i : Int)), rfl, 3, 0 + (i : Int), rfl, rfl, ?_, tu, 3 * (0 + (i : Int)), rfl, rfl, tu + 3 * (0 + (i : Int)), 26, rfl, rfl, (by show (0 : Int) < 26; decide), letS, (tu + 3 * (0 + (i : Int))) % 26, _, rfl, rfl, i0, by omega, by rw [let_len]; exact i1, Array.getElem?_eq_getElem hz, _, _, rfl, rfl, ?_, .str W2, rfl, .int at_, rfl, at_, 1, rfl, rfl, at_ + 1, rfl, W2, rfl, hW2, _, _, rfl, rfl, ?_, ns.map V.str, upd_same, by rw [List.length_map, hl, sizeLine_eq]; omega, ns ++ [cutS W2 none (some at_) ++ ⟨#[letS.cps[((tu + 3 * (0 + (i : Int))) % 26).toNat]]⟩ ++ cutS W2 (some (at_ + 1)) none], ?_, by rw [List.length_append, hl]; rfl, ?_⟩
      · exact .inl ⟨by decide, by decide⟩
      · rw [l1, sizeLine_eq]
        omega
      · rw [al, l1, sizeLine_eq]
        omega
      · rw [upd_upd, List.map_append]
        rfl
      · refine ⟨fun t ht => ?_, key_snoc (key := fun t => t.cps.toList.getD at_.toNat 0) (f := fun j => letS.cps.toList.getD ((tu + 3 * (0 + (j : Int))) % 26).toNat 0) hl hkey ?_⟩
        rotate_left
        · show ((cutS W2 none (some at_) ++ (⟨#[letS.cps[((tu + 3 * (0 + (i : Int))) % 26).toNat]]⟩ : Str) ++ cutS W2 (some (at_ + 1)) none).cps.toList).getD at_.toNat 0 = _
          rw [at_mid (by rw [c1]; omega), List.getD_eq_getElem?_getD, Array.getElem?_toList, Array.getElem?_eq_getElem hz]
          rfl
        rcases List.mem_append.mp ht with ht | ht
        · exact hn t ht
        · rw [List.mem_singleton.mp ht]
          refine name_of (lt_app (lt_app (lt_cut lW2 _ _) (lt_let hz)) (lt_cut lW2 _ _)) ?_ ?_ <;> rw [al, al, l1] <;> omega
    · obtain ⟨ns, e, hl, hn, hkey⟩ := hp
      obtain ⟨n1, n2⟩ := w7.ne_new hL
      rw [e]
      have nd : ns.Nodup := nd_key (fun t => t.cps.toList.getD at_.toNat 0) (fun j => letS.cps.toList.getD ((tu + 3 * (0 + (j : Int))) % 26).toNat 0) (fun i j hi hj z => by
        have ll : letS.cps.toList.length = 26 := let_len
        have b1 : ((tu + 3 * (0 + (i : Int))) % 26).toNat < letS.cps.toList.length := by omega
        have b2 : ((tu + 3 * (0 + (j : Int))) % 26).toNat < letS.cps.toList.length := by omega
        have z' : letS.cps.toList.getD ((tu + 3 * (0 + (i : Int))) % 26).toNat 0 = letS.cps.toList.getD ((tu + 3 * (0 + (j : Int))) % 26).toNat 0 := z
        rw [List.getD_eq_getElem?_getD, List.getD_eq_getElem?_getD, List.getElem?_eq_getElem b1, List.getElem?_eq_getElem b2] at z'
        have e2 := (List.getElem_inj let_nd).mp z'
        omega) hl hkey
      exact q _ L ns upd_same hl hn nd n1 n2 (w7.upd n1 n2) (k17.trans (Same.kp (same_new hL)))
/-! ### one sign, eight times -/
def rStr8 : R2 := fun x y H Q => ∃ c : Nat, x = .str ⟨#[c]⟩ ∧ y = .int 8 ∧ Q (.str ⟨#[c, c, c, c, c, c, c, c]⟩) H
theorem op_str8 {X : Cx} : OpR X (binaryOp .Mult) rStr8 := by
  intro pins s σ H x y v u Q I rx ry h
  obtain ⟨c, rfl, rfl, q⟩ := h
  obtain ⟨t, rfl⟩ := rx
  obtain ⟨t', rfl⟩ := ry
  refine PySem.P.mul_str (x := ⟨#[c]⟩) (n := 8) (by decide) (fun _ _ => by show ¬ ((1 : Int) > (2 ^ 63 - 1) / 8); decide) (fun _ _ => by show Builtin.Str.tooLong (1 * (8 : Int).toNat) = false; decide +kernel) ?_
  rw [if_neg (by decide), if_neg (by show ¬ (((8 : Int) == 1) || ((1 : Nat) == 0)) = true; decide)]
  have e : (List.replicate (Int.toNat 8) (#[c] : Array Nat)).foldl (fun x1 x2 => x1 ++ x2) #[] = #[c, c, c, c, c, c, c, c] := rfl
  rw [show (List.replicate (Int.toNat 8) (⟨#[c]⟩ : Str).cps).foldl (fun x1 x2 => x1 ++ x2) #[] = #[c, c, c, c, c, c, c, c] from e]
  exact ⟨by show 8 ≤ sizeLine; decide, .str ⟨#[c, c, c, c, c, c, c, c]⟩, H, I.tok _, ⟨_, rfl⟩, q⟩
theorem eight_name {c : Nat} {j : Nat} (h : (("abcdefgh" : Str).cps)[j]? = some c) : nameS ⟨#[c, c, c, c, c, c, c, c]⟩ = true := by
  have h2 : ∀ c ∈ ("abcdefgh" : Str).cps.toList, isLet c = true := by decide +kernel
  have h1 : isLet c = true := h2 c (by
    rw [← Array.getElem?_toList] at h
    exact List.mem_of_getElem? h)
  show (decide (1 ≤ 8 ∧ 8 ≤ 8) && (isLet c && (isLet c && (isLet c && (isLet c && (isLet c && (isLet c && (isLet c && (isLet c && true))))))))) = true
  rw [h1]
  rfl
/-! ### xs == [] -/
def rEqL0 : R2 := fun x y H Q => ∃ (a b : Addr) (xs : List V), x = .ref a ∧ y = .ref b ∧ H a = some (.lst xs) ∧ H b = some (.lst []) ∧ Q (.bl xs.isEmpty) H
theorem op_eqL0 {X : Cx} (hu : X.A.units + 64 < cLine) : OpR X (compareOp .Eq) rEqL0 := by
  intro pins s σ H x y v u Q I rx ry h
  obtain ⟨a, b, xs, rfl, rfl, ea, eb, q⟩ := h
  cases rx
  cases ry
  obtain ⟨i1, rv1, h1, _⟩ := I.list (.inl (.inl ea))
  obtain ⟨i2, rv2, h2, _⟩ := I.list (.inl (.inl eb))
  cases rv2
  cases rv1 with
  | nil =>
    have r := SeqAt.RcAt.lists (A := X.A) (s := s) (e := fun _ => true) h1.isList h2.isList rfl (by omega) (fun j j1 _ => absurd j1 (by simp))
    exact r _ _ _ _ ⟨.bl true, H, I, rfl, q⟩
  | cons r rs =>
    have r := SeqAt.RcAt.lists_lengths (A := X.A) (s := s) h1.isList h2.isList (by simp) (by omega)
    exact r _ _ _ _ ⟨.bl false, H, I, rfl, q⟩
/-! ### the book, what is kept of it, and the names -/
theorem nodup_sub_len : ∀ (l k : List Str), l.Nodup → (∀ x ∈ l, x ∈ k) → l.length ≤ k.length
  | [], _, _, _ => Nat.zero_le _
  | x :: l, k, nd, h => by
    obtain ⟨n1, n2⟩ := List.nodup_cons.mp nd
    have hx := h x List.mem_cons_self
    have ih := nodup_sub_len l (k.erase x) n2 fun y hy => (List.mem_erase_of_ne fun e : y = x => n1 (e ▸ hy)).mpr (h y (List.mem_cons_of_mem _ hy))
    have e := List.length_erase_of_mem hx
    have hk : 0 < k.length := List.length_pos_of_mem hx
    rw [List.length_cons]
    omega
theorem keep_all {l : List Str} {t : Str} (h : t ∉ l) : keysDrop l t = l := List.filter_eq_self.mpr fun x hx => decide_eq_true fun z => h (z ▸ hx)
theorem kd_last (g : Str → V) {l : List Str} {t : Str} (h : t ∉ l) : dropK (kvE g (l ++ [t])) (Sum.inr t) = kvE g l := by
  rw [kvE_drop]
  congr 1
  unfold keysDrop
  rw [List.filter_append]
  have := keep_all h
  unfold keysDrop at this
  rw [this]
  simp
theorem kd_head (g : Str → V) {l : List Str} {t : Str} (h : t ∉ l) : dropK (kvE g (t :: l)) (Sum.inr t) = kvE g l := by
  rw [kvE_drop]
  congr 1
  unfold keysDrop
  rw [List.filter_cons]
  have := keep_all h
  unfold keysDrop at this
  rw [this]
  simp
abbrev Dnn (ks : List Str) : List Dn1 := ks.map fun t => (t, none)
structure Ap7 (wa wc Nn Dn Kd S : Addr) : Prop where
  Da : Dn ≠ wa
  Dc : Dn ≠ wc
  Na : Nn ≠ wa
  Nc : Nn ≠ wc
  ND : Nn ≠ Dn
  SK : S ≠ Kd
structure J7 (P : Program) (w : World) (C : Addr) (wa wc Nn p Kd Dn Lk S : Addr) (nm8 : List Str) (H : Hp) (ks : List Str) (adr : Str → Addr) (rowf : Str → Rw) (dn : List Dn1) : Prop where
  sb : SB P w C H p Kd Dn Lk ks adr rowf dn
  st : H S = some (.dK (kvE (fun t => .ref (adr t)) ks))
  nn : H Nn = some (.lst (nm8.map V.str))
  wl : WL H wa wc
section j7
variable {C wa wc Nn p Kd Dn Lk S : Addr} {nm8 : List Str} {H H' : Hp} {ks : List Str} {adr : Str → Addr} {rowf : Str → Rw} {dn : List Dn1}
theorem J7.same (j : J7 P w C wa wc Nn p Kd Dn Lk S nm8 H ks adr rowf dn) (s : Same H H') : J7 P w C wa wc Nn p Kd Dn Lk S nm8 H' ks adr rowf dn :=
  ⟨j.sb.same s, s _ _ j.st, s _ _ j.nn, j.wl.same s⟩
theorem J7.kp (j : J7 P w C wa wc Nn p Kd Dn Lk S nm8 H ks adr rowf dn) (ap : Ap7 wa wc Nn Dn Kd S) (k : Kp wa wc H H') (w' : WL H' wa wc) : J7 P w C wa wc Nn p Kd Dn Lk S nm8 H' ks adr rowf dn := by
  obtain ⟨_, cs, r, s, ea, ec⟩ := id j.wl
  obtain ⟨dx, ob⟩ := id j.sb.bk.ob
  obtain ⟨lx, ndL, _, _⟩ := id j.sb.lk
  refine ⟨j.sb.stay (fun c o z e => ?_) (k.tups j.wl), k _ _ (ne_of j.st ea (fun z => nomatch z)) (ne_of j.st ec (fun z => nomatch z)) j.st, k _ _ ap.Na ap.Nc j.nn, w'⟩
  rcases z with rfl | rfl | rfl | rfl
  · exact k _ _ (ne_of ob ea (fun z => nomatch z)) (ne_of ob ec (fun z => nomatch z)) e
  · exact k _ _ (ne_of j.sb.bk.kept ea (fun z => nomatch z)) (ne_of j.sb.bk.kept ec (fun z => nomatch z)) e
  · exact k _ _ ap.Da ap.Dc e
  · exact k _ _ (ne_of ndL.ob ea (fun z => nomatch z)) (ne_of ndL.ob ec (fun z => nomatch z)) e
theorem J7.kin {D : Addr} (j : J7 P w C wa wc Nn p Kd Dn Lk S nm8 H ks adr rowf dn) (bk : BkAt C H' p Kd Dn D (kvE (fun t => .ref (adr t)) ks) dn) (lk : LkAt P w H' D 64) (k : ∀ c o, c ≠ p → H c = some o → H' c = some o) : J7 P w C wa wc Nn p Kd Dn D S nm8 H' ks adr rowf dn := by
  obtain ⟨n0, cs, r, s, ea, ec⟩ := id j.wl
  obtain ⟨dx, ob⟩ := id j.sb.bk.ob
  have np : ∀ {x o}, H x = some o → (∀ a b c, o ≠ .ins a b c) → x ≠ p := fun e z => ne_of e ob (z _ _ _)
  have tt : TupsStay H H' := fun x xs e => k x _ (np e (fun _ _ _ z => nomatch z)) e
  exact ⟨⟨bk, lk, fun t ht => ⟨tt.row (j.sb.rw t ht).1, (j.sb.rw t ht).2⟩, j.sb.nd, j.sb.nm, j.sb.few, j.sb.dl⟩, k _ _ (np j.st (fun _ _ _ z => nomatch z)) j.st, k _ _ (np j.nn (fun _ _ _ z => nomatch z)) j.nn, ⟨n0, cs, r, s, k _ _ (np ea (fun _ _ _ z => nomatch z)) ea, k _ _ (np ec (fun _ _ _ z => nomatch z)) ec⟩⟩
/-- what a method that changes the book leaves -/
theorem J7.kb (j : J7 P w C wa wc Nn p Kd Dn Lk S nm8 H ks adr rowf dn) (ap : Ap7 wa wc Nn Dn Kd S) (kp : KpB p Kd Dn H H') : H' S = some (.dK (kvE (fun t => .ref (adr t)) ks)) ∧ H' Nn = some (.lst (nm8.map V.str)) ∧ WL H' wa wc := by
  obtain ⟨n0, cs, r, s, ea, ec⟩ := id j.wl
  obtain ⟨ts, eD, _⟩ := id j.sb.bk.done
  exact ⟨kp _ _ ap.SK (ne_of j.st eD (fun z => nomatch z)) j.st, kp _ _ (ne_of j.nn j.sb.bk.kept (fun z => nomatch z)) ap.ND j.nn, ⟨n0, cs, r, s, kp _ _ (ne_of ea j.sb.bk.kept (fun z => nomatch z)) ap.Da.symm ea, kp _ _ (ne_of ec j.sb.bk.kept (fun z => nomatch z)) ap.Dc.symm ec⟩⟩
/-- S alone changes -/
theorem sb_upS {o : HO} {u : List (Key × V)} (ap : Ap7 wa wc Nn Dn Kd S) (h : SB P w C H p Kd Dn Lk ks adr rowf dn) (eS : H S = some (.dK u)) : SB P w C (upd H S o) p Kd Dn Lk ks adr rowf dn := by
  obtain ⟨dx, ob⟩ := id h.bk.ob
  obtain ⟨lx, ndL, _, _⟩ := id h.lk
  obtain ⟨ts, eD, _⟩ := id h.bk.done
  have up : ∀ c o', c ≠ S → H c = some o' → upd H S o c = some o' := fun c o' n e => by
    rw [upd_ne n]
    exact e
  refine h.stay (fun c o' z e => ?_) (fun x xs e => up x _ (ne_of e eS (fun z => nomatch z)) e)
  rcases z with rfl | rfl | rfl | rfl
  · exact up _ _ (ne_of ob eS (fun z => nomatch z)) e
  · exact up _ _ ap.SK.symm e
  · exact up _ _ (ne_of eD eS (fun z => nomatch z)) e
  · exact up _ _ (ne_of ndL.ob eS (fun z => nomatch z)) e
theorem wl_upS {o : HO} {u : List (Key × V)} (h : WL H wa wc) (eS : H S = some (.dK u)) : WL (upd H S o) wa wc := by
  obtain ⟨n0, cs, r, s, ea, ec⟩ := h
  exact ⟨n0, cs, r, s, by rw [upd_ne (ne_of ea eS (fun z => nomatch z))]; exact ea, by rw [upd_ne (ne_of ec eS (fun z => nomatch z))]; exact ec⟩
theorem J7.step {R : Addr} {t : Str} {r : Rw} (j : J7 P w C wa wc Nn p Kd Dn Lk S nm8 H ks adr rowf dn) (ap : Ap7 wa wc Nn Dn Kd S) (ht : t ∉ ks) (hn : nameS t = true) (hl : ks.length < 8) (hd : dn.length < 100) (hR : RwAt H R r) (ok : RwOk r)
    (bk : BkAt C H' p Kd Dn Lk (putK (kvE (fun t => .ref (adr t)) ks) (Sum.inr t) (.ref R)) (dn ++ [(t, none)])) (kp : KpB p Kd Dn H H') :
    H' S = some (.dK (kvE (fun t => .ref (adr t)) ks)) ∧ H' Nn = some (.lst (nm8.map V.str)) ∧ J7 P w C wa wc Nn p Kd Dn Lk S nm8 (upd H' S (.dK (putK (kvE (fun t => .ref (adr t)) ks) (Sum.inr t) (.ref R)))) (ks ++ [t]) (upF adr t R) (upF rowf t r) (dn ++ [(t, none)]) := by
  obtain ⟨e1, e2, e3⟩ := j.kb ap kp
  refine ⟨e1, e2, ⟨sb_upS ap (j.sb.told ht hn hl hd hR ok bk kp) e1, by rw [upd_same, kvE_add adr R ht], by rw [upd_ne (ne_of e2 e1 (fun z => nomatch z))]; exact e2, wl_upS e3 e1⟩⟩
theorem J7.undo {t : Str} (j : J7 P w C wa wc Nn p Kd Dn Lk S nm8 H (ks ++ [t]) adr rowf (dn ++ [(t, none)])) (ap : Ap7 wa wc Nn Dn Kd S) (bk : BkAt C H' p Kd Dn Lk (undo (kvE (fun t => .ref (adr t)) (ks ++ [t])) (t, none)) dn) (kp : KpB p Kd Dn H H') :
    H' S = some (.dK (kvE (fun t => .ref (adr t)) (ks ++ [t]))) ∧ J7 P w C wa wc Nn p Kd Dn Lk S nm8 (upd H' S (.dK (dropK (kvE (fun t => .ref (adr t)) (ks ++ [t])) (Sum.inr t)))) ks adr rowf dn := by
  obtain ⟨e1, e2, e3⟩ := j.kb ap kp
  have nd := List.nodup_append.mp j.sb.nd
  have ht : t ∉ ks := fun z => nd.2.2 t z t (List.mem_singleton_self t) rfl
  have tt := j.sb.kpt kp
  obtain ⟨ts, eD, _⟩ := id j.sb.bk.done
  obtain ⟨lx, ndL, _, _⟩ := id j.sb.lk
  have bk2 : BkAt C H' p Kd Dn Lk (kvE (fun t => .ref (adr t)) ks) dn := by
    rw [← kd_last (fun t => V.ref (adr t)) ht]
    exact bk
  have few := j.sb.few
  have dl := j.sb.dl
  rw [List.length_append] at few dl
  have sb2 : SB P w C H' p Kd Dn Lk ks adr rowf dn := ⟨bk2, j.sb.lk.stay (fun o e => kp _ _ (ne_of ndL.ob j.sb.bk.kept (fun z => nomatch z)) (ne_of ndL.ob eD (fun z => nomatch z)) e) tt, fun s hs => ⟨tt.row (j.sb.rw s (List.mem_append_left _ hs)).1, (j.sb.rw s (List.mem_append_left _ hs)).2⟩, nd.1, fun s hs => j.sb.nm s (List.mem_append_left _ hs), by omega, by omega⟩
  exact ⟨e1, ⟨sb_upS ap sb2 e1, by rw [upd_same, kd_last _ ht], by rw [upd_ne (ne_of e2 e1 (fun z => nomatch z))]; exact e2, wl_upS e3 e1⟩⟩
theorem SB.forgot {t : Str} {r : Option Addr} (h : SB P w C H p Kd Dn Lk (t :: ks) adr rowf dn) (hd : dn.length < 100) (bk : BkAt C H' p Kd Dn Lk (dropK (kvE (fun t => .ref (adr t)) (t :: ks)) (Sum.inr t)) (dn ++ [(t, r)])) (kp : KpB p Kd Dn H H') : SB P w C H' p Kd Dn Lk ks adr rowf (dn ++ [(t, r)]) := by
  obtain ⟨n1, n2⟩ := List.nodup_cons.mp h.nd
  rw [kd_head _ n1] at bk
  have tt := h.kpt kp
  obtain ⟨ts, eD, _⟩ := id h.bk.done
  obtain ⟨lx, ndL, _, _⟩ := id h.lk
  have few := h.few
  rw [List.length_cons] at few
  exact ⟨bk, h.lk.stay (fun o e => kp _ _ (ne_of ndL.ob h.bk.kept (fun z => nomatch z)) (ne_of ndL.ob eD (fun z => nomatch z)) e) tt, fun s hs => ⟨tt.row (h.rw s (List.mem_cons_of_mem _ hs)).1, (h.rw s (List.mem_cons_of_mem _ hs)).2⟩, n2, fun s hs => h.nm s (List.mem_cons_of_mem _ hs), by omega, by rw [List.length_append]; exact hd⟩
end j7
/-- the pairs that were told -/
def Prs (nm8 : List Str) (k : Nat) (rowf : Str → Rw) : Prop := ∀ j, j < k → ∀ s t, nm8[2 * j]? = some s → nm8[2 * j + 1]? = some t → AlkB (rowf s) (rowf t)
theorem Prs.up {nm8 : List Str} {k n : Nat} {rowf : Str → Rw} {t : Str} {r : Rw} (h : Prs nm8 k rowf) (nd : nm8.Nodup) (ht : nm8[n]? = some t) (hn : 2 * k ≤ n) : Prs nm8 k (upF rowf t r) := fun j hj s u hs hu => by
  have n1 : s ≠ t := fun e => by
    subst e
    have := nd_idx nd hs ht
    omega
  have n2 : u ≠ t := fun e => by
    subst e
    have := nd_idx nd hu ht
    omega
  rw [upF_ne n1, upF_ne n2]
  exact h j hj s u hs hu
def e8 (c : Nat) : Str := ⟨#[c, c, c, c, c, c, c, c]⟩
theorem e8_nd : ((("abcdefgh" : Str).cps.toList).map e8).Nodup := by decide +kernel
theorem inV_strs (t : Str) (l : List Str) : inV (.str t) (l.map V.str) = true ↔ t ∈ l := by
  unfold inV
  rw [List.any_map, List.any_eq_true]
  constructor
  · rintro ⟨x, h1, h2⟩
    have h2' : (x == t) = true ∨ (t == x) = true := by first | exact .inl h2 | exact .inr h2
    rcases h2' with h2 | h2
    · rw [← eq_of_beq h2]; exact h1
    · rw [eq_of_beq h2]; exact h1
  · intro h
    exact ⟨t, h, by show (t == t) = true; exact beq_self_eq_true t⟩
theorem rev_at {l : List Str} {n i : Nat} {t : Str} (h : (l.reverse.take n)[i]? = some t) : i < n ∧ i < l.length ∧ l[l.length - 1 - i]? = some t := by
  have h1 := (List.getElem?_eq_some_iff.mp h).1
  rw [List.length_take, List.length_reverse] at h1
  rw [List.getElem?_take, if_pos (by omega), List.getElem?_reverse (by omega)] at h
  exact ⟨by omega, by omega, h⟩
/-! ### the law -/
set_option maxHeartbeats 8000000 in
theorem law_run {fa fW fD fR fM fN fO fL fKr : Addr} {fd fdW fdD fdR fdM fdN fdO fdL fdKr : FuncData} {s : Shared} {a : Addr} {ns : List Int} {H : Hp} (F : Fun K "law" "law" s_law fa fd) (bL_ : Binds K fd ["script"] [])
    {CB fI fT fK fBb fF fBn : Addr} {fdI fdT fdK fdBb fdF fdBn : FuncData} (T : BCls K mg CB) (KB : Mk K CB fI) (GI : FnOk P w K mg base CX0 1 fI fdI ["self"] (spBi P w CB)) (bI : Binds K fdI ["self"] []) (MT : Meth K CB "tell" fT) (GT : FnOk P w K mg base CX0 6 fT fdT ["self", "name", "row"] (spBt CB)) (bT : Binds K fdT ["self", "name", "row"] []) (MK : Meth K CB "kinds" fK) (GK : FnOk P w K mg base CX0 8 fK fdK ["self"] (spBk P w CB)) (bK : Binds K fdK ["self"] [])
    (MB : Meth K CB "back" fBb) (GB : FnOk P w K mg base CX0 1 fBb fdBb ["self"] (spBb CB)) (bB : Binds K fdBb ["self"] []) (MF : Meth K CB "forget" fF) (GF : FnOk P w K mg base CX0 4 fF fdF ["self", "name"] (spBf CB)) (bF_ : Binds K fdF ["self", "name"] []) (MN : Meth K CB "names" fBn) (GBn : FnOk P w K mg base CX0 1 fBn fdBn ["self"] (spBn CB)) (bN_ : Binds K fdBn ["self"] [])
    (GW : FnOk P w K mg base CX0 1 fW fdW ["script"] (spWell K)) (kW : PySem.W.keepIn K (.ref fW) = true) (bW : Binds K fdW ["script"] []) (gW : mg "_law_well" = some (.ref fW))
    (GD : FnOk P w K mg base CX0 1 fD fdD ["well", "many"] spDraw) (kD : PySem.W.keepIn K (.ref fD) = true) (bD : Binds K fdD ["well", "many"] []) (gD : mg "_law_draw" = some (.ref fD))
    (GR : FnOk P w K mg base CX0 3 fR fdR ["well", "many", "most"] spRow) (kR : PySem.W.keepIn K (.ref fR) = true) (bR : Binds K fdR ["well", "many", "most"] []) (gR : mg "_law_row" = some (.ref fR))
    (GM : FnOk P w K mg base CX0 4 fM fdM ["well", "row"] spMo) (kM : PySem.W.keepIn K (.ref fM) = true) (bM : Binds K fdM ["well", "row"] []) (gM : mg "_law_made_of" = some (.ref fM))
    (GN : FnOk P w K mg base CX0 2 fN fdN ["well"] spNm) (kN : PySem.W.keepIn K (.ref fN) = true) (bN : Binds K fdN ["well"] []) (gN : mg "_law_names" = some (.ref fN))
    (GO : FnOk P w K mg base CX0 11 fO fdO ["well"] spLr) (kO : PySem.W.keepIn K (.ref fO) = true) (bO : Binds K fdO ["well"] []) (gO : mg "_law_long_right" = some (.ref fO))
    (GL : FnOk P w K mg base CX0 9 fL fdL ["book"] (spPl P w CB)) (kL : PySem.W.keepIn K (.ref fL) = true) (bL : Binds K fdL ["book"] []) (gL : mg "_law_places" = some (.ref fL))
    (GKr : FnOk P w K mg base CX0 10 fKr fdKr ["book", "shelf"] (spKr P w CB)) (kKr : PySem.W.keepIn K (.ref fKr) = true) (bKr : Binds K fdKr ["book", "shelf"] []) (gKr : mg "_law_kinds_right" = some (.ref fKr))
    (mr : mg "range" = none) (me : mg "enumerate" = none) (ml : mg "list" = none)
    (hlen : ns.length ≤ 63) (hbits : ∀ z ∈ ns, Builtin.Int.intBits z ≤ 1048576) (e0 : Env0 P w K mg base callerA [] s H) (hS : SqL K H a (ns.map V.int)) :
    codeAny (model P w) callerA (.call (.ref fa) ⟨[.ref a], []⟩) (CR CX0 [] P w H s (fun v _ => v = .bl true) E0) s := by
  refine fn_at (k := 11) (us := [.ref a]) (vs := [.ref a]) F sc_law ⟨rfl, by decide, by decide⟩ e0 ?_ (.cons rfl .nil) rfl (fun cdv => ?_)
  · have := bL_ s [.ref a] (e0.mod.kin.keeps fun b o e => (e0.bs b o e).1) rfl
    simpa using this
  have hr : Room 11 (callerA.deeper (envOfC "law" (defScope s_law) s.heap.objs.size fa cdv)) := Room.deeper (k := 11) ⟨rfl, by decide, by decide⟩ _
  have R10 := hr.mono (show 10 ≤ 11 by decide)
  have R9 := hr.mono (show 9 ≤ 11 by decide)
  have R8 := hr.mono (show 8 ≤ 11 by decide)
  have R6 := hr.mono (show 6 ≤ 11 by decide)
  have R1 := hr.mono (show 1 ≤ 11 by decide)
  have R2 := hr.mono (show 2 ≤ 11 by decide)
  have R3 := hr.mono (show 3 ≤ 11 by decide)
  have R4 := hr.mono (show 4 ≤ 11 by decide)
  have hu := hu_of hr
  refine ⟨_, pss_cons (ps_set (i := 1) sc_law.nd rfl (.inl rfl) (pe_call GW R1 (by rfl) gW kW bW .nil pass0 (pa_cons (pv 0) pa_nil)))
    (pss_cons (ps_if (pt_not (pt_val (pe_call GO hr (by rfl) gO kO bO .nil pass0 (pa_cons (pv 1) pa_nil)))) (pss_one (ps_ret pe_bl)) pss_nil)
    (pss_cons (ps_set (i := 2) sc_law.nd rfl (.inr rfl) (pe_call GN R2 (by rfl) gN kN bN .nil pass0 (pa_cons (pv 1) pa_nil)))
    (pss_cons (ps_setLc (i := 3) (own := [("sign", 14)]) (g := gName 14) (by rfl) sc_law.nd rfl rfl (sw_true rfl rfl rfl (by decide +kernel)) (pi_str pe_str) (blkOk_by (own := [("sign", 14)]) (N := N_law) (sc := defScope s_law) (by decide +kernel)) (fun _ _ _ _ _ => (pg_name (i := 14) sc_law.nd rfl (.inl rfl))) (fun _ _ _ _ _ => pts_one (pt_cmpR (r := rIn K true) op_notIn_seq (pe_op op_str8 (pv 14) pe_int) (pv 2) (by rfl))) (fun _ _ _ _ _ => (pe_op op_str8 (pv 14) pe_int)))
    (pss_cons (ps_set (i := 4) sc_law.nd rfl (.inl rfl) (pe_op op_cat (pv 2) (pe_slice sl_list (pv 3) po_none (po_some pe_int))))
    (pss_cons (ps_set (i := 5) sc_law.nd rfl (.inl rfl) (pe_make0 KB GI R2 (by rfl) T.mgC bI .nil pass0))
    (pss_cons (ps_set (i := 6) sc_law.nd rfl (.inl rfl) pe_dnewK)
    (pss_cons (ps_for PassesOwn.never rfl (pi_range1 (by rfl) mr (pa_cons pe_int pa_nil)) (pg_name (i := 7) sc_law.nd rfl (.inl rfl))
      (pss_cons (ps_set (i := 8) sc_law.nd rfl (.inl rfl) (pe_call GR R3 (by rfl) gR kR bR .nil pass0 (pa_cons (pv 1) (pa_cons (pe_op op_add pe_int (pe_call GD R1 (by rfl) gD kD bD .nil pass0 (pa_cons (pv 1) (pa_cons pe_int pa_nil)))) (pa_cons pe_int pa_nil)))))
      (pss_one (ps_for PassesOwn.never rfl (pi_enum (by rfl) me (pa_cons (pe_lst (pa_cons (pv 8) (pa_cons (pe_call GM R4 (by rfl) gM kM bM .nil pass0 (pa_cons (pv 1) (pa_cons (pv 8) pa_nil))) pa_nil))) pa_nil)) (pg_tup rfl (pgs_cons (pg_name (i := 9) sc_law.nd rfl (.inl rfl)) (pgs_cons (pg_name (i := 10) sc_law.nd rfl (.inl rfl)) pgs_nil)))
        (pss_cons (ps_expr (pe_meth (pv 5) T.cl MT GT R6 bT .nil pass0 (pa_cons (pe_ix ix_list (pv 4) (pe_op op_add (pe_op op_mul pe_int (pv 7)) (pv 9)) (fun _ _ => rfl)) (pa_cons (pv 10) pa_nil))))
        (pss_one (ps_dput hu (pv 6) (pe_ix ix_list (pv 4) (pe_op op_add (pe_op op_mul pe_int (pv 7)) (pv 9)) (fun _ _ => rfl)) (pv 10) rfl)))))))
    (pss_cons (ps_if (pt_not (pt_val (pe_call GKr R10 (by rfl) gKr kKr bKr .nil pass0 (pa_cons (pv 5) (pa_cons (pv 6) pa_nil))))) (pss_one (ps_ret pe_bl)) pss_nil)
    (pss_cons (ps_set (i := 11) sc_law.nd rfl (.inl rfl) (pe_call GL R9 (by rfl) gL kL bL .nil pass0 (pa_cons (pv 5) pa_nil)))
    (pss_cons (ps_for PassesOwn.never rfl (pi_range1 (by rfl) mr (pa_cons pe_int pa_nil)) (pg_name (i := 7) sc_law.nd rfl (.inl rfl))
      (pss_one (ps_if (pt_cmpR op_ne (pe_dget hu (pv 11) (pe_ix ix_list (pv 4) (pe_op op_mul pe_int (pv 7)) (fun _ _ => rfl)) (fun _ _ => rfl)) (pe_dget hu (pv 11) (pe_ix ix_list (pv 4) (pe_op op_add (pe_op op_mul pe_int (pv 7)) pe_int) (fun _ _ => rfl)) (fun _ _ => rfl)) (nomark _))
        (pss_one (ps_ret pe_bl)) pss_nil)))
    (pss_cons (ps_set (i := 12) sc_law.nd rfl (.inl rfl) (pe_op op_add pe_int (pe_call GD R1 (by rfl) gD kD bD .nil pass0 (pa_cons (pv 1) (pa_cons pe_int pa_nil)))))
    (pss_cons (ps_for PassesOwn.never rfl (pi_list (pe_slice sl_list (pe_rev (pv 4) (pe_un un_neg pe_int)) po_none (po_some (pv 12)))) (pg_name (i := 13) sc_law.nd rfl (.inl rfl))
      (pss_cons (ps_expr (pe_meth0 (pv 5) T.cl MB GB R1 bB .nil pass0))
      (pss_one (ps_expr (pe_dpop1 (pv 6) (pv 13) ⟨rfl, rfl, rfl, rfl⟩)))))
    (pss_cons (ps_if (pt_not (pt_val (pe_call GKr R10 (by rfl) gKr kKr bKr .nil pass0 (pa_cons (pv 5) (pa_cons (pv 6) pa_nil))))) (pss_one (ps_ret pe_bl)) pss_nil)
    (pss_cons (ps_for PassesOwn.never rfl (pi_list (pe_callTy (call_listD rfl) (by rfl) ml (by decide +kernel) (pa_cons (pv 6) pa_nil))) (pg_name (i := 13) sc_law.nd rfl (.inl rfl))
      (pss_one (ps_expr (pe_meth (pv 5) T.cl MF GF R4 bF_ .nil pass0 (pa_cons (pv 13) pa_nil)))))
    (pss_one (ps_ret (pe_and (pe_cmpR (op_eqL0 hr.units) (pe_meth0 (pv 5) T.cl MK GK R8 bK .nil pass0) (pe_lst pa_nil) (nomark _)) (pe_one (pe_cmpR (op_eqL0 hr.units) (pe_meth0 (pv 5) T.cl MN GBn R1 bN_ .nil pass0) (pe_lst pa_nil) (nomark _)))))))))))))))))))), ?_⟩
  refine ⟨.ref a, rfl, a, ns, rfl, hS, hlen, hbits, fun H1 wa wc s1 hwa hwc w1 => ?_⟩
  refine ⟨.ref wa, rfl, wa, wc, rfl, w1, fun H2 w2 k2 => ⟨_, rfl, iteF ?_⟩⟩
  refine ⟨.ref wa, rfl, wa, wc, rfl, w2, fun H3 Nm nms eNm nml hnm nmd nNa nNc w3 k3 => ?_⟩
  clear k2 k3 w1 w2 s1 hwa hwc
  -- the eighth name
  have w3c := w3
  refine ⟨"abcdefgh", rfl, fun C hC => ?_⟩
  refine lc_it (walk_str (z := ("abcdefgh" : Str))) (fun j H7 => ∃ ys : List Str, H7 C = some (.lst (ys.map V.str)) ∧ ys.length ≤ j ∧ (∀ y ∈ ys, nameS y = true ∧ y ∉ nms) ∧ (ys = [] → ∀ (i : Nat) (c : Nat), i < j → ("abcdefgh" : Str).cps.toList[i]? = some c → e8 c ∈ nms) ∧ Same H3 H7) ⟨[], upd_same, Nat.zero_le _, (fun _ z => nomatch z), (fun _ i c z => absurd z (Nat.not_lt_zero _)), same_new hC⟩ (fun _ _ _ _ => trivial) (fun j x H7 H8 hj h7 hx => ?_) (fun H7 h7 => ?_)
  · obtain ⟨rfl, cc, hcc, rfl⟩ := hx
    obtain ⟨ys, eC, yl, yn, ye, s7⟩ := h7
    have hj8 : j < 8 := hj
    have put : Same H3 (upd H8 C (.lst (ys.map V.str ++ [V.str ⟨#[cc, cc, cc, cc, cc, cc, cc, cc]⟩]))) := fun b o e => by
      rw [upd_ne (fun z : b = C => by rw [z] at e; rw [hC] at e; cases e)]
      exact s7 _ _ e
    refine ⟨rfl, .str ⟨#[cc]⟩, rfl, cc, rfl, rfl, .ref Nm, rfl, Nm, nms.map V.str, rfl, .inl (.inl (.inl (s7 _ _ eNm))), rfl, List.all_eq_true.mpr (fun v hv => by
      obtain ⟨t, _, rfl⟩ := List.mem_map.mp hv
      rfl), _, rfl, ite2 (fun e => ?_) (fun e => ?_)⟩
    · refine ⟨.str ⟨#[cc]⟩, rfl, cc, rfl, rfl, ys.map V.str, eC, by rw [List.length_map, sizeLine_eq]; omega, ys ++ [⟨#[cc, cc, cc, cc, cc, cc, cc, cc]⟩], by rw [upd_same, List.map_append]; rfl, by rw [List.length_append]; exact Nat.add_le_add_right yl 1, fun y hy => ?_, fun z => by simp at z, put⟩
      rcases List.mem_append.mp hy with hy | hy
      · exact yn y hy
      · rw [List.mem_singleton.mp hy]
        exact ⟨eight_name hcc, fun z => by
          have := (inV_strs _ _).mpr z
          have e' : (!inV (.str (⟨#[cc, cc, cc, cc, cc, cc, cc, cc]⟩ : Str)) (nms.map V.str)) = true := e
          rw [this] at e'
          cases e'⟩
    · refine ⟨ys, eC, by omega, yn, fun z i c hi hc => ?_, s7⟩
      by_cases hij : i < j
      · exact ye z i c hij hc
      · obtain rfl : i = j := by omega
        have hcc' : ("abcdefgh" : Str).cps.toList[i]? = some cc := by
          rw [Array.getElem?_toList]
          exact hcc
        rw [hcc'] at hc
        obtain rfl := Option.some.inj hc
        refine (inV_strs _ _).mp ?_
        cases e2 : inV (.str (e8 cc)) (nms.map V.str) with
        | true => rfl
        | false =>
          refine absurd ?_ e
          show (!inV (.str (e8 cc)) (nms.map V.str)) = true
          rw [e2]
          rfl
  obtain ⟨ys, eC, yl, yn, ye, s7⟩ := h7
  have yne : ys ≠ [] := fun z => by
    have := nodup_sub_len _ nms e8_nd fun t ht => by
      obtain ⟨c, hc, rfl⟩ := List.mem_map.mp ht
      obtain ⟨i, hi⟩ := List.mem_iff_getElem?.mp hc
      exact ye z i c (List.getElem?_eq_some_iff.mp hi).1 hi
    rw [nml, List.length_map] at this
    exact absurd this (by decide +kernel)
  obtain ⟨sp, yr, rfl⟩ : ∃ sp yr, ys = sp :: yr := by
    cases ys with
    | nil => exact absurd rfl yne
    | cons x l => exact ⟨x, l, rfl⟩
  obtain ⟨spn, spi⟩ := yn sp List.mem_cons_self
  refine ⟨.ref Nm, rfl, .ref C, rfl, 1, rfl, C, _, rfl, .inl (.inl eC), fun X hX => ?_⟩
  have sX := same_new (o := .lst (cutV ((sp :: yr).map V.str) none (some 1))) hX
  have ecut : cutV ((sp :: yr).map V.str) none (some 1) = [V.str sp] := by
    rw [show (1 : Int) = ((1 : Nat) : Int) from rfl, cut_take, List.map_cons]
    rfl
  refine ⟨Nm, X, _, _, rfl, rfl, sX _ _ (s7 _ _ eNm), upd_same, by rw [ecut, List.length_map, nml]; show 8 ≤ sizeLine; decide, fun Nn hNn => ?_⟩
  have sNn := same_new (o := .lst (nms.map V.str ++ cutV ((sp :: yr).map V.str) none (some 1))) hNn
  obtain ⟨nm8, enm8⟩ : ∃ nm8, nm8 = nms ++ [sp] := ⟨_, rfl⟩
  have eNn : upd (upd H7 X (.lst (cutV ((sp :: yr).map V.str) none (some 1)))) Nn (.lst (nms.map V.str ++ cutV ((sp :: yr).map V.str) none (some 1))) Nn = some (.lst (nm8.map V.str)) := by rw [upd_same, ecut, enm8, List.map_append]; rfl
  have n8n : ∀ t ∈ nm8, nameS t = true := fun t ht => by
    rw [enm8] at ht
    rcases List.mem_append.mp ht with h | h
    · exact hnm t h
    · rw [List.mem_singleton.mp h]
      exact spn
  have n8l : nm8.length = 8 := by rw [enm8, List.length_append, nml]; rfl
  have n8d : nm8.Nodup := by
    rw [enm8]
    refine List.nodup_append.mpr ⟨nmd, by simp, fun x hx y hy e => ?_⟩
    rw [List.mem_singleton.mp hy] at e
    exact spi (e ▸ hx)
  have s39 := s7.trans (sX.trans sNn)
  obtain ⟨nNna, nNnc⟩ := (w3.same (s7.trans sX)).ne_new hNn
  have w9 := w3.same s39
  generalize upd (upd H7 X (.lst (cutV ((sp :: yr).map V.str) none (some 1)))) Nn (.lst (nms.map V.str ++ cutV ((sp :: yr).map V.str) none (some 1))) = H9 at eNn s39 w9
  clear hX sX sNn hNn ecut eC yl yn ye yne s7 s39 spn spi enm8 hnm nmd nml eNm w3 w3c nNa nNc
  -- the book
  intro p dx np ndx nxp
  refine ⟨p, dx, rfl, upd_same, fun H10 Kd Dn Lk bk0 eLk nKd nDn nLk keep0 => ⟨rfl, ?_⟩⟩
  obtain ⟨s10, nKd, nDn⟩ := made_one np ndx nKd nDn keep0
  intro S hS
  obtain ⟨td, eDn, _⟩ := id bk0.done
  have s11 := same_new (o := .dK []) hS
  have eS : upd H10 S (.dK []) S = some (.dK []) := upd_same
  obtain ⟨n0, cs, r0, s0, ewa, ewc⟩ := id w9
  have ap : Ap7 wa wc Nn Dn Kd S := ⟨(ne_of_none ewa nDn).symm, (ne_of_none ewc nDn).symm, nNna, nNnc, ne_of_none eNn nDn, (ne_of_none bk0.kept hS).symm⟩
  have s911 := s10.trans s11
  have j0 : J7 P w CB wa wc Nn p Kd Dn Lk S nm8 (upd H10 S (.dK [])) [] (fun _ => 0) (fun _ => noneR) [] := ⟨(sb_new bk0 eLk).same s11, eS, s911 _ _ eNn, w9.same s911⟩
  generalize upd H10 S (.dK []) = H11 at j0
  clear eS s11 s911 s10 bk0 eLk keep0 eDn nKd nDn nLk hS np ndx nxp ewa ewc eNn w9 n0
  refine ⟨4, rfl, by decide, by decide, for_range (lo := 0) (n := 4) (fun i σ H12 => ∃ (y7 y8 y9 y10 : Option V) (adr : Str → Addr) (rowf : Str → Rw), σ = [some (.ref a), some (.ref wa), some (.ref Nm), some (.ref C), some (.ref Nn), some (.ref p), some (.ref S), y7, y8, y9, y10, none, none, none, none] ∧ J7 P w CB wa wc Nn p Kd Dn Lk S nm8 H12 (nm8.take (2 * i)) adr rowf (Dnn (nm8.take (2 * i))) ∧ Prs nm8 i rowf)
    ⟨none, none, none, none, _, _, rfl, j0, fun j z => absurd z (Nat.not_lt_zero _)⟩ (fun i σ H12 hi hp => ?_) (fun σ H12 hp => ?_)⟩
  · obtain ⟨y7, y8, y9, y10, adr, rowf, rfl, j, pr⟩ := hp
    refine ⟨.ref wa, rfl, .ref wa, rfl, wa, wc, 2, rfl, by decide, by decide, j.wl, fun H13 z z0 z1 w13 k13 => ⟨1, z, rfl, rfl, wa, wc, 1 + z, 2, rfl, by omega, by omega, by decide, by decide, w13, fun H14 R ds o hrow hok hl w14 k14 => ?_⟩⟩
    obtain ⟨r, er⟩ : ∃ r : Rw, r = ⟨1 + z, ds, o⟩ := ⟨_, rfl⟩
    have hrow : RwAt H14 R r := by rw [er]; exact hrow
    have hok : RwOk r := by rw [er]; exact hok
    have hl : r.ds.length ≤ 6 := by rw [er]; show ds.length ≤ 6; omega
    refine ⟨.ref R, rfl, .ref wa, rfl, .ref R, rfl, wa, wc, R, r, rfl, w14, hrow, hok, hl, fun H15 Z r' hZ okZ al w15 k15 => ⟨(by show 2 ≤ sizeLine; decide), fun L hL => ?_⟩⟩
    have sL := same_new (o := .lst [.ref R, .ref Z]) hL
    have eL : upd H15 L (.lst [.ref R, .ref Z]) L = some (.lst [.ref R, .ref Z]) := upd_same
    have j15 := j.kp ap (k13.trans (k14.trans k15)) w15
    have hrow := (Same.tups sL).row ((k15.tups w14).row hrow)
    have hZ := (Same.tups sL).row hZ
    have j16 := j15.same sL
    have nLD : L ≠ Dn := by
      obtain ⟨td, eDn, _⟩ := j15.sb.bk.done
      exact (ne_of_none eDn hL).symm
    generalize upd H15 L (.lst [.ref R, .ref Z]) = H16 at eL hrow hZ j16
    clear sL j15 j k13 k14 k15 w15 w13 w14 hL er
    have tS : ∀ {H5 : Hp}, (∀ c o, c ≠ S → c ≠ Kd → c ≠ Dn → H16 c = some o → H5 c = some o) → TupsStay H16 H5 := fun {H5} st x xs e => by
      obtain ⟨td, eDn, _⟩ := j16.sb.bk.done
      exact st x _ (ne_of e j16.st (fun z => nomatch z)) (ne_of e j16.sb.bk.kept (fun z => nomatch z)) (ne_of e eDn (fun z => nomatch z)) e
    refine ⟨L, _, rfl, .inl (.inl eL), for_it (walk_enum (K := K) (a := L) (xs := [.ref R, .ref Z])) (fun m σ H5 => ∃ (y9 y10 : Option V) (adr : Str → Addr) (rowf : Str → Rw), σ = [some (.ref a), some (.ref wa), some (.ref Nm), some (.ref C), some (.ref Nn), some (.ref p), some (.ref S), some (.int (0 + (i : Int))), some (.ref R), y9, y10, none, none, none, none] ∧ J7 P w CB wa wc Nn p Kd Dn Lk S nm8 H5 (nm8.take (2 * i + m)) adr rowf (Dnn (nm8.take (2 * i + m))) ∧ Prs nm8 i rowf ∧ (∀ t, nm8[2 * i]? = some t → 1 ≤ m → rowf t = r) ∧ (∀ t, nm8[2 * i + 1]? = some t → 2 ≤ m → rowf t = r') ∧ ∀ c o, c ≠ S → c ≠ Kd → c ≠ Dn → H16 c = some o → H5 c = some o)
      ⟨_, _, adr, rowf, rfl, j16, pr, (fun t _ z => absurd z (by omega)), (fun t _ z => absurd z (by omega)), fun _ _ _ _ _ e => e⟩ (fun m σ H5 _ hp => ?_) (fun m x σ H5 H6 hm hp hy => ?_) (fun σ H5 hp => ?_)⟩
    · obtain ⟨_, _, _, _, _, _, _, _, _, st⟩ := hp
      exact .inl (.inl (st _ _ (ne_of eL j16.st (fun z => nomatch z)) (ne_of eL j16.sb.bk.kept (fun z => nomatch z)) nLD eL))
    · obtain ⟨y9, y10, adr, rowf, rfl, j5, pr5, p1, p2, st5⟩ := hp
      obtain ⟨U, x1, x2, rfl, hU, rfl, g1, g2⟩ := hy
      obtain rfl := Option.some.inj g1
      have hm2 : m < 2 := hm
      obtain ⟨Y, rY, g2', hY, okY, eY⟩ : ∃ (Y : Addr) (rY : Rw), x2 = .ref Y ∧ RwAt H16 Y rY ∧ RwOk rY ∧ (m = 0 → rY = r) ∧ (m = 1 → rY = r') := by
        have g2 : ([.ref R, .ref Z] : List V)[m]? = some x2 := g2
        have : m = 0 ∨ m = 1 := by omega
        rcases this with rfl | rfl
        · exact ⟨R, r, (Option.some.inj g2).symm, hrow, hok, fun _ => rfl, (fun z => by cases z)⟩
        · exact ⟨Z, r', (Option.some.inj g2).symm, hZ, okZ, (fun z => by cases z), fun _ => rfl⟩
      subst g2'
      have sU := same_new (o := .tup [.int (m : Nat), .ref Y]) hU
      refine ⟨U, _, rfl, SqT.of upd_same, rfl, .int (m : Nat), _, rfl, .ref Y, _, rfl, rfl, ?_⟩
      have j6 := j5.same sU
      have st6 : ∀ c o, c ≠ S → c ≠ Kd → c ≠ Dn → H16 c = some o → upd H5 U (.tup [.int (m : Nat), .ref Y]) c = some o := fun c o n1 n2 n3 e => sU _ _ (st5 c o n1 n2 n3 e)
      generalize upd H5 U (.tup [.int (m : Nat), .ref Y]) = H6 at j6 st6
      clear sU hU j5 st5
      have hn : 2 * i + m < nm8.length := by omega
      have hni : nm8[2 * i + m]? = some nm8[2 * i + m] := List.getElem?_eq_getElem hn
      obtain ⟨t, ht⟩ : ∃ t, t = nm8[2 * i + m] := ⟨_, rfl⟩
      rw [← ht] at hni
      have htm := List.mem_of_getElem? hni
      have tk : nm8.take (2 * i + (m + 1)) = nm8.take (2 * i + m) ++ [t] := by rw [← Nat.add_assoc, List.take_add_one, hni]; rfl
      have nin : t ∉ nm8.take (2 * i + m) := fun z => by
        have nd := n8d.sublist (List.take_sublist (2 * i + (m + 1)) nm8)
        rw [tk] at nd
        exact (List.nodup_append.mp nd).2.2 t z t (List.mem_singleton_self t) rfl
      have tl : (nm8.take (2 * i + m)).length = 2 * i + m := by rw [List.length_take]; omega
      have hY6 : RwAt H6 Y rY := (tS st6).row hY
      obtain ⟨dx6, ob6⟩ := id j6.sb.bk.ob
      have eix : (2 * (0 + (i : Int)) + ((m : Nat) : Int)) = ((2 * i + m : Nat) : Int) := by omega
      have ati : atI (nm8.map V.str) (2 * (0 + (i : Int)) + ((m : Nat) : Int)) = some (.str t) := by
        rw [eix]
        exact atI_nat (by rw [List.getElem?_map, hni]; rfl)
      refine ⟨.ref p, rfl, p, dx6, _, rfl, ob6, bF_no _ _ _ (by decide +kernel) (by decide +kernel) (by decide +kernel), .ref Nn, rfl, .int (0 + (i : Int)), rfl, 2, 0 + (i : Int), rfl, rfl, .inl ⟨by decide, by decide⟩, .int (m : Nat), rfl, 2 * (0 + (i : Int)), (m : Nat), rfl, rfl, Nn, _, _, .str t, rfl, rfl, .inl (.inl j6.nn), ati, .ref Y, rfl, p, Kd, Dn, Lk, Y, _, _, t, none, noN, rowD rY.m rY.ds rY.o, 459, 3, rfl, j6.sb.bk, by rw [List.length_map]; omega, by rw [kvE_len]; omega, n8n t htm, any_row hY6, nc_row okY, by decide, rowA_ok okY, by rw [kvE_val, if_neg nin]; rfl, fun H7 bk7 kp7 => ?_⟩
      obtain ⟨eS7, eN7, j7⟩ := j6.step ap nin (n8n t htm) (by omega) (by rw [List.length_map]; omega) hY6 okY bk7 kp7
      refine ⟨.ref Y, rfl, .ref S, rfl, .ref Nn, rfl, .int (0 + (i : Int)), rfl, 2, 0 + (i : Int), rfl, rfl, .inl ⟨by decide, by decide⟩, .int (m : Nat), rfl, 2 * (0 + (i : Int)), (m : Nat), rfl, rfl, Nn, _, _, .str t, rfl, rfl, .inl (.inl eN7), ati, S, _, rfl, DPut.k (k := Sum.inr t) eS7 (by rw [kvE_len, sizeLine_eq]; omega), ?_⟩
      refine ⟨_, _, upF adr t Y, upF rowf t rY, rfl, ?_, pr5.up n8d hni (by omega), fun u hu2 h1 => ?_, fun u hu2 h2 => ?_, fun c o n1 n2 n3 e => ?_⟩
      · have : Dnn (nm8.take (2 * i + (m + 1))) = Dnn (nm8.take (2 * i + m)) ++ [(t, none)] := by
          rw [tk]
          unfold Dnn
          rw [List.map_append]
          rfl
        rw [this, tk]
        exact j7
      · by_cases e : u = t
        · subst e
          have := nd_idx n8d hu2 hni
          rw [upF_same]
          exact eY.1 (by omega)
        · rw [upF_ne e]
          refine p1 u hu2 ?_
          by_cases z : 1 ≤ m
          · exact z
          · exfalso
            have : m = 0 := by omega
            subst this
            rw [Nat.add_zero, hu2] at hni
            exact e (Option.some.inj hni)
      · by_cases e : u = t
        · subst e
          have := nd_idx n8d hu2 hni
          rw [upF_same]
          exact eY.2 (by omega)
        · exfalso
          have : m = 1 := by omega
          subst this
          rw [hu2] at hni
          exact e (Option.some.inj hni)
      · rw [upd_ne n1]
        have np7 : c ≠ p ∨ True := .inr trivial
        exact kp7 c o n2 n3 (st6 c o n1 n2 n3 e)
    · obtain ⟨y9, y10, adr, rowf, rfl, j5, pr5, p1, p2, _⟩ := hp
      refine ⟨_, _, _, _, adr, rowf, rfl, j5, fun k hk s t hs ht => ?_⟩
      by_cases e : k < i
      · exact pr5 k e s t hs ht
      · obtain rfl : k = i := by omega
        rw [p1 s hs (by show 1 ≤ 2; decide), p2 t ht (by show 2 ≤ 2; decide)]
        exact al
  obtain ⟨y7, y8, y9, y10, adr, rowf, rfl, j, pr⟩ := hp
  have tk8 : nm8.take (2 * 4) = nm8 := List.take_of_length_le (by omega)
  have j : J7 P w CB wa wc Nn p Kd Dn Lk S nm8 H12 nm8 adr rowf (Dnn nm8) := by
    have j' := j
    rw [tk8] at j'
    exact j'
  have txn : ∀ t ∈ nm8, TxOk t := fun t ht => name_tx (n8n t ht)
  refine ⟨.ref p, rfl, .ref S, rfl, p, S, Kd, Dn, Lk, Dnn nm8, nm8, nm8, adr, rowf, 64, rfl, j.sb.bk, j.sb.lk, j.st, .refl _, n8d, by omega, txn, j.sb.rw, fun H13 D bk lk keep => ⟨_, rfl, iteF ?_⟩⟩
  have j := j.kin bk lk keep
  clear bk lk keep
  refine ⟨.ref p, rfl, p, Kd, Dn, D, Dnn nm8, nm8, adr, rowf, 64, rfl, j.sb.bk, j.sb.lk, n8d, by omega, j.sb.rw, fun H14 Fd D2 pl ns2 pn eF hal hFd bk lk keep => ?_⟩
  have j := j.kin bk lk keep
  clear bk lk keep hFd
  have dg : ∀ t ∈ nm8, DGet H14 Fd (.str t) (some (.int (pl t : Int))) := fun t ht => by
    have := DGet.k (k := Sum.inr t) eF
    rw [kvE_val, if_pos (pn.mem_iff.mpr ht)] at this
    exact this
  refine ⟨4, rfl, by decide, by decide, for_range (lo := 0) (n := 4) (fun i σ H15 => ∃ (y7 : Option V), σ = [some (.ref a), some (.ref wa), some (.ref Nm), some (.ref C), some (.ref Nn), some (.ref p), some (.ref S), y7, y8, y9, y10, some (.ref Fd), none, none, none] ∧ H15 = H14)
    ⟨_, rfl, rfl⟩ (fun i σ H15 hi hp => ?_) (fun σ H15 hp => ?_)⟩
  · obtain ⟨y7, rfl, rfl⟩ := hp
    have h1 : 2 * i < nm8.length := by omega
    have h2 : 2 * i + 1 < nm8.length := by omega
    have hs : nm8[2 * i]? = some nm8[2 * i] := List.getElem?_eq_getElem h1
    have ht : nm8[2 * i + 1]? = some nm8[2 * i + 1] := List.getElem?_eq_getElem h2
    generalize nm8[2 * i] = s2 at hs
    generalize nm8[2 * i + 1] = t2 at ht
    have sm := List.mem_of_getElem? hs
    have tm := List.mem_of_getElem? ht
    have e : pl s2 = pl t2 := (hal s2 sm t2 tm).mpr (pr i hi s2 t2 hs ht)
    have ati1 : atI (nm8.map V.str) (2 * (0 + (i : Int))) = some (.str s2) := by
      rw [show (2 * (0 + (i : Int))) = ((2 * i : Nat) : Int) by omega]
      exact atI_nat (by rw [List.getElem?_map, hs]; rfl)
    have ati2 : atI (nm8.map V.str) (2 * (0 + (i : Int)) + 1) = some (.str t2) := by
      rw [show (2 * (0 + (i : Int)) + 1) = ((2 * i + 1 : Nat) : Int) by omega]
      exact atI_nat (by rw [List.getElem?_map, ht]; rfl)
    refine ⟨.ref Fd, rfl, .ref Nn, rfl, .int (0 + (i : Int)), rfl, 2, 0 + (i : Int), rfl, rfl, .inl ⟨by decide, by decide⟩, Nn, _, _, .str s2, rfl, rfl, .inl (.inl j.nn), ati1, Fd, .int (pl s2 : Int), rfl, dg s2 sm, ?_⟩
    refine ⟨.ref Fd, rfl, .ref Nn, rfl, .int (0 + (i : Int)), rfl, 2, 0 + (i : Int), rfl, rfl, .inl ⟨by decide, by decide⟩, 2 * (0 + (i : Int)), 1, rfl, rfl, Nn, _, _, .str t2, rfl, rfl, .inl (.inl j.nn), ati2, Fd, .int (pl t2 : Int), rfl, dg t2 tm, rfl, _, rfl, iteNS (by rw [e]) ⟨_, rfl, rfl⟩⟩
  obtain ⟨y7b, rfl, rfl⟩ := hp
  clear dg eF hal pr pn
  refine ⟨.ref wa, rfl, wa, wc, 7, rfl, by decide, by decide, j.wl, fun H16 g g0 g1 w16 k16 => ⟨1, g, rfl, rfl, ?_⟩⟩
  have j := j.kp ap k16 w16
  clear k16 w16
  obtain ⟨gn, hgn⟩ : ∃ gn : Nat, g = (gn : Int) := ⟨g.toNat, by omega⟩
  subst hgn
  refine ⟨.ref Nn, rfl, 1, rfl, Nn, _, rfl, rfl, .inl (.inl j.nn), fun X1 hX1 => ?_⟩
  have sX1 := same_new (o := .lst (nm8.map V.str).reverse) hX1
  have eX1 : upd H16 X1 (.lst (nm8.map V.str).reverse) X1 = some (.lst (nm8.map V.str).reverse) := upd_same
  have j := j.same sX1
  generalize upd H16 X1 (.lst (nm8.map V.str).reverse) = H17 at eX1 j
  clear sX1 hX1
  refine ⟨.int (1 + (gn : Int)), rfl, 1 + (gn : Int), rfl, X1, _, rfl, .inl (.inl eX1), fun X hX => ?_⟩
  obtain ⟨n, hn⟩ : ∃ n : Nat, n = 1 + gn := ⟨_, rfl⟩
  have n7 : n ≤ 7 := by omega
  have ecut : cutV (nm8.map V.str).reverse none (some (1 + (gn : Int))) = (nm8.reverse.take n).map V.str := by
    rw [show (1 + (gn : Int)) = ((n : Nat) : Int) by omega, cut_take, ← List.map_reverse, List.map_take]
  have sX := same_new (o := .lst (cutV (nm8.map V.str).reverse none (some (1 + (gn : Int))))) hX
  have eX : upd H17 X (.lst (cutV (nm8.map V.str).reverse none (some (1 + (gn : Int))))) X = some (.lst ((nm8.reverse.take n).map V.str)) := by rw [upd_same, ecut]
  have nXD : X ≠ Dn := by
    obtain ⟨td, eDn, _⟩ := j.sb.bk.done
    exact (ne_of_none eDn hX).symm
  have j := j.same sX
  generalize upd H17 X (.lst (cutV (nm8.map V.str).reverse none (some (1 + (gn : Int))))) = H18 at eX j
  clear sX hX ecut eX1
  have ll : (nm8.reverse.take n).length = n := by rw [List.length_take, List.length_reverse]; omega
  refine ⟨X, rfl, ⟨_, .inl (.inl eX)⟩, for_list (K := K) (a := X) (xs := (nm8.reverse.take n).map V.str) (fun i σ H5 => ∃ (y13 : Option V), σ = [some (.ref a), some (.ref wa), some (.ref Nm), some (.ref C), some (.ref Nn), some (.ref p), some (.ref S), y7b, y8, y9, y10, some (.ref Fd), some (.int (1 + (gn : Int))), y13, none] ∧ J7 P w CB wa wc Nn p Kd Dn D2 S nm8 H5 (nm8.take (8 - i)) adr rowf (Dnn (nm8.take (8 - i))) ∧ H5 X = some (.lst ((nm8.reverse.take n).map V.str)))
    ⟨none, rfl, by rw [show nm8.take (8 - 0) = nm8 from List.take_of_length_le (by omega)]; exact j, eX⟩ (fun i σ H5 _ hp => ?_) (fun i x σ H5 hx hp => ?_) (fun σ H5 hp => ?_)⟩
  · obtain ⟨_, _, _, e⟩ := hp
    exact .inl (.inl e)
  · obtain ⟨y13, rfl, j5, eX5⟩ := hp
    rw [List.getElem?_map] at hx
    obtain ⟨t, ht, rfl⟩ := Option.map_eq_some_iff.mp hx
    obtain ⟨hin, hil, ht⟩ := rev_at ht
    have ht : nm8[8 - (i + 1)]? = some t := by
      rw [show 8 - (i + 1) = nm8.length - 1 - i by omega]
      exact ht
    have tk : nm8.take (8 - i) = nm8.take (8 - (i + 1)) ++ [t] := by
      rw [show 8 - i = (8 - (i + 1)) + 1 by omega, List.take_add_one, ht]
      rfl
    rw [tk] at j5
    have ed : Dnn (nm8.take (8 - (i + 1)) ++ [t]) = Dnn (nm8.take (8 - (i + 1))) ++ [(t, none)] := by
      unfold Dnn
      rw [List.map_append]
      rfl
    rw [ed] at j5
    obtain ⟨dx5, ob5⟩ := id j5.sb.bk.ob
    have few := j5.sb.few
    have val : valV (kvE (fun t => V.ref (adr t)) (nm8.take (8 - (i + 1)) ++ [t])) (Sum.inr t) = some (.ref (adr t)) := by rw [kvE_val, if_pos (List.mem_append_right _ (List.mem_singleton_self t))]
    refine ⟨.ref p, rfl, p, dx5, _, rfl, ob5, bF_no _ _ _ (by decide +kernel) (by decide +kernel) (by decide +kernel), p, Kd, Dn, D2, _, _, (t, none), rfl, j5.sb.bk, by rw [kvE_len]; omega, fun _ => by rw [val]; rfl, fun H7 bk7 kp7 => ?_⟩
    obtain ⟨eS7, j7⟩ := j5.undo ap bk7 kp7
    have eX7 := kp7 _ _ (ne_of eX5 j5.sb.bk.kept (fun z => nomatch z)) nXD eX5
    exact ⟨.ref S, rfl, S, rfl, .inl ⟨_, .inl eS7⟩, .str t, rfl, _, Sum.inr t, .ref (adr t), eS7, rfl, val, _, rfl, j7, by rw [upd_ne (ne_of eX7 eS7 (fun z => nomatch z))]; exact eX7⟩
  obtain ⟨y13, rfl, j, _⟩ := hp
  rw [List.length_map, ll] at j
  obtain ⟨ks, hks⟩ : ∃ ks, ks = nm8.take (8 - n) := ⟨_, rfl⟩
  rw [← hks] at j
  have txk : ∀ t ∈ ks, TxOk t := fun t ht => name_tx (j.sb.nm t ht)
  have few := j.sb.few
  refine ⟨.ref p, rfl, .ref S, rfl, p, S, Kd, Dn, D2, Dnn ks, ks, ks, adr, rowf, 64, rfl, j.sb.bk, j.sb.lk, j.st, .refl _, j.sb.nd, by omega, txk, j.sb.rw, fun H19 D3 bk lk keep => ⟨_, rfl, iteF ?_⟩⟩
  have j := j.kin bk lk keep
  clear bk lk keep eX nXD ll
  refine ⟨.ref S, rfl, S, _, rfl, .inl j.st, fun Ls hLs => ?_⟩
  have sLs := same_new (o := .lst ((kvE (fun t => V.ref (adr t)) ks).map fun kv => kV kv.1)) hLs
  have eLs : upd H19 Ls (.lst ((kvE (fun t => V.ref (adr t)) ks).map fun kv => kV kv.1)) Ls = some (.lst (ks.map V.str)) := by
    rw [upd_same]
    unfold kvE
    rw [List.map_map]
    rfl
  have nLD : Ls ≠ Dn := by
    obtain ⟨td, eDn, _⟩ := j.sb.bk.done
    exact (ne_of_none eDn hLs).symm
  have sb := j.sb.same sLs
  generalize upd H19 Ls (.lst ((kvE (fun t => V.ref (adr t)) ks).map fun kv => kV kv.1)) = H20 at eLs sb
  clear sLs hLs j
  refine ⟨Ls, rfl, ⟨_, .inl (.inl eLs)⟩, for_list (K := K) (a := Ls) (xs := ks.map V.str) (fun i σ H5 => ∃ (y13 : Option V) (dn : List Dn1), σ = [some (.ref a), some (.ref wa), some (.ref Nm), some (.ref C), some (.ref Nn), some (.ref p), some (.ref S), y7b, y8, y9, y10, some (.ref Fd), some (.int (1 + (gn : Int))), y13, none] ∧ SB P w CB H5 p Kd Dn D3 (ks.drop i) adr rowf dn ∧ dn.length ≤ 8 + i ∧ H5 Ls = some (.lst (ks.map V.str)))
    ⟨y13, Dnn ks, rfl, by rw [List.drop_zero]; exact sb, by unfold Dnn; rw [List.length_map]; omega, eLs⟩ (fun i σ H5 _ hp => ?_) (fun i x σ H5 hx hp => ?_) (fun σ H5 hp => ?_)⟩
  · obtain ⟨_, _, _, _, _, e⟩ := hp
    exact .inl (.inl e)
  · obtain ⟨y13, dn, rfl, sb5, dl, eL5⟩ := hp
    rw [List.getElem?_map] at hx
    obtain ⟨t, ht, rfl⟩ := Option.map_eq_some_iff.mp hx
    have hi := (List.getElem?_eq_some_iff.mp ht).1
    have dk : ks.drop i = t :: ks.drop (i + 1) := by
      rw [List.drop_eq_getElem_cons hi]
      congr 1
      have := List.getElem?_eq_getElem hi
      rw [ht] at this
      exact (Option.some.inj this).symm
    rw [dk] at sb5
    obtain ⟨dx5, ob5⟩ := id sb5.bk.ob
    have val : valV (kvE (fun t => V.ref (adr t)) (t :: ks.drop (i + 1))) (Sum.inr t) = some (.ref (adr t)) := by rw [kvE_val, if_pos List.mem_cons_self]
    refine ⟨.ref p, rfl, p, dx5, _, rfl, ob5, bF_no _ _ _ (by decide +kernel) (by decide +kernel) (by decide +kernel), .str t, rfl, p, Kd, Dn, D3, _, dn, t, adr t, rfl, sb5.bk, by omega, sb5.nm t List.mem_cons_self, val, fun H7 bk7 kp7 => ?_⟩
    exact ⟨_, _, rfl, sb5.forgot (by omega) bk7 kp7, by rw [List.length_append]; exact Nat.add_le_add_right dl 1, kp7 _ _ (ne_of eL5 sb5.bk.kept (fun z => nomatch z)) nLD eL5⟩
  obtain ⟨y13, dn, rfl, sb, dl, _⟩ := hp
  rw [List.length_map, List.drop_length] at sb
  obtain ⟨dx9, ob9⟩ := id sb.bk.ob
  refine ⟨.ref p, rfl, p, dx9, _, rfl, ob9, bF_no _ _ _ (by decide +kernel) (by decide +kernel) (by decide +kernel), p, Kd, Dn, D3, dn, [], adr, rowf, 64, rfl, sb.bk, sb.lk, List.nodup_nil, by decide, (fun _ z => nomatch z), fun H21 L D4 qs ys lab pm up hlab eL hqs hL hq ndq bk2 lk2 hD nDL nDq keep => ?_⟩
  obtain rfl : ys = [] := List.perm_nil.mp pm
  have hqs : GqAt H21 qs [] := hqs
  cases hqs
  refine ⟨(by show 0 ≤ sizeLine; decide), fun Z hZ => ?_⟩
  have sZ := same_new (o := .lst []) hZ
  have bk3 := bk2.same sZ
  refine ⟨L, Z, [], rfl, rfl, sZ _ _ eL, upd_same, true, rfl, iteT ?_⟩
  generalize upd H21 Z (.lst []) = H22 at bk3
  obtain ⟨dx8, ob8⟩ := id bk3.ob
  refine ⟨.ref p, rfl, p, dx8, _, rfl, ob8, bF_no _ _ _ (by decide +kernel) (by decide +kernel) (by decide +kernel), p, Kd, Dn, D4, _, dn, [], rfl, bk3, kvE_keys _ _, by decide, fun ys M pz sz hM => ?_⟩
  obtain rfl : ys = [] := List.perm_nil.mp pz
  have sM := same_new (o := .lst []) hM
  refine ⟨(by show 0 ≤ sizeLine; decide), fun Z2 hZ2 => ?_⟩
  have sZ2 := same_new (o := .lst []) hZ2
  exact ⟨M, Z2, [], rfl, rfl, sZ2 _ _ upd_same, upd_same, rfl⟩
/-! ### what the top has written -/
set_option maxHeartbeats 4000000 in
theorem all_mk {l : PySem.W.OpenLaw} {w : World} {K : PySem.W.Frag} {h : Heap} {mg : Str → Option Value} {fa : Addr} (X : K.In h) (G : h.Ns mainGlobals mg) (hfa : mg "law" = some (.ref fa))
    {f0 : Addr} {od0 an0 : Option Addr} {sl0 : Array (Option Value)} {oc0 kV0 dc0 pm0 cd0 ct0 : Value}
    {f1 : Addr} {od1 an1 : Option Addr} {sl1 : Array (Option Value)} {oc1 kV1 dc1 pm1 cd1 ct1 : Value}
    {f2 : Addr} {od2 an2 : Option Addr} {sl2 : Array (Option Value)} {oc2 kV2 dc2 pm2 cd2 ct2 : Value}
    {f3 : Addr} {od3 an3 : Option Addr} {sl3 : Array (Option Value)} {oc3 kV3 dc3 pm3 cd3 ct3 : Value}
    {f4 : Addr} {od4 an4 : Option Addr} {sl4 : Array (Option Value)} {oc4 kV4 dc4 pm4 cd4 ct4 : Value}
    {f5 : Addr} {od5 an5 : Option Addr} {sl5 : Array (Option Value)} {oc5 kV5 dc5 pm5 cd5 ct5 : Value}
    {f6 : Addr} {od6 an6 : Option Addr} {sl6 : Array (Option Value)} {oc6 kV6 dc6 pm6 cd6 ct6 : Value}
    {f7 : Addr} {od7 an7 : Option Addr} {sl7 : Array (Option Value)} {oc7 kV7 dc7 pm7 cd7 ct7 : Value}
    {f8 : Addr} {od8 an8 : Option Addr} {sl8 : Array (Option Value)} {oc8 kV8 dc8 pm8 cd8 ct8 : Value}
    {f9 : Addr} {od9 an9 : Option Addr} {sl9 : Array (Option Value)} {oc9 kV9 dc9 pm9 cd9 ct9 : Value}
    {f10 : Addr} {od10 an10 : Option Addr} {sl10 : Array (Option Value)} {oc10 kV10 dc10 pm10 cd10 ct10 : Value}
    {f11 : Addr} {od11 an11 : Option Addr} {sl11 : Array (Option Value)} {oc11 kV11 dc11 pm11 cd11 ct11 : Value}
    {f12 : Addr} {od12 an12 : Option Addr} {sl12 : Array (Option Value)} {oc12 kV12 dc12 pm12 cd12 ct12 : Value}
    {f13 : Addr} {od13 an13 : Option Addr} {sl13 : Array (Option Value)} {oc13 kV13 dc13 pm13 cd13 ct13 : Value}
    {f14 : Addr} {od14 an14 : Option Addr} {sl14 : Array (Option Value)} {oc14 kV14 dc14 pm14 cd14 ct14 : Value}
    {f15 : Addr} {od15 an15 : Option Addr} {sl15 : Array (Option Value)} {oc15 kV15 dc15 pm15 cd15 ct15 : Value}
    {f16 : Addr} {od16 an16 : Option Addr} {sl16 : Array (Option Value)} {oc16 kV16 dc16 pm16 cd16 ct16 : Value}
    {f17 : Addr} {od17 an17 : Option Addr} {sl17 : Array (Option Value)} {oc17 kV17 dc17 pm17 cd17 ct17 : Value}
    {f18 : Addr} {od18 an18 : Option Addr} {sl18 : Array (Option Value)} {oc18 kV18 dc18 pm18 cd18 ct18 : Value}
    {f19 : Addr} {od19 an19 : Option Addr} {sl19 : Array (Option Value)} {oc19 kV19 dc19 pm19 cd19 ct19 : Value}
    {f20 : Addr} {od20 an20 : Option Addr} {sl20 : Array (Option Value)} {oc20 kV20 dc20 pm20 cd20 ct20 : Value}
    {f21 : Addr} {od21 an21 : Option Addr} {sl21 : Array (Option Value)} {oc21 kV21 dc21 pm21 cd21 ct21 : Value}
    {f22 : Addr} {od22 an22 : Option Addr} {sl22 : Array (Option Value)} {oc22 kV22 dc22 pm22 cd22 ct22 : Value}
    {f23 : Addr} {od23 an23 : Option Addr} {sl23 : Array (Option Value)} {oc23 kV23 dc23 pm23 cd23 ct23 : Value}
    {f24 : Addr} {od24 an24 : Option Addr} {sl24 : Array (Option Value)} {oc24 kV24 dc24 pm24 cd24 ct24 : Value}
    {f25 : Addr} {od25 an25 : Option Addr} {sl25 : Array (Option Value)} {oc25 kV25 dc25 pm25 cd25 ct25 : Value}
    {f26 : Addr} {od26 an26 : Option Addr} {sl26 : Array (Option Value)} {oc26 kV26 dc26 pm26 cd26 ct26 : Value}
    {f27 : Addr} {od27 an27 : Option Addr} {sl27 : Array (Option Value)} {oc27 kV27 dc27 pm27 cd27 ct27 : Value}
    {f28 : Addr} {od28 an28 : Option Addr} {sl28 : Array (Option Value)} {oc28 kV28 dc28 pm28 cd28 ct28 : Value}
    {f29 : Addr} {od29 an29 : Option Addr} {sl29 : Array (Option Value)} {oc29 kV29 dc29 pm29 cd29 ct29 : Value}
    {f30 : Addr} {od30 an30 : Option Addr} {sl30 : Array (Option Value)} {oc30 kV30 dc30 pm30 cd30 ct30 : Value}
    {f31 : Addr} {od31 an31 : Option Addr} {sl31 : Array (Option Value)} {oc31 kV31 dc31 pm31 cd31 ct31 : Value}
    {f32 : Addr} {od32 an32 : Option Addr} {sl32 : Array (Option Value)} {oc32 kV32 dc32 pm32 cd32 ct32 : Value}
    {f33 : Addr} {od33 an33 : Option Addr} {sl33 : Array (Option Value)} {oc33 kV33 dc33 pm33 cd33 ct33 : Value}
    {f34 : Addr} {od34 an34 : Option Addr} {sl34 : Array (Option Value)} {oc34 kV34 dc34 pm34 cd34 ct34 : Value}
    {f35 : Addr} {od35 an35 : Option Addr} {sl35 : Array (Option Value)} {oc35 kV35 dc35 pm35 cd35 ct35 : Value}
    {f36 : Addr} {od36 an36 : Option Addr} {sl36 : Array (Option Value)} {oc36 kV36 dc36 pm36 cd36 ct36 : Value}
    {f37 : Addr} {od37 an37 : Option Addr} {sl37 : Array (Option Value)} {oc37 kV37 dc37 pm37 cd37 ct37 : Value}
    {f38 : Addr} {od38 an38 : Option Addr} {sl38 : Array (Option Value)} {oc38 kV38 dc38 pm38 cd38 ct38 : Value}
    {f39 : Addr} {od39 an39 : Option Addr} {sl39 : Array (Option Value)} {oc39 kV39 dc39 pm39 cd39 ct39 : Value}
    {f40 : Addr} {od40 an40 : Option Addr} {sl40 : Array (Option Value)} {oc40 kV40 dc40 pm40 cd40 ct40 : Value}
    {CWalk : Addr}
    {fWalk___init__ : Addr} {odWalk___init__ anWalk___init__ : Option Addr} {slWalk___init__ : Array (Option Value)} {ocWalk___init__ kVWalk___init__ dcWalk___init__ pmWalk___init__ cdWalk___init__ ctWalk___init__ : Value}
    {fWalk_meet : Addr} {odWalk_meet anWalk_meet : Option Addr} {slWalk_meet : Array (Option Value)} {ocWalk_meet kVWalk_meet dcWalk_meet pmWalk_meet cdWalk_meet ctWalk_meet : Value}
    {fWalk_bits_to : Addr} {odWalk_bits_to anWalk_bits_to : Option Addr} {slWalk_bits_to : Array (Option Value)} {ocWalk_bits_to kVWalk_bits_to dcWalk_bits_to pmWalk_bits_to cdWalk_bits_to ctWalk_bits_to : Value}
    {CBook : Addr}
    {fBook___init__ : Addr} {odBook___init__ anBook___init__ : Option Addr} {slBook___init__ : Array (Option Value)} {ocBook___init__ kVBook___init__ dcBook___init__ pmBook___init__ cdBook___init__ ctBook___init__ : Value}
    {fBook_check_kept : Addr} {odBook_check_kept anBook_check_kept : Option Addr} {slBook_check_kept : Array (Option Value)} {ocBook_check_kept kVBook_check_kept dcBook_check_kept pmBook_check_kept cdBook_check_kept ctBook_check_kept : Value}
    {fBook_tell : Addr} {odBook_tell anBook_tell : Option Addr} {slBook_tell : Array (Option Value)} {ocBook_tell kVBook_tell dcBook_tell pmBook_tell cdBook_tell ctBook_tell : Value}
    {fBook_forget : Addr} {odBook_forget anBook_forget : Option Addr} {slBook_forget : Array (Option Value)} {ocBook_forget kVBook_forget dcBook_forget pmBook_forget cdBook_forget ctBook_forget : Value}
    {fBook_back : Addr} {odBook_back anBook_back : Option Addr} {slBook_back : Array (Option Value)} {ocBook_back kVBook_back dcBook_back pmBook_back cdBook_back ctBook_back : Value}
    {fBook_names : Addr} {odBook_names anBook_names : Option Addr} {slBook_names : Array (Option Value)} {ocBook_names kVBook_names dcBook_names pmBook_names cdBook_names ctBook_names : Value}
    {fBook_kinds : Addr} {odBook_kinds anBook_kinds : Option Addr} {slBook_kinds : Array (Option Value)} {ocBook_kinds kVBook_kinds dcBook_kinds pmBook_kinds cdBook_kinds ctBook_kinds : Value}
    {t_LONGEST_NAME : Tok}
    {t_MOST_DEEDS : Tok}
    {t_MOST_INPUTS : Tok}
    {t_LETTERS : Tok}
    {pl_PLACES : Addr} {es_PLACES : Array DictEntry} {n_PLACES : Nat}
    {pt0_PLACES : Tok} {pt1_PLACES : Tok} {pt2_PLACES : Tok} {pt3_PLACES : Tok} {pt4_PLACES : Tok} {pt5_PLACES : Tok} {pt6_PLACES : Tok} {pt7_PLACES : Tok} {pt8_PLACES : Tok} {pt9_PLACES : Tok} {pt10_PLACES : Tok}
    {cWideError : Addr}
    {cNoRow : Addr}
    {cNoPair : Addr}
    {cNoName : Addr}
    {cTooMany : Addr}
    {cNothing : Addr}
    (a0 : PySem.W.nsIn K mainGlobals "all_bits" = some (some (.ref f0)))
    (l0 : K.lookup f0 = some ⟨oc0, od0, .func (PySem.W.fnOf "all_bits" "all_bits" (defArgs s_all_bits) (defBody s_all_bits) (defScope s_all_bits) .none kV0 dc0 pm0 an0 cd0 ct0), sl0⟩)
    (c0 : PySem.W.codeIn K cd0 "all_bits" = true) (k0 : PySem.W.keepIn K (.ref f0) = true)
    (a1 : PySem.W.nsIn K mainGlobals "first_carry" = some (some (.ref f1)))
    (l1 : K.lookup f1 = some ⟨oc1, od1, .func (PySem.W.fnOf "first_carry" "first_carry" (defArgs s_first_carry) (defBody s_first_carry) (defScope s_first_carry) .none kV1 dc1 pm1 an1 cd1 ct1), sl1⟩)
    (c1 : PySem.W.codeIn K cd1 "first_carry" = true) (k1 : PySem.W.keepIn K (.ref f1) = true)
    (a2 : PySem.W.nsIn K mainGlobals "deed_bit" = some (some (.ref f2)))
    (l2 : K.lookup f2 = some ⟨oc2, od2, .func (PySem.W.fnOf "deed_bit" "deed_bit" (defArgs s_deed_bit) (defBody s_deed_bit) (defScope s_deed_bit) .none kV2 dc2 pm2 an2 cd2 ct2), sl2⟩)
    (c2 : PySem.W.codeIn K cd2 "deed_bit" = true) (k2 : PySem.W.keepIn K (.ref f2) = true)
    (a3 : PySem.W.nsIn K mainGlobals "bits_of" = some (some (.ref f3)))
    (l3 : K.lookup f3 = some ⟨oc3, od3, .func (PySem.W.fnOf "bits_of" "bits_of" (defArgs s_bits_of) (defBody s_bits_of) (defScope s_bits_of) .none kV3 dc3 pm3 an3 cd3 ct3), sl3⟩)
    (c3 : PySem.W.codeIn K cd3 "bits_of" = true) (k3 : PySem.W.keepIn K (.ref f3) = true)
    (a4 : PySem.W.nsIn K mainGlobals "two_or_more" = some (some (.ref f4)))
    (l4 : K.lookup f4 = some ⟨oc4, od4, .func (PySem.W.fnOf "two_or_more" "two_or_more" (defArgs s_two_or_more) (defBody s_two_or_more) (defScope s_two_or_more) .none kV4 dc4 pm4 an4 cd4 ct4), sl4⟩)
    (c4 : PySem.W.codeIn K cd4 "two_or_more" = true) (k4 : PySem.W.keepIn K (.ref f4) = true)
    (a5 : PySem.W.nsIn K mainGlobals "deed_carry" = some (some (.ref f5)))
    (l5 : K.lookup f5 = some ⟨oc5, od5, .func (PySem.W.fnOf "deed_carry" "deed_carry" (defArgs s_deed_carry) (defBody s_deed_carry) (defScope s_deed_carry) .none kV5 dc5 pm5 an5 cd5 ct5), sl5⟩)
    (c5 : PySem.W.codeIn K cd5 "deed_carry" = true) (k5 : PySem.W.keepIn K (.ref f5) = true)
    (a6 : PySem.W.nsIn K mainGlobals "carry_behind" = some (some (.ref f6)))
    (l6 : K.lookup f6 = some ⟨oc6, od6, .func (PySem.W.fnOf "carry_behind" "carry_behind" (defArgs s_carry_behind) (defBody s_carry_behind) (defScope s_carry_behind) .none kV6 dc6 pm6 an6 cd6 ct6), sl6⟩)
    (c6 : PySem.W.codeIn K cd6 "carry_behind" = true) (k6 : PySem.W.keepIn K (.ref f6) = true)
    (a7 : PySem.W.nsIn K mainGlobals "steps" = some (some (.ref f7)))
    (l7 : K.lookup f7 = some ⟨oc7, od7, .func (PySem.W.fnOf "steps" "steps" (defArgs s_steps) (defBody s_steps) (defScope s_steps) .none kV7 dc7 pm7 an7 cd7 ct7), sl7⟩)
    (c7 : PySem.W.codeIn K cd7 "steps" = true) (k7 : PySem.W.keepIn K (.ref f7) = true)
    (a8 : PySem.W.nsIn K mainGlobals "kept_steps" = some (some (.ref f8)))
    (l8 : K.lookup f8 = some ⟨oc8, od8, .func (PySem.W.fnOf "kept_steps" "kept_steps" (defArgs s_kept_steps) (defBody s_kept_steps) (defScope s_kept_steps) .none kV8 dc8 pm8 an8 cd8 ct8), sl8⟩)
    (c8 : PySem.W.codeIn K cd8 "kept_steps" = true) (k8 : PySem.W.keepIn K (.ref f8) = true)
    (a9 : PySem.W.nsIn K mainGlobals "both_steps" = some (some (.ref f9)))
    (l9 : K.lookup f9 = some ⟨oc9, od9, .func (PySem.W.fnOf "both_steps" "both_steps" (defArgs s_both_steps) (defBody s_both_steps) (defScope s_both_steps) .none kV9 dc9 pm9 an9 cd9 ct9), sl9⟩)
    (c9 : PySem.W.codeIn K cd9 "both_steps" = true) (k9 : PySem.W.keepIn K (.ref f9) = true)
    (a10 : PySem.W.nsIn K mainGlobals "words_of" = some (some (.ref f10)))
    (l10 : K.lookup f10 = some ⟨oc10, od10, .func (PySem.W.fnOf "words_of" "words_of" (defArgs s_words_of) (defBody s_words_of) (defScope s_words_of) .none kV10 dc10 pm10 an10 cd10 ct10), sl10⟩)
    (c10 : PySem.W.codeIn K cd10 "words_of" = true) (k10 : PySem.W.keepIn K (.ref f10) = true)
    (a11 : PySem.W.nsIn K mainGlobals "whole_machine" = some (some (.ref f11)))
    (l11 : K.lookup f11 = some ⟨oc11, od11, .func (PySem.W.fnOf "whole_machine" "whole_machine" (defArgs s_whole_machine) (defBody s_whole_machine) (defScope s_whole_machine) .none kV11 dc11 pm11 an11 cd11 ct11), sl11⟩)
    (c11 : PySem.W.codeIn K cd11 "whole_machine" = true) (k11 : PySem.W.keepIn K (.ref f11) = true)
    (a12 : PySem.W.nsIn K mainGlobals "numbered" = some (some (.ref f12)))
    (l12 : K.lookup f12 = some ⟨oc12, od12, .func (PySem.W.fnOf "numbered" "numbered" (defArgs s_numbered) (defBody s_numbered) (defScope s_numbered) .none kV12 dc12 pm12 an12 cd12 ct12), sl12⟩)
    (c12 : PySem.W.codeIn K cd12 "numbered" = true) (k12 : PySem.W.keepIn K (.ref f12) = true)
    (a13 : PySem.W.nsIn K mainGlobals "kinds_of_states" = some (some (.ref f13)))
    (l13 : K.lookup f13 = some ⟨oc13, od13, .func (PySem.W.fnOf "kinds_of_states" "kinds_of_states" (defArgs s_kinds_of_states) (defBody s_kinds_of_states) (defScope s_kinds_of_states) .none kV13 dc13 pm13 an13 cd13 ct13), sl13⟩)
    (c13 : PySem.W.codeIn K cd13 "kinds_of_states" = true) (k13 : PySem.W.keepIn K (.ref f13) = true)
    (a14 : PySem.W.nsIn K mainGlobals "least_machine" = some (some (.ref f14)))
    (l14 : K.lookup f14 = some ⟨oc14, od14, .func (PySem.W.fnOf "least_machine" "least_machine" (defArgs s_least_machine) (defBody s_least_machine) (defScope s_least_machine) .none kV14 dc14 pm14 an14 cd14 ct14), sl14⟩)
    (c14 : PySem.W.codeIn K cd14 "least_machine" = true) (k14 : PySem.W.keepIn K (.ref f14) = true)
    (a15 : PySem.W.nsIn K mainGlobals "is_whole" = some (some (.ref f15)))
    (l15 : K.lookup f15 = some ⟨oc15, od15, .func (PySem.W.fnOf "is_whole" "is_whole" (defArgs s_is_whole) (defBody s_is_whole) (defScope s_is_whole) .none kV15 dc15 pm15 an15 cd15 ct15), sl15⟩)
    (c15 : PySem.W.codeIn K cd15 "is_whole" = true) (k15 : PySem.W.keepIn K (.ref f15) = true)
    (a16 : PySem.W.nsIn K mainGlobals "is_number_below" = some (some (.ref f16)))
    (l16 : K.lookup f16 = some ⟨oc16, od16, .func (PySem.W.fnOf "is_number_below" "is_number_below" (defArgs s_is_number_below) (defBody s_is_number_below) (defScope s_is_number_below) .none kV16 dc16 pm16 an16 cd16 ct16), sl16⟩)
    (c16 : PySem.W.codeIn K cd16 "is_number_below" = true) (k16 : PySem.W.keepIn K (.ref f16) = true)
    (a17 : PySem.W.nsIn K mainGlobals "is_deed" = some (some (.ref f17)))
    (l17 : K.lookup f17 = some ⟨oc17, od17, .func (PySem.W.fnOf "is_deed" "is_deed" (defArgs s_is_deed) (defBody s_is_deed) (defScope s_is_deed) .none kV17 dc17 pm17 an17 cd17 ct17), sl17⟩)
    (c17 : PySem.W.codeIn K cd17 "is_deed" = true) (k17 : PySem.W.keepIn K (.ref f17) = true)
    (a18 : PySem.W.nsIn K mainGlobals "are_deeds" = some (some (.ref f18)))
    (l18 : K.lookup f18 = some ⟨oc18, od18, .func (PySem.W.fnOf "are_deeds" "are_deeds" (defArgs s_are_deeds) (defBody s_are_deeds) (defScope s_are_deeds) .none kV18 dc18 pm18 an18 cd18 ct18), sl18⟩)
    (c18 : PySem.W.codeIn K cd18 "are_deeds" = true) (k18 : PySem.W.keepIn K (.ref f18) = true)
    (a19 : PySem.W.nsIn K mainGlobals "is_row" = some (some (.ref f19)))
    (l19 : K.lookup f19 = some ⟨oc19, od19, .func (PySem.W.fnOf "is_row" "is_row" (defArgs s_is_row) (defBody s_is_row) (defScope s_is_row) .none kV19 dc19 pm19 an19 cd19 ct19), sl19⟩)
    (c19 : PySem.W.codeIn K cd19 "is_row" = true) (k19 : PySem.W.keepIn K (.ref f19) = true)
    (a20 : PySem.W.nsIn K mainGlobals "renumbered" = some (some (.ref f20)))
    (l20 : K.lookup f20 = some ⟨oc20, od20, .func (PySem.W.fnOf "renumbered" "renumbered" (defArgs s_renumbered) (defBody s_renumbered) (defScope s_renumbered) .none kV20 dc20 pm20 an20 cd20 ct20), sl20⟩)
    (c20 : PySem.W.codeIn K cd20 "renumbered" = true) (k20 : PySem.W.keepIn K (.ref f20) = true)
    (a21 : PySem.W.nsIn K mainGlobals "is_name" = some (some (.ref f21)))
    (l21 : K.lookup f21 = some ⟨oc21, od21, .func (PySem.W.fnOf "is_name" "is_name" (defArgs s_is_name) (defBody s_is_name) (defScope s_is_name) .none kV21 dc21 pm21 an21 cd21 ct21), sl21⟩)
    (c21 : PySem.W.codeIn K cd21 "is_name" = true) (k21 : PySem.W.keepIn K (.ref f21) = true)
    (a22 : PySem.W.nsIn K mainGlobals "check_name" = some (some (.ref f22)))
    (l22 : K.lookup f22 = some ⟨oc22, od22, .func (PySem.W.fnOf "check_name" "check_name" (defArgs s_check_name) (defBody s_check_name) (defScope s_check_name) .none kV22 dc22 pm22 an22 cd22 ct22), sl22⟩)
    (c22 : PySem.W.codeIn K cd22 "check_name" = true) (k22 : PySem.W.keepIn K (.ref f22) = true)
    (a23 : PySem.W.nsIn K mainGlobals "look_of" = some (some (.ref f23)))
    (l23 : K.lookup f23 = some ⟨oc23, od23, .func (PySem.W.fnOf "look_of" "look_of" (defArgs s_look_of) (defBody s_look_of) (defScope s_look_of) .none kV23 dc23 pm23 an23 cd23 ct23), sl23⟩)
    (c23 : PySem.W.codeIn K cd23 "look_of" = true) (k23 : PySem.W.keepIn K (.ref f23) = true)
    (a24 : PySem.W.nsIn K mainGlobals "check_pair" = some (some (.ref f24)))
    (l24 : K.lookup f24 = some ⟨oc24, od24, .func (PySem.W.fnOf "check_pair" "check_pair" (defArgs s_check_pair) (defBody s_check_pair) (defScope s_check_pair) .none kV24 dc24 pm24 an24 cd24 ct24), sl24⟩)
    (c24 : PySem.W.codeIn K cd24 "check_pair" = true) (k24 : PySem.W.keepIn K (.ref f24) = true)
    (a25 : PySem.W.nsIn K mainGlobals "alike" = some (some (.ref f25)))
    (l25 : K.lookup f25 = some ⟨oc25, od25, .func (PySem.W.fnOf "alike" "alike" (defArgs s_alike) (defBody s_alike) (defScope s_alike) .none kV25 dc25 pm25 an25 cd25 ct25), sl25⟩)
    (c25 : PySem.W.codeIn K cd25 "alike" = true) (k25 : PySem.W.keepIn K (.ref f25) = true)
    (a26 : PySem.W.nsIn K mainGlobals "check_parts" = some (some (.ref f26)))
    (l26 : K.lookup f26 = some ⟨oc26, od26, .func (PySem.W.fnOf "check_parts" "check_parts" (defArgs s_check_parts) (defBody s_check_parts) (defScope s_check_parts) .none kV26 dc26 pm26 an26 cd26 ct26), sl26⟩)
    (c26 : PySem.W.codeIn K cd26 "check_parts" = true) (k26 : PySem.W.keepIn K (.ref f26) = true)
    (a27 : PySem.W.nsIn K mainGlobals "put_behind" = some (some (.ref f27)))
    (l27 : K.lookup f27 = some ⟨oc27, od27, .func (PySem.W.fnOf "put_behind" "put_behind" (defArgs s_put_behind) (defBody s_put_behind) (defScope s_put_behind) .none kV27 dc27 pm27 an27 cd27 ct27), sl27⟩)
    (c27 : PySem.W.codeIn K cd27 "put_behind" = true) (k27 : PySem.W.keepIn K (.ref f27) = true)
    (a28 : PySem.W.nsIn K mainGlobals "put_together" = some (some (.ref f28)))
    (l28 : K.lookup f28 = some ⟨oc28, od28, .func (PySem.W.fnOf "put_together" "put_together" (defArgs s_put_together) (defBody s_put_together) (defScope s_put_together) .none kV28 dc28 pm28 an28 cd28 ct28), sl28⟩)
    (c28 : PySem.W.codeIn K cd28 "put_together" = true) (k28 : PySem.W.keepIn K (.ref f28) = true)
    (a29 : PySem.W.nsIn K mainGlobals "_law_well" = some (some (.ref f29)))
    (l29 : K.lookup f29 = some ⟨oc29, od29, .func (PySem.W.fnOf "_law_well" "_law_well" (defArgs s_law_well) (defBody s_law_well) (defScope s_law_well) .none kV29 dc29 pm29 an29 cd29 ct29), sl29⟩)
    (c29 : PySem.W.codeIn K cd29 "_law_well" = true) (k29 : PySem.W.keepIn K (.ref f29) = true)
    (a30 : PySem.W.nsIn K mainGlobals "_law_draw" = some (some (.ref f30)))
    (l30 : K.lookup f30 = some ⟨oc30, od30, .func (PySem.W.fnOf "_law_draw" "_law_draw" (defArgs s_law_draw) (defBody s_law_draw) (defScope s_law_draw) .none kV30 dc30 pm30 an30 cd30 ct30), sl30⟩)
    (c30 : PySem.W.codeIn K cd30 "_law_draw" = true) (k30 : PySem.W.keepIn K (.ref f30) = true)
    (a31 : PySem.W.nsIn K mainGlobals "_law_first_words" = some (some (.ref f31)))
    (l31 : K.lookup f31 = some ⟨oc31, od31, .func (PySem.W.fnOf "_law_first_words" "_law_first_words" (defArgs s_law_first_words) (defBody s_law_first_words) (defScope s_law_first_words) .none kV31 dc31 pm31 an31 cd31 ct31), sl31⟩)
    (c31 : PySem.W.codeIn K cd31 "_law_first_words" = true) (k31 : PySem.W.keepIn K (.ref f31) = true)
    (a32 : PySem.W.nsIn K mainGlobals "_law_deed" = some (some (.ref f32)))
    (l32 : K.lookup f32 = some ⟨oc32, od32, .func (PySem.W.fnOf "_law_deed" "_law_deed" (defArgs s_law_deed) (defBody s_law_deed) (defScope s_law_deed) .none kV32 dc32 pm32 an32 cd32 ct32), sl32⟩)
    (c32 : PySem.W.codeIn K cd32 "_law_deed" = true) (k32 : PySem.W.keepIn K (.ref f32) = true)
    (a33 : PySem.W.nsIn K mainGlobals "_law_row" = some (some (.ref f33)))
    (l33 : K.lookup f33 = some ⟨oc33, od33, .func (PySem.W.fnOf "_law_row" "_law_row" (defArgs s_law_row) (defBody s_law_row) (defScope s_law_row) .none kV33 dc33 pm33 an33 cd33 ct33), sl33⟩)
    (c33 : PySem.W.codeIn K cd33 "_law_row" = true) (k33 : PySem.W.keepIn K (.ref f33) = true)
    (a34 : PySem.W.nsIn K mainGlobals "_law_names" = some (some (.ref f34)))
    (l34 : K.lookup f34 = some ⟨oc34, od34, .func (PySem.W.fnOf "_law_names" "_law_names" (defArgs s_law_names) (defBody s_law_names) (defScope s_law_names) .none kV34 dc34 pm34 an34 cd34 ct34), sl34⟩)
    (c34 : PySem.W.codeIn K cd34 "_law_names" = true) (k34 : PySem.W.keepIn K (.ref f34) = true)
    (a35 : PySem.W.nsIn K mainGlobals "_law_of_one" = some (some (.ref f35)))
    (l35 : K.lookup f35 = some ⟨oc35, od35, .func (PySem.W.fnOf "_law_of_one" "_law_of_one" (defArgs s_law_of_one) (defBody s_law_of_one) (defScope s_law_of_one) .none kV35 dc35 pm35 an35 cd35 ct35), sl35⟩)
    (c35 : PySem.W.codeIn K cd35 "_law_of_one" = true) (k35 : PySem.W.keepIn K (.ref f35) = true)
    (a36 : PySem.W.nsIn K mainGlobals "_law_places" = some (some (.ref f36)))
    (l36 : K.lookup f36 = some ⟨oc36, od36, .func (PySem.W.fnOf "_law_places" "_law_places" (defArgs s_law_places) (defBody s_law_places) (defScope s_law_places) .none kV36 dc36 pm36 an36 cd36 ct36), sl36⟩)
    (c36 : PySem.W.codeIn K cd36 "_law_places" = true) (k36 : PySem.W.keepIn K (.ref f36) = true)
    (a37 : PySem.W.nsIn K mainGlobals "_law_kinds_right" = some (some (.ref f37)))
    (l37 : K.lookup f37 = some ⟨oc37, od37, .func (PySem.W.fnOf "_law_kinds_right" "_law_kinds_right" (defArgs s_law_kinds_right) (defBody s_law_kinds_right) (defScope s_law_kinds_right) .none kV37 dc37 pm37 an37 cd37 ct37), sl37⟩)
    (c37 : PySem.W.codeIn K cd37 "_law_kinds_right" = true) (k37 : PySem.W.keepIn K (.ref f37) = true)
    (a38 : PySem.W.nsIn K mainGlobals "_law_made_of" = some (some (.ref f38)))
    (l38 : K.lookup f38 = some ⟨oc38, od38, .func (PySem.W.fnOf "_law_made_of" "_law_made_of" (defArgs s_law_made_of) (defBody s_law_made_of) (defScope s_law_made_of) .none kV38 dc38 pm38 an38 cd38 ct38), sl38⟩)
    (c38 : PySem.W.codeIn K cd38 "_law_made_of" = true) (k38 : PySem.W.keepIn K (.ref f38) = true)
    (a39 : PySem.W.nsIn K mainGlobals "_law_long_right" = some (some (.ref f39)))
    (l39 : K.lookup f39 = some ⟨oc39, od39, .func (PySem.W.fnOf "_law_long_right" "_law_long_right" (defArgs s_law_long_right) (defBody s_law_long_right) (defScope s_law_long_right) .none kV39 dc39 pm39 an39 cd39 ct39), sl39⟩)
    (c39 : PySem.W.codeIn K cd39 "_law_long_right" = true) (k39 : PySem.W.keepIn K (.ref f39) = true)
    (a40 : PySem.W.nsIn K mainGlobals "law" = some (some (.ref f40)))
    (l40 : K.lookup f40 = some ⟨oc40, od40, .func (PySem.W.fnOf "law" "law" (defArgs s_law) (defBody s_law) (defScope s_law) .none kV40 dc40 pm40 an40 cd40 ct40), sl40⟩)
    (c40 : PySem.W.codeIn K cd40 "law" = true) (k40 : PySem.W.keepIn K (.ref f40) = true)
    (oa_Walk : PySem.W.nsIn K mainGlobals "Walk" = some (some (.ref CWalk)))
    (ma_Walk___init__ : PySem.W.findIn K (.ref CWalk) "__init__" = some (some (.ref fWalk___init__)))
    (mi_Walk___init__ : PySem.W.isFn K (.ref fWalk___init__) = true)
    (ml_Walk___init__ : K.lookup fWalk___init__ = some ⟨ocWalk___init__, odWalk___init__, .func (PySem.W.fnOf "__init__" "Walk.__init__" (defArgs sWalk___init__) (defBody sWalk___init__) (defScope sWalk___init__) .none kVWalk___init__ dcWalk___init__ pmWalk___init__ anWalk___init__ cdWalk___init__ ctWalk___init__), slWalk___init__⟩)
    (mc_Walk___init__ : PySem.W.codeIn K cdWalk___init__ "Walk.__init__" = true)
    (mk_Walk___init__ : PySem.W.keepIn K (.ref fWalk___init__) = true)
    (ma_Walk_meet : PySem.W.findIn K (.ref CWalk) "meet" = some (some (.ref fWalk_meet)))
    (mi_Walk_meet : PySem.W.isFn K (.ref fWalk_meet) = true)
    (ml_Walk_meet : K.lookup fWalk_meet = some ⟨ocWalk_meet, odWalk_meet, .func (PySem.W.fnOf "meet" "Walk.meet" (defArgs sWalk_meet) (defBody sWalk_meet) (defScope sWalk_meet) .none kVWalk_meet dcWalk_meet pmWalk_meet anWalk_meet cdWalk_meet ctWalk_meet), slWalk_meet⟩)
    (mc_Walk_meet : PySem.W.codeIn K cdWalk_meet "Walk.meet" = true)
    (mk_Walk_meet : PySem.W.keepIn K (.ref fWalk_meet) = true)
    (ma_Walk_bits_to : PySem.W.findIn K (.ref CWalk) "bits_to" = some (some (.ref fWalk_bits_to)))
    (mi_Walk_bits_to : PySem.W.isFn K (.ref fWalk_bits_to) = true)
    (ml_Walk_bits_to : K.lookup fWalk_bits_to = some ⟨ocWalk_bits_to, odWalk_bits_to, .func (PySem.W.fnOf "bits_to" "Walk.bits_to" (defArgs sWalk_bits_to) (defBody sWalk_bits_to) (defScope sWalk_bits_to) .none kVWalk_bits_to dcWalk_bits_to pmWalk_bits_to anWalk_bits_to cdWalk_bits_to ctWalk_bits_to), slWalk_bits_to⟩)
    (mc_Walk_bits_to : PySem.W.codeIn K cdWalk_bits_to "Walk.bits_to" = true)
    (mk_Walk_bits_to : PySem.W.keepIn K (.ref fWalk_bits_to) = true)
    (pg_Walk : PySem.W.plainGet K CWalk Str.empty = true)
    (hd_Walk : PySem.W.hasDictIn K CWalk = true)
    (po_Walk : PySem.W.plainOver K CWalk = true)
    (sa_Walk : PySem.W.findIn K (.ref CWalk) "__setattr__" = some (some (.builtin "object.__setattr__")))
    (mk_Walk : PySem.W.makesIn K CWalk = true)
    (kc_Walk : PySem.W.keepIn K (.ref CWalk) = true)
    (na_Walk_met : PySem.W.findIn K (.ref CWalk) "met" = some none)
    (na_Walk_numbers : PySem.W.findIn K (.ref CWalk) "numbers" = some none)
    (na_Walk_ways : PySem.W.findIn K (.ref CWalk) "ways" = some none)
    (oa_Book : PySem.W.nsIn K mainGlobals "Book" = some (some (.ref CBook)))
    (ma_Book___init__ : PySem.W.findIn K (.ref CBook) "__init__" = some (some (.ref fBook___init__)))
    (mi_Book___init__ : PySem.W.isFn K (.ref fBook___init__) = true)
    (ml_Book___init__ : K.lookup fBook___init__ = some ⟨ocBook___init__, odBook___init__, .func (PySem.W.fnOf "__init__" "Book.__init__" (defArgs sBook___init__) (defBody sBook___init__) (defScope sBook___init__) .none kVBook___init__ dcBook___init__ pmBook___init__ anBook___init__ cdBook___init__ ctBook___init__), slBook___init__⟩)
    (mc_Book___init__ : PySem.W.codeIn K cdBook___init__ "Book.__init__" = true)
    (mk_Book___init__ : PySem.W.keepIn K (.ref fBook___init__) = true)
    (ma_Book_check_kept : PySem.W.findIn K (.ref CBook) "check_kept" = some (some (.ref fBook_check_kept)))
    (mi_Book_check_kept : PySem.W.isFn K (.ref fBook_check_kept) = true)
    (ml_Book_check_kept : K.lookup fBook_check_kept = some ⟨ocBook_check_kept, odBook_check_kept, .func (PySem.W.fnOf "check_kept" "Book.check_kept" (defArgs sBook_check_kept) (defBody sBook_check_kept) (defScope sBook_check_kept) .none kVBook_check_kept dcBook_check_kept pmBook_check_kept anBook_check_kept cdBook_check_kept ctBook_check_kept), slBook_check_kept⟩)
    (mc_Book_check_kept : PySem.W.codeIn K cdBook_check_kept "Book.check_kept" = true)
    (mk_Book_check_kept : PySem.W.keepIn K (.ref fBook_check_kept) = true)
    (ma_Book_tell : PySem.W.findIn K (.ref CBook) "tell" = some (some (.ref fBook_tell)))
    (mi_Book_tell : PySem.W.isFn K (.ref fBook_tell) = true)
    (ml_Book_tell : K.lookup fBook_tell = some ⟨ocBook_tell, odBook_tell, .func (PySem.W.fnOf "tell" "Book.tell" (defArgs sBook_tell) (defBody sBook_tell) (defScope sBook_tell) .none kVBook_tell dcBook_tell pmBook_tell anBook_tell cdBook_tell ctBook_tell), slBook_tell⟩)
    (mc_Book_tell : PySem.W.codeIn K cdBook_tell "Book.tell" = true)
    (mk_Book_tell : PySem.W.keepIn K (.ref fBook_tell) = true)
    (ma_Book_forget : PySem.W.findIn K (.ref CBook) "forget" = some (some (.ref fBook_forget)))
    (mi_Book_forget : PySem.W.isFn K (.ref fBook_forget) = true)
    (ml_Book_forget : K.lookup fBook_forget = some ⟨ocBook_forget, odBook_forget, .func (PySem.W.fnOf "forget" "Book.forget" (defArgs sBook_forget) (defBody sBook_forget) (defScope sBook_forget) .none kVBook_forget dcBook_forget pmBook_forget anBook_forget cdBook_forget ctBook_forget), slBook_forget⟩)
    (mc_Book_forget : PySem.W.codeIn K cdBook_forget "Book.forget" = true)
    (mk_Book_forget : PySem.W.keepIn K (.ref fBook_forget) = true)
    (ma_Book_back : PySem.W.findIn K (.ref CBook) "back" = some (some (.ref fBook_back)))
    (mi_Book_back : PySem.W.isFn K (.ref fBook_back) = true)
    (ml_Book_back : K.lookup fBook_back = some ⟨ocBook_back, odBook_back, .func (PySem.W.fnOf "back" "Book.back" (defArgs sBook_back) (defBody sBook_back) (defScope sBook_back) .none kVBook_back dcBook_back pmBook_back anBook_back cdBook_back ctBook_back), slBook_back⟩)
    (mc_Book_back : PySem.W.codeIn K cdBook_back "Book.back" = true)
    (mk_Book_back : PySem.W.keepIn K (.ref fBook_back) = true)
    (ma_Book_names : PySem.W.findIn K (.ref CBook) "names" = some (some (.ref fBook_names)))
    (mi_Book_names : PySem.W.isFn K (.ref fBook_names) = true)
    (ml_Book_names : K.lookup fBook_names = some ⟨ocBook_names, odBook_names, .func (PySem.W.fnOf "names" "Book.names" (defArgs sBook_names) (defBody sBook_names) (defScope sBook_names) .none kVBook_names dcBook_names pmBook_names anBook_names cdBook_names ctBook_names), slBook_names⟩)
    (mc_Book_names : PySem.W.codeIn K cdBook_names "Book.names" = true)
    (mk_Book_names : PySem.W.keepIn K (.ref fBook_names) = true)
    (ma_Book_kinds : PySem.W.findIn K (.ref CBook) "kinds" = some (some (.ref fBook_kinds)))
    (mi_Book_kinds : PySem.W.isFn K (.ref fBook_kinds) = true)
    (ml_Book_kinds : K.lookup fBook_kinds = some ⟨ocBook_kinds, odBook_kinds, .func (PySem.W.fnOf "kinds" "Book.kinds" (defArgs sBook_kinds) (defBody sBook_kinds) (defScope sBook_kinds) .none kVBook_kinds dcBook_kinds pmBook_kinds anBook_kinds cdBook_kinds ctBook_kinds), slBook_kinds⟩)
    (mc_Book_kinds : PySem.W.codeIn K cdBook_kinds "Book.kinds" = true)
    (mk_Book_kinds : PySem.W.keepIn K (.ref fBook_kinds) = true)
    (pg_Book : PySem.W.plainGet K CBook Str.empty = true)
    (hd_Book : PySem.W.hasDictIn K CBook = true)
    (po_Book : PySem.W.plainOver K CBook = true)
    (sa_Book : PySem.W.findIn K (.ref CBook) "__setattr__" = some (some (.builtin "object.__setattr__")))
    (mk_Book : PySem.W.makesIn K CBook = true)
    (kc_Book : PySem.W.keepIn K (.ref CBook) = true)
    (na_Book_kept : PySem.W.findIn K (.ref CBook) "kept" = some none)
    (na_Book_done : PySem.W.findIn K (.ref CBook) "done" = some none)
    (na_Book_looks : PySem.W.findIn K (.ref CBook) "looks" = some none)
    (v_LONGEST_NAME : PySem.W.nsIn K mainGlobals "LONGEST_NAME" = some (some (.int 8 t_LONGEST_NAME)))
    (v_MOST_DEEDS : PySem.W.nsIn K mainGlobals "MOST_DEEDS" = some (some (.int 8 t_MOST_DEEDS)))
    (v_MOST_INPUTS : PySem.W.nsIn K mainGlobals "MOST_INPUTS" = some (some (.int 3 t_MOST_INPUTS)))
    (v_LETTERS : PySem.W.nsIn K mainGlobals "LETTERS" = some (some (.str "abcdefghijklmnopqrstuvwxyz" t_LETTERS)))
    (v_PLACES : PySem.W.nsIn K mainGlobals "PLACES" = some (some (.ref pl_PLACES)))
    (pa_PLACES : K.lookup pl_PLACES = some ⟨.type "dict", none, .dict es_PLACES n_PLACES, #[]⟩)
    (pw0_PLACES : PySem.W.nsIn K pl_PLACES "none" = some (some (.int 0 pt0_PLACES)))
    (pw1_PLACES : PySem.W.nsIn K pl_PLACES "one" = some (some (.int 0 pt1_PLACES)))
    (pw2_PLACES : PySem.W.nsIn K pl_PLACES "all" = some (some (.int 0 pt2_PLACES)))
    (pw3_PLACES : PySem.W.nsIn K pl_PLACES "not" = some (some (.int 1 pt3_PLACES)))
    (pw4_PLACES : PySem.W.nsIn K pl_PLACES "neg" = some (some (.int 1 pt4_PLACES)))
    (pw5_PLACES : PySem.W.nsIn K pl_PLACES "twice" = some (some (.int 1 pt5_PLACES)))
    (pw6_PLACES : PySem.W.nsIn K pl_PLACES "and" = some (some (.int 2 pt6_PLACES)))
    (pw7_PLACES : PySem.W.nsIn K pl_PLACES "or" = some (some (.int 2 pt7_PLACES)))
    (pw8_PLACES : PySem.W.nsIn K pl_PLACES "xor" = some (some (.int 2 pt8_PLACES)))
    (pw9_PLACES : PySem.W.nsIn K pl_PLACES "add" = some (some (.int 2 pt9_PLACES)))
    (pw10_PLACES : PySem.W.nsIn K pl_PLACES "sub" = some (some (.int 2 pt10_PLACES)))
    (pk_PLACES : PySem.W.KeysLit w.params es_PLACES.toList)
    (pz_PLACES : (pl_PLACES == sysModules) = false)
    (pf_PLACES : KeysFw es_PLACES.toList)
    (a_WideError : PySem.W.nsIn K mainGlobals "WideError" = some (some (.ref cWideError)))
    (x_WideError : PySem.W.excIn K cWideError [.type "ValueError", .type "Exception", .type "BaseException", .type "object"] "ValueError.__new__" = true)
    (k_WideError : PySem.W.keepIn K (.ref cWideError) = true)
    (e1_WideError : PySem.W.findIn K (.ref cWideError) "__getattribute__" = some (some (.builtin "BaseException.__getattribute__")))
    (e2_WideError : PySem.W.findIn K (.ref cWideError) "__getattr__" = some none)
    (e3_WideError : PySem.W.subIn K (.ref cWideError) (.type "BaseException") = some true)
    (e4_WideError : PySem.W.hasDictIn K cWideError = true)
    (e5_WideError : PySem.W.findIn K (.ref cWideError) "__class__" = some (some (.builtin "object.__class__")))
    (e6_WideError : PySem.W.specialIn K (.builtin "object.__class__") "__get__" = some (some (.builtin "getset_descriptor.__get__")))
    (e7_WideError : PySem.W.takesIn K (.builtin "object.__class__") = some true)
    (e8_WideError : PySem.W.mroIn K cWideError (.type "object") = some true)
    (e9_WideError : PySem.W.isClsIn K cWideError = true)
    (e10_WideError : PySem.W.typeIn K (.ref cWideError) = some (.type "type"))
    (e11_WideError : PySem.W.subIn K (.ref cWideError) (.type "ValueError") = some true)
    (a_NoRow : PySem.W.nsIn K mainGlobals "NoRow" = some (some (.ref cNoRow)))
    (x_NoRow : PySem.W.excIn K cNoRow [.type "ValueError", .type "Exception", .type "BaseException", .type "object"] "ValueError.__new__" = true)
    (k_NoRow : PySem.W.keepIn K (.ref cNoRow) = true)
    (e1_NoRow : PySem.W.findIn K (.ref cNoRow) "__getattribute__" = some (some (.builtin "BaseException.__getattribute__")))
    (e2_NoRow : PySem.W.findIn K (.ref cNoRow) "__getattr__" = some none)
    (e3_NoRow : PySem.W.subIn K (.ref cNoRow) (.type "BaseException") = some true)
    (e4_NoRow : PySem.W.hasDictIn K cNoRow = true)
    (e5_NoRow : PySem.W.findIn K (.ref cNoRow) "__class__" = some (some (.builtin "object.__class__")))
    (e6_NoRow : PySem.W.specialIn K (.builtin "object.__class__") "__get__" = some (some (.builtin "getset_descriptor.__get__")))
    (e7_NoRow : PySem.W.takesIn K (.builtin "object.__class__") = some true)
    (e8_NoRow : PySem.W.mroIn K cNoRow (.type "object") = some true)
    (e9_NoRow : PySem.W.isClsIn K cNoRow = true)
    (e10_NoRow : PySem.W.typeIn K (.ref cNoRow) = some (.type "type"))
    (e11_NoRow : PySem.W.subIn K (.ref cNoRow) (.type "ValueError") = some true)
    (a_NoPair : PySem.W.nsIn K mainGlobals "NoPair" = some (some (.ref cNoPair)))
    (x_NoPair : PySem.W.excIn K cNoPair [.type "ValueError", .type "Exception", .type "BaseException", .type "object"] "ValueError.__new__" = true)
    (k_NoPair : PySem.W.keepIn K (.ref cNoPair) = true)
    (e1_NoPair : PySem.W.findIn K (.ref cNoPair) "__getattribute__" = some (some (.builtin "BaseException.__getattribute__")))
    (e2_NoPair : PySem.W.findIn K (.ref cNoPair) "__getattr__" = some none)
    (e3_NoPair : PySem.W.subIn K (.ref cNoPair) (.type "BaseException") = some true)
    (e4_NoPair : PySem.W.hasDictIn K cNoPair = true)
    (e5_NoPair : PySem.W.findIn K (.ref cNoPair) "__class__" = some (some (.builtin "object.__class__")))
    (e6_NoPair : PySem.W.specialIn K (.builtin "object.__class__") "__get__" = some (some (.builtin "getset_descriptor.__get__")))
    (e7_NoPair : PySem.W.takesIn K (.builtin "object.__class__") = some true)
    (e8_NoPair : PySem.W.mroIn K cNoPair (.type "object") = some true)
    (e9_NoPair : PySem.W.isClsIn K cNoPair = true)
    (e10_NoPair : PySem.W.typeIn K (.ref cNoPair) = some (.type "type"))
    (e11_NoPair : PySem.W.subIn K (.ref cNoPair) (.type "ValueError") = some true)
    (a_NoName : PySem.W.nsIn K mainGlobals "NoName" = some (some (.ref cNoName)))
    (x_NoName : PySem.W.excIn K cNoName [.type "ValueError", .type "Exception", .type "BaseException", .type "object"] "ValueError.__new__" = true)
    (k_NoName : PySem.W.keepIn K (.ref cNoName) = true)
    (e1_NoName : PySem.W.findIn K (.ref cNoName) "__getattribute__" = some (some (.builtin "BaseException.__getattribute__")))
    (e2_NoName : PySem.W.findIn K (.ref cNoName) "__getattr__" = some none)
    (e3_NoName : PySem.W.subIn K (.ref cNoName) (.type "BaseException") = some true)
    (e4_NoName : PySem.W.hasDictIn K cNoName = true)
    (e5_NoName : PySem.W.findIn K (.ref cNoName) "__class__" = some (some (.builtin "object.__class__")))
    (e6_NoName : PySem.W.specialIn K (.builtin "object.__class__") "__get__" = some (some (.builtin "getset_descriptor.__get__")))
    (e7_NoName : PySem.W.takesIn K (.builtin "object.__class__") = some true)
    (e8_NoName : PySem.W.mroIn K cNoName (.type "object") = some true)
    (e9_NoName : PySem.W.isClsIn K cNoName = true)
    (e10_NoName : PySem.W.typeIn K (.ref cNoName) = some (.type "type"))
    (e11_NoName : PySem.W.subIn K (.ref cNoName) (.type "ValueError") = some true)
    (a_TooMany : PySem.W.nsIn K mainGlobals "TooMany" = some (some (.ref cTooMany)))
    (x_TooMany : PySem.W.excIn K cTooMany [.type "ValueError", .type "Exception", .type "BaseException", .type "object"] "ValueError.__new__" = true)
    (k_TooMany : PySem.W.keepIn K (.ref cTooMany) = true)
    (e1_TooMany : PySem.W.findIn K (.ref cTooMany) "__getattribute__" = some (some (.builtin "BaseException.__getattribute__")))
    (e2_TooMany : PySem.W.findIn K (.ref cTooMany) "__getattr__" = some none)
    (e3_TooMany : PySem.W.subIn K (.ref cTooMany) (.type "BaseException") = some true)
    (e4_TooMany : PySem.W.hasDictIn K cTooMany = true)
    (e5_TooMany : PySem.W.findIn K (.ref cTooMany) "__class__" = some (some (.builtin "object.__class__")))
    (e6_TooMany : PySem.W.specialIn K (.builtin "object.__class__") "__get__" = some (some (.builtin "getset_descriptor.__get__")))
    (e7_TooMany : PySem.W.takesIn K (.builtin "object.__class__") = some true)
    (e8_TooMany : PySem.W.mroIn K cTooMany (.type "object") = some true)
    (e9_TooMany : PySem.W.isClsIn K cTooMany = true)
    (e10_TooMany : PySem.W.typeIn K (.ref cTooMany) = some (.type "type"))
    (e11_TooMany : PySem.W.subIn K (.ref cTooMany) (.type "ValueError") = some true)
    (a_Nothing : PySem.W.nsIn K mainGlobals "Nothing" = some (some (.ref cNothing)))
    (x_Nothing : PySem.W.excIn K cNothing [.type "ValueError", .type "Exception", .type "BaseException", .type "object"] "ValueError.__new__" = true)
    (k_Nothing : PySem.W.keepIn K (.ref cNothing) = true)
    (e1_Nothing : PySem.W.findIn K (.ref cNothing) "__getattribute__" = some (some (.builtin "BaseException.__getattribute__")))
    (e2_Nothing : PySem.W.findIn K (.ref cNothing) "__getattr__" = some none)
    (e3_Nothing : PySem.W.subIn K (.ref cNothing) (.type "BaseException") = some true)
    (e4_Nothing : PySem.W.hasDictIn K cNothing = true)
    (e5_Nothing : PySem.W.findIn K (.ref cNothing) "__class__" = some (some (.builtin "object.__class__")))
    (e6_Nothing : PySem.W.specialIn K (.builtin "object.__class__") "__get__" = some (some (.builtin "getset_descriptor.__get__")))
    (e7_Nothing : PySem.W.takesIn K (.builtin "object.__class__") = some true)
    (e8_Nothing : PySem.W.mroIn K cNothing (.type "object") = some true)
    (e9_Nothing : PySem.W.isClsIn K cNothing = true)
    (e10_Nothing : PySem.W.typeIn K (.ref cNothing) = some (.type "type"))
    (e11_Nothing : PySem.W.subIn K (.ref cNothing) (.type "ValueError") = some true)
    (s_WideError_WideError : PySem.W.subIn K (.ref cWideError) (.ref cWideError) = some true)
    (s_WideError_NoRow : PySem.W.subIn K (.ref cWideError) (.ref cNoRow) = some false)
    (s_WideError_NoPair : PySem.W.subIn K (.ref cWideError) (.ref cNoPair) = some false)
    (s_WideError_NoName : PySem.W.subIn K (.ref cWideError) (.ref cNoName) = some false)
    (s_WideError_TooMany : PySem.W.subIn K (.ref cWideError) (.ref cTooMany) = some false)
    (s_WideError_Nothing : PySem.W.subIn K (.ref cWideError) (.ref cNothing) = some false)
    (s_NoRow_WideError : PySem.W.subIn K (.ref cNoRow) (.ref cWideError) = some true)
    (s_NoRow_NoRow : PySem.W.subIn K (.ref cNoRow) (.ref cNoRow) = some true)
    (s_NoRow_NoPair : PySem.W.subIn K (.ref cNoRow) (.ref cNoPair) = some false)
    (s_NoRow_NoName : PySem.W.subIn K (.ref cNoRow) (.ref cNoName) = some false)
    (s_NoRow_TooMany : PySem.W.subIn K (.ref cNoRow) (.ref cTooMany) = some false)
    (s_NoRow_Nothing : PySem.W.subIn K (.ref cNoRow) (.ref cNothing) = some false)
    (s_NoPair_WideError : PySem.W.subIn K (.ref cNoPair) (.ref cWideError) = some true)
    (s_NoPair_NoRow : PySem.W.subIn K (.ref cNoPair) (.ref cNoRow) = some false)
    (s_NoPair_NoPair : PySem.W.subIn K (.ref cNoPair) (.ref cNoPair) = some true)
    (s_NoPair_NoName : PySem.W.subIn K (.ref cNoPair) (.ref cNoName) = some false)
    (s_NoPair_TooMany : PySem.W.subIn K (.ref cNoPair) (.ref cTooMany) = some false)
    (s_NoPair_Nothing : PySem.W.subIn K (.ref cNoPair) (.ref cNothing) = some false)
    (s_NoName_WideError : PySem.W.subIn K (.ref cNoName) (.ref cWideError) = some true)
    (s_NoName_NoRow : PySem.W.subIn K (.ref cNoName) (.ref cNoRow) = some false)
    (s_NoName_NoPair : PySem.W.subIn K (.ref cNoName) (.ref cNoPair) = some false)
    (s_NoName_NoName : PySem.W.subIn K (.ref cNoName) (.ref cNoName) = some true)
    (s_NoName_TooMany : PySem.W.subIn K (.ref cNoName) (.ref cTooMany) = some false)
    (s_NoName_Nothing : PySem.W.subIn K (.ref cNoName) (.ref cNothing) = some false)
    (s_TooMany_WideError : PySem.W.subIn K (.ref cTooMany) (.ref cWideError) = some true)
    (s_TooMany_NoRow : PySem.W.subIn K (.ref cTooMany) (.ref cNoRow) = some false)
    (s_TooMany_NoPair : PySem.W.subIn K (.ref cTooMany) (.ref cNoPair) = some false)
    (s_TooMany_NoName : PySem.W.subIn K (.ref cTooMany) (.ref cNoName) = some false)
    (s_TooMany_TooMany : PySem.W.subIn K (.ref cTooMany) (.ref cTooMany) = some true)
    (s_TooMany_Nothing : PySem.W.subIn K (.ref cTooMany) (.ref cNothing) = some false)
    (s_Nothing_WideError : PySem.W.subIn K (.ref cNothing) (.ref cWideError) = some true)
    (s_Nothing_NoRow : PySem.W.subIn K (.ref cNothing) (.ref cNoRow) = some false)
    (s_Nothing_NoPair : PySem.W.subIn K (.ref cNothing) (.ref cNoPair) = some false)
    (s_Nothing_NoName : PySem.W.subIn K (.ref cNothing) (.ref cNoName) = some false)
    (s_Nothing_TooMany : PySem.W.subIn K (.ref cNothing) (.ref cTooMany) = some false)
    (s_Nothing_Nothing : PySem.W.subIn K (.ref cNothing) (.ref cNothing) = some true)
    (z_abs : PySem.W.nsIn K mainGlobals "abs" = some none)
    (z_all : PySem.W.nsIn K mainGlobals "all" = some none)
    (z_bool : PySem.W.nsIn K mainGlobals "bool" = some none)
    (z_enumerate : PySem.W.nsIn K mainGlobals "enumerate" = some none)
    (z_int : PySem.W.nsIn K mainGlobals "int" = some none)
    (z_isinstance : PySem.W.nsIn K mainGlobals "isinstance" = some none)
    (z_len : PySem.W.nsIn K mainGlobals "len" = some none)
    (z_list : PySem.W.nsIn K mainGlobals "list" = some none)
    (z_max : PySem.W.nsIn K mainGlobals "max" = some none)
    (z_range : PySem.W.nsIn K mainGlobals "range" = some none)
    (z_sorted : PySem.W.nsIn K mainGlobals "sorted" = some none)
    (z_str : PySem.W.nsIn K mainGlobals "str" = some none)
    (z_sum : PySem.W.nsIn K mainGlobals "sum" = some none)
    (z_tuple : PySem.W.nsIn K mainGlobals "tuple" = some none)
    (z_zip : PySem.W.nsIn K mainGlobals "zip" = some none)
    : ∀ (s : Shared) (a : Addr) (ns : List Int) (base : Heap) (H : Hp), ns.length ≤ 63 → (∀ z ∈ ns, Builtin.Int.intBits z ≤ 1048576) → Env0 l.prog w K mg base callerA [] s H → SqL K H a (ns.map V.int) →
      codeAny (model l.prog w) callerA (.call (.ref fa) ⟨[.ref a], []⟩) (CR CX0 [] l.prog w H s (fun v _ => v = .bl true) E0) s := by
  have F_all_bits := fun_mk (st := s_all_bits) l0 c0 k0
  have b_all_bits := F_all_bits.binds (ps := ["many"]) fun _ _ _ _ _ _ us hl => match us, hl with | [_], _ => rfl
  have g_all_bits := PySem.W.mg_of X G a0
  have F_first_carry := fun_mk (st := s_first_carry) l1 c1 k1
  have b_first_carry := F_first_carry.binds (ps := ["row"]) fun _ _ _ _ _ _ us hl => match us, hl with | [_], _ => rfl
  have g_first_carry := PySem.W.mg_of X G a1
  have F_deed_bit := fun_mk (st := s_deed_bit) l2 c2 k2
  have b_deed_bit := F_deed_bit.binds (ps := ["deed", "held", "told"]) fun _ _ _ _ _ _ us hl => match us, hl with | [_, _, _], _ => rfl
  have g_deed_bit := PySem.W.mg_of X G a2
  have F_bits_of := fun_mk (st := s_bits_of) l3 c3 k3
  have b_bits_of := F_bits_of.binds (ps := ["row", "carry", "bits"]) fun _ _ _ _ _ _ us hl => match us, hl with | [_, _, _], _ => rfl
  have g_bits_of := PySem.W.mg_of X G a3
  have F_two_or_more := fun_mk (st := s_two_or_more) l4 c4 k4
  have b_two_or_more := F_two_or_more.binds (ps := ["one", "other", "third"]) fun _ _ _ _ _ _ us hl => match us, hl with | [_, _, _], _ => rfl
  have g_two_or_more := PySem.W.mg_of X G a4
  have F_deed_carry := fun_mk (st := s_deed_carry) l5 c5 k5
  have b_deed_carry := F_deed_carry.binds (ps := ["deed", "held", "told"]) fun _ _ _ _ _ _ us hl => match us, hl with | [_, _, _], _ => rfl
  have g_deed_carry := PySem.W.mg_of X G a5
  have F_carry_behind := fun_mk (st := s_carry_behind) l6 c6 k6
  have b_carry_behind := F_carry_behind.binds (ps := ["row", "carry", "told"]) fun _ _ _ _ _ _ us hl => match us, hl with | [_, _, _], _ => rfl
  have g_carry_behind := PySem.W.mg_of X G a6
  have F_steps := fun_mk (st := s_steps) l7 c7 k7
  have b_steps := F_steps.binds (ps := ["row", "carry"]) fun _ _ _ _ _ _ us hl => match us, hl with | [_, _], _ => rfl
  have g_steps := PySem.W.mg_of X G a7
  have F_kept_steps := fun_mk (st := s_kept_steps) l8 c8 k8
  have b_kept_steps := F_kept_steps.binds (ps := ["kept", "row", "carry"]) fun _ _ _ _ _ _ us hl => match us, hl with | [_, _, _], _ => rfl
  have g_kept_steps := PySem.W.mg_of X G a8
  have F_both_steps := fun_mk (st := s_both_steps) l9 c9 k9
  have b_both_steps := F_both_steps.binds (ps := ["ones", "others"]) fun _ _ _ _ _ _ us hl => match us, hl with | [_, _], _ => rfl
  have g_both_steps := PySem.W.mg_of X G a9
  have F_words_of := fun_mk (st := s_words_of) l10 c10 k10
  have b_words_of := F_words_of.binds (ps := ["many", "columns"]) fun _ _ _ _ _ _ us hl => match us, hl with | [_, _], _ => rfl
  have g_words_of := PySem.W.mg_of X G a10
  have F_whole_machine := fun_mk (st := s_whole_machine) l11 c11 k11
  have b_whole_machine := F_whole_machine.binds (ps := ["row"]) fun _ _ _ _ _ _ us hl => match us, hl with | [_], _ => rfl
  have g_whole_machine := PySem.W.mg_of X G a11
  have F_numbered := fun_mk (st := s_numbered) l12 c12 k12
  have b_numbered := F_numbered.binds (ps := ["looks"]) fun _ _ _ _ _ _ us hl => match us, hl with | [_], _ => rfl
  have g_numbered := PySem.W.mg_of X G a12
  have F_kinds_of_states := fun_mk (st := s_kinds_of_states) l13 c13 k13
  have b_kinds_of_states := F_kinds_of_states.binds (ps := ["machine"]) fun _ _ _ _ _ _ us hl => match us, hl with | [_], _ => rfl
  have g_kinds_of_states := PySem.W.mg_of X G a13
  have F_least_machine := fun_mk (st := s_least_machine) l14 c14 k14
  have b_least_machine := F_least_machine.binds (ps := ["row"]) fun _ _ _ _ _ _ us hl => match us, hl with | [_], _ => rfl
  have g_least_machine := PySem.W.mg_of X G a14
  have F_is_whole := fun_mk (st := s_is_whole) l15 c15 k15
  have b_is_whole := F_is_whole.binds (ps := ["thing"]) fun _ _ _ _ _ _ us hl => match us, hl with | [_], _ => rfl
  have g_is_whole := PySem.W.mg_of X G a15
  have F_is_number_below := fun_mk (st := s_is_number_below) l16 c16 k16
  have b_is_number_below := F_is_number_below.binds (ps := ["thing", "many"]) fun _ _ _ _ _ _ us hl => match us, hl with | [_, _], _ => rfl
  have g_is_number_below := PySem.W.mg_of X G a16
  have F_is_deed := fun_mk (st := s_is_deed) l17 c17 k17
  have b_is_deed := F_is_deed.binds (ps := ["thing", "ahead"]) fun _ _ _ _ _ _ us hl => match us, hl with | [_, _], _ => rfl
  have g_is_deed := PySem.W.mg_of X G a17
  have F_are_deeds := fun_mk (st := s_are_deeds) l18 c18 k18
  have b_are_deeds := F_are_deeds.binds (ps := ["thing", "many"]) fun _ _ _ _ _ _ us hl => match us, hl with | [_, _], _ => rfl
  have g_are_deeds := PySem.W.mg_of X G a18
  have F_is_row := fun_mk (st := s_is_row) l19 c19 k19
  have b_is_row := F_is_row.binds (ps := ["thing"]) fun _ _ _ _ _ _ us hl => match us, hl with | [_], _ => rfl
  have g_is_row := PySem.W.mg_of X G a19
  have F_renumbered := fun_mk (st := s_renumbered) l20 c20 k20
  have b_renumbered := F_renumbered.binds (ps := ["deed", "numbers"]) fun _ _ _ _ _ _ us hl => match us, hl with | [_, _], _ => rfl
  have g_renumbered := PySem.W.mg_of X G a20
  have F_is_name := fun_mk (st := s_is_name) l21 c21 k21
  have b_is_name := F_is_name.binds (ps := ["thing"]) fun _ _ _ _ _ _ us hl => match us, hl with | [_], _ => rfl
  have g_is_name := PySem.W.mg_of X G a21
  have F_check_name := fun_mk (st := s_check_name) l22 c22 k22
  have b_check_name := F_check_name.binds (ps := ["thing"]) fun _ _ _ _ _ _ us hl => match us, hl with | [_], _ => rfl
  have g_check_name := PySem.W.mg_of X G a22
  have F_look_of := fun_mk (st := s_look_of) l23 c23 k23
  have b_look_of := F_look_of.binds (ps := ["row"]) fun _ _ _ _ _ _ us hl => match us, hl with | [_], _ => rfl
  have g_look_of := PySem.W.mg_of X G a23
  have F_check_pair := fun_mk (st := s_check_pair) l24 c24 k24
  have b_check_pair := F_check_pair.binds (ps := ["row", "other"]) fun _ _ _ _ _ _ us hl => match us, hl with | [_, _], _ => rfl
  have g_check_pair := PySem.W.mg_of X G a24
  have F_alike := fun_mk (st := s_alike) l25 c25 k25
  have b_alike := F_alike.binds (ps := ["row", "other"]) fun _ _ _ _ _ _ us hl => match us, hl with | [_, _], _ => rfl
  have g_alike := PySem.W.mg_of X G a25
  have F_check_parts := fun_mk (st := s_check_parts) l26 c26 k26
  have b_check_parts := F_check_parts.binds (ps := ["row", "rows"]) fun _ _ _ _ _ _ us hl => match us, hl with | [_, _], _ => rfl
  have g_check_parts := PySem.W.mg_of X G a26
  have F_put_behind := fun_mk (st := s_put_behind) l27 c27 k27
  have b_put_behind := F_put_behind.binds (ps := ["many", "deeds", "row", "inputs"]) fun _ _ _ _ _ _ us hl => match us, hl with | [_, _, _, _], _ => rfl
  have g_put_behind := PySem.W.mg_of X G a27
  have F_put_together := fun_mk (st := s_put_together) l28 c28 k28
  have b_put_together := F_put_together.binds (ps := ["row", "rows"]) fun _ _ _ _ _ _ us hl => match us, hl with | [_, _], _ => rfl
  have g_put_together := PySem.W.mg_of X G a28
  have F_law_well := fun_mk (st := s_law_well) l29 c29 k29
  have b_law_well := F_law_well.binds (ps := ["script"]) fun _ _ _ _ _ _ us hl => match us, hl with | [_], _ => rfl
  have g_law_well := PySem.W.mg_of X G a29
  have F_law_draw := fun_mk (st := s_law_draw) l30 c30 k30
  have b_law_draw := F_law_draw.binds (ps := ["well", "many"]) fun _ _ _ _ _ _ us hl => match us, hl with | [_, _], _ => rfl
  have g_law_draw := PySem.W.mg_of X G a30
  have F_law_first_words := fun_mk (st := s_law_first_words) l31 c31 k31
  have b_law_first_words := F_law_first_words.binds (ps := []) fun _ _ _ _ _ _ us hl => match us, hl with | [], _ => rfl
  have g_law_first_words := PySem.W.mg_of X G a31
  have F_law_deed := fun_mk (st := s_law_deed) l32 c32 k32
  have b_law_deed := F_law_deed.binds (ps := ["well", "ahead"]) fun _ _ _ _ _ _ us hl => match us, hl with | [_, _], _ => rfl
  have g_law_deed := PySem.W.mg_of X G a32
  have F_law_row := fun_mk (st := s_law_row) l33 c33 k33
  have b_law_row := F_law_row.binds (ps := ["well", "many", "most"]) fun _ _ _ _ _ _ us hl => match us, hl with | [_, _, _], _ => rfl
  have g_law_row := PySem.W.mg_of X G a33
  have F_law_names := fun_mk (st := s_law_names) l34 c34 k34
  have b_law_names := F_law_names.binds (ps := ["well"]) fun _ _ _ _ _ _ us hl => match us, hl with | [_], _ => rfl
  have g_law_names := PySem.W.mg_of X G a34
  have F_law_of_one := fun_mk (st := s_law_of_one) l35 c35 k35
  have b_law_of_one := F_law_of_one.binds (ps := ["row", "other"]) fun _ _ _ _ _ _ us hl => match us, hl with | [_, _], _ => rfl
  have g_law_of_one := PySem.W.mg_of X G a35
  have F_law_places := fun_mk (st := s_law_places) l36 c36 k36
  have b_law_places := F_law_places.binds (ps := ["book"]) fun _ _ _ _ _ _ us hl => match us, hl with | [_], _ => rfl
  have g_law_places := PySem.W.mg_of X G a36
  have F_law_kinds_right := fun_mk (st := s_law_kinds_right) l37 c37 k37
  have b_law_kinds_right := F_law_kinds_right.binds (ps := ["book", "shelf"]) fun _ _ _ _ _ _ us hl => match us, hl with | [_, _], _ => rfl
  have g_law_kinds_right := PySem.W.mg_of X G a37
  have F_law_made_of := fun_mk (st := s_law_made_of) l38 c38 k38
  have b_law_made_of := F_law_made_of.binds (ps := ["well", "row"]) fun _ _ _ _ _ _ us hl => match us, hl with | [_, _], _ => rfl
  have g_law_made_of := PySem.W.mg_of X G a38
  have F_law_long_right := fun_mk (st := s_law_long_right) l39 c39 k39
  have b_law_long_right := F_law_long_right.binds (ps := ["well"]) fun _ _ _ _ _ _ us hl => match us, hl with | [_], _ => rfl
  have g_law_long_right := PySem.W.mg_of X G a39
  have F_law := fun_mk (st := s_law) l40 c40 k40
  have b_law := F_law.binds (ps := ["script"]) fun _ _ _ _ _ _ us hl => match us, hl with | [_], _ => rfl
  obtain rfl : fa = f40 := by
    have e := hfa.symm.trans (PySem.W.mg_of X G a40)
    cases e
    rfl
  have FWalk___init__ := fun_mk (st := sWalk___init__) ml_Walk___init__ mc_Walk___init__ mk_Walk___init__
  have MWalk___init__ : Meth K CWalk "__init__" fWalk___init__ := ⟨ma_Walk___init__, mi_Walk___init__, mk_Walk___init__⟩
  have FWalk_meet := fun_mk (st := sWalk_meet) ml_Walk_meet mc_Walk_meet mk_Walk_meet
  have MWalk_meet : Meth K CWalk "meet" fWalk_meet := ⟨ma_Walk_meet, mi_Walk_meet, mk_Walk_meet⟩
  have FWalk_bits_to := fun_mk (st := sWalk_bits_to) ml_Walk_bits_to mc_Walk_bits_to mk_Walk_bits_to
  have MWalk_bits_to : Meth K CWalk "bits_to" fWalk_bits_to := ⟨ma_Walk_bits_to, mi_Walk_bits_to, mk_Walk_bits_to⟩
  have TWalk : Cls K CWalk := ⟨pg_Walk, hd_Walk, po_Walk, sa_Walk⟩
  have gWalk := PySem.W.mg_of X G oa_Walk
  have KWalk : Mk K CWalk fWalk___init__ := ⟨mk_Walk, ma_Walk___init__, mi_Walk___init__, kc_Walk⟩
  have FBook___init__ := fun_mk (st := sBook___init__) ml_Book___init__ mc_Book___init__ mk_Book___init__
  have MBook___init__ : Meth K CBook "__init__" fBook___init__ := ⟨ma_Book___init__, mi_Book___init__, mk_Book___init__⟩
  have FBook_check_kept := fun_mk (st := sBook_check_kept) ml_Book_check_kept mc_Book_check_kept mk_Book_check_kept
  have MBook_check_kept : Meth K CBook "check_kept" fBook_check_kept := ⟨ma_Book_check_kept, mi_Book_check_kept, mk_Book_check_kept⟩
  have FBook_tell := fun_mk (st := sBook_tell) ml_Book_tell mc_Book_tell mk_Book_tell
  have MBook_tell : Meth K CBook "tell" fBook_tell := ⟨ma_Book_tell, mi_Book_tell, mk_Book_tell⟩
  have FBook_forget := fun_mk (st := sBook_forget) ml_Book_forget mc_Book_forget mk_Book_forget
  have MBook_forget : Meth K CBook "forget" fBook_forget := ⟨ma_Book_forget, mi_Book_forget, mk_Book_forget⟩
  have FBook_back := fun_mk (st := sBook_back) ml_Book_back mc_Book_back mk_Book_back
  have MBook_back : Meth K CBook "back" fBook_back := ⟨ma_Book_back, mi_Book_back, mk_Book_back⟩
  have FBook_names := fun_mk (st := sBook_names) ml_Book_names mc_Book_names mk_Book_names
  have MBook_names : Meth K CBook "names" fBook_names := ⟨ma_Book_names, mi_Book_names, mk_Book_names⟩
  have FBook_kinds := fun_mk (st := sBook_kinds) ml_Book_kinds mc_Book_kinds mk_Book_kinds
  have MBook_kinds : Meth K CBook "kinds" fBook_kinds := ⟨ma_Book_kinds, mi_Book_kinds, mk_Book_kinds⟩
  have TBook : Cls K CBook := ⟨pg_Book, hd_Book, po_Book, sa_Book⟩
  have gBook := PySem.W.mg_of X G oa_Book
  have KBook : Mk K CBook fBook___init__ := ⟨mk_Book, ma_Book___init__, mi_Book___init__, kc_Book⟩
  have g_LONGEST_NAME := PySem.W.mg_of X G v_LONGEST_NAME
  have g_MOST_DEEDS := PySem.W.mg_of X G v_MOST_DEEDS
  have g_MOST_INPUTS := PySem.W.mg_of X G v_MOST_INPUTS
  have g_LETTERS := PySem.W.mg_of X G v_LETTERS
  have g_PLACES := PySem.W.mg_of X G v_PLACES
  have D_PLACES : PlOk K w pl_PLACES es_PLACES n_PLACES := ⟨⟨pa_PLACES, pk_PLACES, pz_PLACES⟩, fun p hp => by
      unfold fwL at hp
      simp only [List.mem_cons, List.not_mem_nil, or_false] at hp
      rcases hp with rfl | rfl | rfl | rfl | rfl | rfl | rfl | rfl | rfl | rfl | rfl
      · exact ⟨_, pw0_PLACES⟩
      · exact ⟨_, pw1_PLACES⟩
      · exact ⟨_, pw2_PLACES⟩
      · exact ⟨_, pw3_PLACES⟩
      · exact ⟨_, pw4_PLACES⟩
      · exact ⟨_, pw5_PLACES⟩
      · exact ⟨_, pw6_PLACES⟩
      · exact ⟨_, pw7_PLACES⟩
      · exact ⟨_, pw8_PLACES⟩
      · exact ⟨_, pw9_PLACES⟩
      · exact ⟨_, pw10_PLACES⟩
    , pf_PLACES⟩
  have g_WideError := PySem.W.mg_of X G a_WideError
  have X_WideError : ExcC K cWideError := ⟨e1_WideError, e2_WideError, e3_WideError, e4_WideError, e5_WideError, e6_WideError, e7_WideError, e8_WideError⟩
  have g_NoRow := PySem.W.mg_of X G a_NoRow
  have X_NoRow : ExcC K cNoRow := ⟨e1_NoRow, e2_NoRow, e3_NoRow, e4_NoRow, e5_NoRow, e6_NoRow, e7_NoRow, e8_NoRow⟩
  have g_NoPair := PySem.W.mg_of X G a_NoPair
  have X_NoPair : ExcC K cNoPair := ⟨e1_NoPair, e2_NoPair, e3_NoPair, e4_NoPair, e5_NoPair, e6_NoPair, e7_NoPair, e8_NoPair⟩
  have g_NoName := PySem.W.mg_of X G a_NoName
  have X_NoName : ExcC K cNoName := ⟨e1_NoName, e2_NoName, e3_NoName, e4_NoName, e5_NoName, e6_NoName, e7_NoName, e8_NoName⟩
  have g_TooMany := PySem.W.mg_of X G a_TooMany
  have X_TooMany : ExcC K cTooMany := ⟨e1_TooMany, e2_TooMany, e3_TooMany, e4_TooMany, e5_TooMany, e6_TooMany, e7_TooMany, e8_TooMany⟩
  have g_Nothing := PySem.W.mg_of X G a_Nothing
  have X_Nothing : ExcC K cNothing := ⟨e1_Nothing, e2_Nothing, e3_Nothing, e4_Nothing, e5_Nothing, e6_Nothing, e7_Nothing, e8_Nothing⟩
  have t_WideError_WideError := kit_ref e9_WideError e10_WideError s_WideError_WideError s_WideError_WideError
  have t_WideError_NoRow := kit_ref e9_NoRow e10_NoRow s_WideError_NoRow s_NoRow_NoRow
  have t_WideError_NoPair := kit_ref e9_NoPair e10_NoPair s_WideError_NoPair s_NoPair_NoPair
  have t_WideError_NoName := kit_ref e9_NoName e10_NoName s_WideError_NoName s_NoName_NoName
  have t_WideError_TooMany := kit_ref e9_TooMany e10_TooMany s_WideError_TooMany s_TooMany_TooMany
  have t_WideError_Nothing := kit_ref e9_Nothing e10_Nothing s_WideError_Nothing s_Nothing_Nothing
  have v_WideError := kit_ve e11_WideError
  have t_NoRow_WideError := kit_ref e9_WideError e10_WideError s_NoRow_WideError s_WideError_WideError
  have t_NoRow_NoRow := kit_ref e9_NoRow e10_NoRow s_NoRow_NoRow s_NoRow_NoRow
  have t_NoRow_NoPair := kit_ref e9_NoPair e10_NoPair s_NoRow_NoPair s_NoPair_NoPair
  have t_NoRow_NoName := kit_ref e9_NoName e10_NoName s_NoRow_NoName s_NoName_NoName
  have t_NoRow_TooMany := kit_ref e9_TooMany e10_TooMany s_NoRow_TooMany s_TooMany_TooMany
  have t_NoRow_Nothing := kit_ref e9_Nothing e10_Nothing s_NoRow_Nothing s_Nothing_Nothing
  have v_NoRow := kit_ve e11_NoRow
  have t_NoPair_WideError := kit_ref e9_WideError e10_WideError s_NoPair_WideError s_WideError_WideError
  have t_NoPair_NoRow := kit_ref e9_NoRow e10_NoRow s_NoPair_NoRow s_NoRow_NoRow
  have t_NoPair_NoPair := kit_ref e9_NoPair e10_NoPair s_NoPair_NoPair s_NoPair_NoPair
  have t_NoPair_NoName := kit_ref e9_NoName e10_NoName s_NoPair_NoName s_NoName_NoName
  have t_NoPair_TooMany := kit_ref e9_TooMany e10_TooMany s_NoPair_TooMany s_TooMany_TooMany
  have t_NoPair_Nothing := kit_ref e9_Nothing e10_Nothing s_NoPair_Nothing s_Nothing_Nothing
  have v_NoPair := kit_ve e11_NoPair
  have t_NoName_WideError := kit_ref e9_WideError e10_WideError s_NoName_WideError s_WideError_WideError
  have t_NoName_NoRow := kit_ref e9_NoRow e10_NoRow s_NoName_NoRow s_NoRow_NoRow
  have t_NoName_NoPair := kit_ref e9_NoPair e10_NoPair s_NoName_NoPair s_NoPair_NoPair
  have t_NoName_NoName := kit_ref e9_NoName e10_NoName s_NoName_NoName s_NoName_NoName
  have t_NoName_TooMany := kit_ref e9_TooMany e10_TooMany s_NoName_TooMany s_TooMany_TooMany
  have t_NoName_Nothing := kit_ref e9_Nothing e10_Nothing s_NoName_Nothing s_Nothing_Nothing
  have v_NoName := kit_ve e11_NoName
  have t_TooMany_WideError := kit_ref e9_WideError e10_WideError s_TooMany_WideError s_WideError_WideError
  have t_TooMany_NoRow := kit_ref e9_NoRow e10_NoRow s_TooMany_NoRow s_NoRow_NoRow
  have t_TooMany_NoPair := kit_ref e9_NoPair e10_NoPair s_TooMany_NoPair s_NoPair_NoPair
  have t_TooMany_NoName := kit_ref e9_NoName e10_NoName s_TooMany_NoName s_NoName_NoName
  have t_TooMany_TooMany := kit_ref e9_TooMany e10_TooMany s_TooMany_TooMany s_TooMany_TooMany
  have t_TooMany_Nothing := kit_ref e9_Nothing e10_Nothing s_TooMany_Nothing s_Nothing_Nothing
  have v_TooMany := kit_ve e11_TooMany
  have t_Nothing_WideError := kit_ref e9_WideError e10_WideError s_Nothing_WideError s_WideError_WideError
  have t_Nothing_NoRow := kit_ref e9_NoRow e10_NoRow s_Nothing_NoRow s_NoRow_NoRow
  have t_Nothing_NoPair := kit_ref e9_NoPair e10_NoPair s_Nothing_NoPair s_NoPair_NoPair
  have t_Nothing_NoName := kit_ref e9_NoName e10_NoName s_Nothing_NoName s_NoName_NoName
  have t_Nothing_TooMany := kit_ref e9_TooMany e10_TooMany s_Nothing_TooMany s_TooMany_TooMany
  have t_Nothing_Nothing := kit_ref e9_Nothing e10_Nothing s_Nothing_Nothing s_Nothing_Nothing
  have v_Nothing := kit_ve e11_Nothing
  have m_abs := PySem.W.mg_none_of X G z_abs
  have m_all := PySem.W.mg_none_of X G z_all
  have m_bool := PySem.W.mg_none_of X G z_bool
  have m_enumerate := PySem.W.mg_none_of X G z_enumerate
  have m_int := PySem.W.mg_none_of X G z_int
  have m_isinstance := PySem.W.mg_none_of X G z_isinstance
  have m_len := PySem.W.mg_none_of X G z_len
  have m_list := PySem.W.mg_none_of X G z_list
  have m_max := PySem.W.mg_none_of X G z_max
  have m_range := PySem.W.mg_none_of X G z_range
  have m_sorted := PySem.W.mg_none_of X G z_sorted
  have m_str := PySem.W.mg_none_of X G z_str
  have m_sum := PySem.W.mg_none_of X G z_sum
  have m_tuple := PySem.W.mg_none_of X G z_tuple
  have m_zip := PySem.W.mg_none_of X G z_zip
  intro s a ns base H hlen hbits e0 hS
  have GD := ok_draw (P := l.prog) (w := w) (mg := mg) (base := base) (k := 0) F_law_draw
  have GE := ok_deed (P := l.prog) (w := w) (mg := mg) (base := base) (k := 0) F_law_deed F_law_draw F_law_first_words b_law_draw b_law_first_words g_law_draw g_law_first_words m_list m_tuple m_range
  have GR := ok_row (P := l.prog) (w := w) (mg := mg) (base := base) (k := 0) F_law_row GD F_law_draw.kp GE F_law_deed.kp b_law_draw b_law_deed g_law_draw g_law_deed m_tuple m_range
  have GW := ok_well (P := l.prog) (w := w) (mg := mg) (base := base) (k := 0) F_law_well m_abs
  have GA := ok_whA (P := l.prog) (w := w) (K := K) (mg := mg) (base := base) (k := 0) F_is_whole m_isinstance m_int m_bool
  have GB2 := ok_nb (P := l.prog) (w := w) (mg := mg) (base := base) (k := 0) F_is_number_below GA F_is_whole.kp b_is_whole g_is_whole
  have GF0 := ok_de (P := l.prog) (w := w) (mg := mg) (base := base) (k := 0) F_is_deed GB2 F_is_number_below.kp b_is_number_below g_is_number_below D_PLACES g_PLACES m_isinstance m_tuple m_str m_len m_all
  have GG0 := ok_ad (P := l.prog) (w := w) (mg := mg) (base := base) (k := 0) F_are_deeds GF0 F_is_deed.kp b_is_deed g_is_deed g_MOST_DEEDS m_isinstance m_tuple m_len m_all m_enumerate
  have GIr := ok_ir (P := l.prog) (w := w) (mg := mg) (base := base) (k := 0) F_is_row GA F_is_whole.kp b_is_whole g_is_whole GG0 F_are_deeds.kp b_are_deeds g_are_deeds GB2 F_is_number_below.kp b_is_number_below g_is_number_below g_MOST_INPUTS m_isinstance m_tuple m_len
  have GF := ok_fc (P := l.prog) (w := w) (mg := mg) (base := base) (k := 0) F_first_carry m_tuple
  have GDb := ok_db (P := l.prog) (w := w) (mg := mg) (base := base) (k := 0) F_deed_bit
  have GB := ok_bo (P := l.prog) (w := w) (mg := mg) (base := base) (k := 0) F_bits_of GDb F_deed_bit.kp b_deed_bit g_deed_bit m_list m_tuple m_zip
  have GTm := ok_tm (P := l.prog) (w := w) (mg := mg) (base := base) (k := 0) F_two_or_more
  have GDc := ok_dc (P := l.prog) (w := w) (mg := mg) (base := base) (k := 0) F_deed_carry GTm F_two_or_more.kp b_two_or_more g_two_or_more
  have GCb := ok_cb (P := l.prog) (w := w) (mg := mg) (base := base) (k := 0) F_carry_behind GDc F_deed_carry.kp b_deed_carry g_deed_carry m_tuple m_zip
  have GAl := ok_all (P := l.prog) (w := w) (mg := mg) (base := base) (k := 0) F_all_bits m_range
  have GSt := ok_st (P := l.prog) (w := w) (mg := mg) (base := base) (k := 0) F_steps GAl F_all_bits.kp b_all_bits g_all_bits GB F_bits_of.kp b_bits_of g_bits_of GCb F_carry_behind.kp b_carry_behind g_carry_behind
  have WT : WCls K mg CWalk := ⟨TWalk, na_Walk_met, na_Walk_numbers, na_Walk_ways, gWalk⟩
  have bI := FWalk___init__.binds (ps := ["self", "first"]) fun _ _ _ _ _ _ us hl => match us, hl with | [_, _], _ => rfl
  have bM := FWalk_meet.binds (ps := ["self", "thing", "ahead", "bits"]) fun _ _ _ _ _ _ us hl => match us, hl with | [_, _, _, _], _ => rfl
  have GI := ok_wi (P := l.prog) (w := w) (mg := mg) (base := base) (k := 0) FWalk___init__ WT
  have GM := ok_wm (P := l.prog) (w := w) (mg := mg) (base := base) (k := 0) FWalk_meet WT m_len
  have GWh := ok_wh (P := l.prog) (w := w) (mg := mg) (base := base) (k := 0) F_whole_machine WT GAl F_all_bits.kp b_all_bits g_all_bits GF F_first_carry.kp b_first_carry g_first_carry GSt F_steps.kp b_steps g_steps KWalk GI bI MWalk_meet GM bM m_len m_zip
  have GN := ok_nu (P := l.prog) (w := w) (mg := mg) (base := base) (k := 0) F_numbered m_len
  have GKi := ok_ki (P := l.prog) (w := w) (mg := mg) (base := base) (k := 0) F_kinds_of_states GN F_numbered.kp b_numbered g_numbered m_max m_tuple m_list m_zip
  have GLm := ok_lm (P := l.prog) (w := w) (mg := mg) (base := base) (k := 0) F_least_machine GWh F_whole_machine.kp b_whole_machine g_whole_machine GKi F_kinds_of_states.kp b_kinds_of_states g_kinds_of_states m_len m_zip
  have GLk := ok_lk (P := l.prog) (w := w) (mg := mg) (base := base) (k := 0) F_look_of GLm F_least_machine.kp b_least_machine g_least_machine m_tuple
  have BT : BCls K mg CBook := ⟨TBook, na_Book_kept, na_Book_done, na_Book_looks, gBook⟩
  have bBi := FBook___init__.binds (ps := ["self"]) fun _ _ _ _ _ _ us hl => match us, hl with | [_], _ => rfl
  have bBc := FBook_check_kept.binds (ps := ["self", "name"]) fun _ _ _ _ _ _ us hl => match us, hl with | [_, _], _ => rfl
  have bBt := FBook_tell.binds (ps := ["self", "name", "row"]) fun _ _ _ _ _ _ us hl => match us, hl with | [_, _, _], _ => rfl
  have bBf := FBook_forget.binds (ps := ["self", "name"]) fun _ _ _ _ _ _ us hl => match us, hl with | [_, _], _ => rfl
  have bBb := FBook_back.binds (ps := ["self"]) fun _ _ _ _ _ _ us hl => match us, hl with | [_], _ => rfl
  have bBn := FBook_names.binds (ps := ["self"]) fun _ _ _ _ _ _ us hl => match us, hl with | [_], _ => rfl
  have bBk := FBook_kinds.binds (ps := ["self"]) fun _ _ _ _ _ _ us hl => match us, hl with | [_], _ => rfl
  have GIn := ok_in (P := l.prog) (w := w) (K := K) (mg := mg) (base := base) (k := 0) F_is_name g_LETTERS g_LONGEST_NAME m_isinstance m_str m_len m_all
  have GCn := ok_cn (P := l.prog) (w := w) (mg := mg) (base := base) (k := 0) F_check_name GIn F_is_name.kp b_is_name g_is_name
  have GBi := ok_bi (P := l.prog) (w := w) (mg := mg) (base := base) (k := 0) FBook___init__ BT
  have GBc := ok_bc (P := l.prog) (w := w) (mg := mg) (base := base) (k := 0) FBook_check_kept BT GCn F_check_name.kp b_check_name g_check_name
  have GBn := ok_bn (P := l.prog) (w := w) (mg := mg) (base := base) (k := 0) FBook_names BT m_sorted
  have GBf := ok_bf (P := l.prog) (w := w) (mg := mg) (base := base) (k := 0) FBook_forget BT MBook_check_kept GBc bBc
  have GBt := ok_btl (P := l.prog) (w := w) (mg := mg) (base := base) (k := 0) FBook_tell BT GCn F_check_name.kp b_check_name g_check_name GIr F_is_row.kp b_is_row g_is_row
  have GBb := ok_bb (P := l.prog) (w := w) (mg := mg) (base := base) (k := 0) FBook_back BT
  have GBk := ok_bk (P := l.prog) (w := w) (mg := mg) (base := base) (k := 0) FBook_kinds BT MBook_names GBn bBn GLk F_look_of.kp b_look_of g_look_of m_sorted
  have bTo := FWalk_bits_to.binds (ps := ["self", "number"]) fun _ _ _ _ _ _ us hl => match us, hl with | [_, _], _ => rfl
  have GTo := ok_bt (P := l.prog) (w := w) (mg := mg) (base := base) (k := 0) FWalk_bits_to WT
  have GWf := ok_wf (P := l.prog) (w := w) (mg := mg) (base := base) (k := 0) F_words_of m_enumerate
  have GKs := ok_ks (P := l.prog) (w := w) (mg := mg) (base := base) (k := 0) F_kept_steps GSt F_steps.kp b_steps g_steps
  have GBs := ok_bs2 (P := l.prog) (w := w) (mg := mg) (base := base) (k := 0) F_both_steps m_zip
  have rP : Rai K mg "NoPair" cNoPair := ⟨x_NoPair, g_NoPair, k_NoPair, e3_NoPair, e10_NoPair⟩
  have GCp := ok_cp (P := l.prog) (w := w) (base := base) (k := 0) F_check_pair rP
  have GAk := ok_al (P := l.prog) (w := w) (mg := mg) (base := base) (k := 0) F_alike WT GCp F_check_pair.kp b_check_pair g_check_pair GAl F_all_bits.kp b_all_bits g_all_bits GF F_first_carry.kp b_first_carry g_first_carry GBs F_both_steps.kp b_both_steps g_both_steps GKs F_kept_steps.kp b_kept_steps g_kept_steps GWf F_words_of.kp b_words_of g_words_of KWalk GI bI MWalk_meet GM bM MWalk_bits_to GTo bTo m_len m_zip
  have GNr := ok_ren (P := l.prog) (w := w) (mg := mg) (base := base) (k := 0) F_renumbered m_tuple
  have GPb := ok_pb (P := l.prog) (w := w) (mg := mg) (base := base) (k := 0) F_put_behind GNr F_renumbered.kp b_renumbered g_renumbered m_tuple m_list m_range m_len
  have GCk := ok_ck (P := l.prog) (w := w) (mg := mg) (base := base) (k := 1) F_check_parts m_len m_sum g_MOST_DEEDS
  have GPt := ok_pt (P := l.prog) (w := w) (mg := mg) (base := base) (k := 0) F_put_together GCk F_check_parts.kp b_check_parts g_check_parts GPb F_put_behind.kp b_put_behind g_put_behind m_list m_range
  have GLo := ok_lo (P := l.prog) (w := w) (mg := mg) (base := base) (k := 0) F_law_of_one GAk F_alike.kp b_alike g_alike
  have GPl := ok_pl (P := l.prog) (w := w) (mg := mg) (base := base) (k := 0) F_law_places BT MBook_kinds GBk bBk m_enumerate
  have GKr := ok_kr (P := l.prog) (w := w) (mg := mg) (base := base) (k := 0) F_law_kinds_right GPl F_law_places.kp b_law_places g_law_places GLo F_law_of_one.kp b_law_of_one g_law_of_one m_sorted m_enumerate
  have GMo := ok_mo (P := l.prog) (w := w) (mg := mg) (base := base) (k := 0) F_law_made_of GD F_law_draw.kp b_law_draw g_law_draw GPt F_put_together.kp b_put_together g_put_together m_range
  have GLr := ok_lr (P := l.prog) (w := w) (mg := mg) (base := base) (k := 0) F_law_long_right BT KBook GBi bBi MBook_tell GBt bBt GD F_law_draw.kp b_law_draw g_law_draw GR F_law_row.kp b_law_row g_law_row GPt F_put_together.kp b_put_together g_put_together GPl F_law_places.kp b_law_places g_law_places GKr F_law_kinds_right.kp b_law_kinds_right g_law_kinds_right
  have GNm := ok_nm (P := l.prog) (w := w) (mg := mg) (base := base) (k := 0) F_law_names GD F_law_draw.kp b_law_draw g_law_draw m_range m_len
  exact law_run F_law b_law BT KBook GBi bBi MBook_tell GBt bBt MBook_kinds GBk bBk MBook_back GBb bBb MBook_forget GBf bBf MBook_names GBn bBn GW F_law_well.kp b_law_well g_law_well GD F_law_draw.kp b_law_draw g_law_draw GR F_law_row.kp b_law_row g_law_row GMo F_law_made_of.kp b_law_made_of g_law_made_of GNm F_law_names.kp b_law_names g_law_names GLr F_law_long_right.kp b_law_long_right g_law_long_right GPl F_law_places.kp b_law_places g_law_places GKr F_law_kinds_right.kp b_law_kinds_right g_law_kinds_right m_range m_enumerate m_list hlen hbits e0 hS
end
end KK
open PySem PySem.W PyProof.Rows
set_option maxHeartbeats 0 in
theorem PySem.Challenge.cw_anywide_k72_whole_kinds_and_alike_rows_holds : PySem.Challenge.rw_anywide_k72_whole_kinds_and_alike_rows.Holds := by
  w_on; o_law; k_head; (case hw => w_witness2)
  k_fill
  refine AW.walkG (l := PySem.Challenge.rw_anywide_k72_whole_kinds_and_alike_rows) (n := 63) rfl (by decide) rfl (fun w h Y => PySem.W.kIn_of Y) ?F
  case F =>
    intro w mg fa h KX G hmg
    refine' KK.all_mk KX G hmg ?a0 ?l0 ?c0 ?k0 ?a1 ?l1 ?c1 ?k1 ?a2 ?l2 ?c2 ?k2 ?a3 ?l3 ?c3 ?k3 ?a4 ?l4 ?c4 ?k4 ?a5 ?l5 ?c5 ?k5 ?a6 ?l6 ?c6 ?k6 ?a7 ?l7 ?c7 ?k7 ?a8 ?l8 ?c8 ?k8 ?a9 ?l9 ?c9 ?k9 ?a10 ?l10 ?c10 ?k10 ?a11 ?l11 ?c11 ?k11 ?a12 ?l12 ?c12 ?k12 ?a13 ?l13 ?c13 ?k13 ?a14 ?l14 ?c14 ?k14 ?a15 ?l15 ?c15 ?k15 ?a16 ?l16 ?c16 ?k16 ?a17 ?l17 ?c17 ?k17 ?a18 ?l18 ?c18 ?k18 ?a19 ?l19 ?c19 ?k19 ?a20 ?l20 ?c20 ?k20 ?a21 ?l21 ?c21 ?k21 ?a22 ?l22 ?c22 ?k22 ?a23 ?l23 ?c23 ?k23 ?a24 ?l24 ?c24 ?k24 ?a25 ?l25 ?c25 ?k25 ?a26 ?l26 ?c26 ?k26 ?a27 ?l27 ?c27 ?k27 ?a28 ?l28 ?c28 ?k28 ?a29 ?l29 ?c29 ?k29 ?a30 ?l30 ?c30 ?k30 ?a31 ?l31 ?c31 ?k31 ?a32 ?l32 ?c32 ?k32 ?a33 ?l33 ?c33 ?k33 ?a34 ?l34 ?c34 ?k34 ?a35 ?l35 ?c35 ?k35 ?a36 ?l36 ?c36 ?k36 ?a37 ?l37 ?c37 ?k37 ?a38 ?l38 ?c38 ?k38 ?a39 ?l39 ?c39 ?k39 ?a40 ?l40 ?c40 ?k40 ?oa_Walk ?ma_Walk___init__ ?mi_Walk___init__ ?ml_Walk___init__ ?mc_Walk___init__ ?mk_Walk___init__ ?ma_Walk_meet ?mi_Walk_meet ?ml_Walk_meet ?mc_Walk_meet ?mk_Walk_meet ?ma_Walk_bits_to ?mi_Walk_bits_to ?ml_Walk_bits_to ?mc_Walk_bits_to ?mk_Walk_bits_to ?pg_Walk ?hd_Walk ?po_Walk ?sa_Walk ?mk_Walk ?kc_Walk ?na_Walk_met ?na_Walk_numbers ?na_Walk_ways ?oa_Book ?ma_Book___init__ ?mi_Book___init__ ?ml_Book___init__ ?mc_Book___init__ ?mk_Book___init__ ?ma_Book_check_kept ?mi_Book_check_kept ?ml_Book_check_kept ?mc_Book_check_kept ?mk_Book_check_kept ?ma_Book_tell ?mi_Book_tell ?ml_Book_tell ?mc_Book_tell ?mk_Book_tell ?ma_Book_forget ?mi_Book_forget ?ml_Book_forget ?mc_Book_forget ?mk_Book_forget ?ma_Book_back ?mi_Book_back ?ml_Book_back ?mc_Book_back ?mk_Book_back ?ma_Book_names ?mi_Book_names ?ml_Book_names ?mc_Book_names ?mk_Book_names ?ma_Book_kinds ?mi_Book_kinds ?ml_Book_kinds ?mc_Book_kinds ?mk_Book_kinds ?pg_Book ?hd_Book ?po_Book ?sa_Book ?mk_Book ?kc_Book ?na_Book_kept ?na_Book_done ?na_Book_looks ?v_LONGEST_NAME ?v_MOST_DEEDS ?v_MOST_INPUTS ?v_LETTERS ?v_PLACES ?pa_PLACES ?pw0_PLACES ?pw1_PLACES ?pw2_PLACES ?pw3_PLACES ?pw4_PLACES ?pw5_PLACES ?pw6_PLACES ?pw7_PLACES ?pw8_PLACES ?pw9_PLACES ?pw10_PLACES ?pk_PLACES ?pz_PLACES ?pf_PLACES ?a_WideError ?x_WideError ?k_WideError ?e1_WideError ?e2_WideError ?e3_WideError ?e4_WideError ?e5_WideError ?e6_WideError ?e7_WideError ?e8_WideError ?e9_WideError ?e10_WideError ?e11_WideError ?a_NoRow ?x_NoRow ?k_NoRow ?e1_NoRow ?e2_NoRow ?e3_NoRow ?e4_NoRow ?e5_NoRow ?e6_NoRow ?e7_NoRow ?e8_NoRow ?e9_NoRow ?e10_NoRow ?e11_NoRow ?a_NoPair ?x_NoPair ?k_NoPair ?e1_NoPair ?e2_NoPair ?e3_NoPair ?e4_NoPair ?e5_NoPair ?e6_NoPair ?e7_NoPair ?e8_NoPair ?e9_NoPair ?e10_NoPair ?e11_NoPair ?a_NoName ?x_NoName ?k_NoName ?e1_NoName ?e2_NoName ?e3_NoName ?e4_NoName ?e5_NoName ?e6_NoName ?e7_NoName ?e8_NoName ?e9_NoName ?e10_NoName ?e11_NoName ?a_TooMany ?x_TooMany ?k_TooMany ?e1_TooMany ?e2_TooMany ?e3_TooMany ?e4_TooMany ?e5_TooMany ?e6_TooMany ?e7_TooMany ?e8_TooMany ?e9_TooMany ?e10_TooMany ?e11_TooMany ?a_Nothing ?x_Nothing ?k_Nothing ?e1_Nothing ?e2_Nothing ?e3_Nothing ?e4_Nothing ?e5_Nothing ?e6_Nothing ?e7_Nothing ?e8_Nothing ?e9_Nothing ?e10_Nothing ?e11_Nothing ?s_WideError_WideError ?s_WideError_NoRow ?s_WideError_NoPair ?s_WideError_NoName ?s_WideError_TooMany ?s_WideError_Nothing ?s_NoRow_WideError ?s_NoRow_NoRow ?s_NoRow_NoPair ?s_NoRow_NoName ?s_NoRow_TooMany ?s_NoRow_Nothing ?s_NoPair_WideError ?s_NoPair_NoRow ?s_NoPair_NoPair ?s_NoPair_NoName ?s_NoPair_TooMany ?s_NoPair_Nothing ?s_NoName_WideError ?s_NoName_NoRow ?s_NoName_NoPair ?s_NoName_NoName ?s_NoName_TooMany ?s_NoName_Nothing ?s_TooMany_WideError ?s_TooMany_NoRow ?s_TooMany_NoPair ?s_TooMany_NoName ?s_TooMany_TooMany ?s_TooMany_Nothing ?s_Nothing_WideError ?s_Nothing_NoRow ?s_Nothing_NoPair ?s_Nothing_NoName ?s_Nothing_TooMany ?s_Nothing_Nothing ?z_abs ?z_all ?z_bool ?z_enumerate ?z_int ?z_isinstance ?z_len ?z_list ?z_max ?z_range ?z_sorted ?z_str ?z_sum ?z_tuple ?z_zip
    (case a0 => k_is)
    (case l0 => k_is)
    (case c0 => k_is)
    (case k0 => k_is)
    (case a1 => k_is)
    (case l1 => k_is)
    (case c1 => k_is)
    (case k1 => k_is)
    (case a2 => k_is)
    (case l2 => k_is)
    (case c2 => k_is)
    (case k2 => k_is)
    (case a3 => k_is)
    (case l3 => k_is)
    (case c3 => k_is)
    (case k3 => k_is)
    (case a4 => k_is)
    (case l4 => k_is)
    (case c4 => k_is)
    (case k4 => k_is)
    (case a5 => k_is)
    (case l5 => k_is)
    (case c5 => k_is)
    (case k5 => k_is)
    (case a6 => k_is)
    (case l6 => k_is)
    (case c6 => k_is)
    (case k6 => k_is)
    (case a7 => k_is)
    (case l7 => k_is)
    (case c7 => k_is)
    (case k7 => k_is)
    (case a8 => k_is)
    (case l8 => k_is)
    (case c8 => k_is)
    (case k8 => k_is)
    (case a9 => k_is)
    (case l9 => k_is)
    (case c9 => k_is)
    (case k9 => k_is)
    (case a10 => k_is)
    (case l10 => k_is)
    (case c10 => k_is)
    (case k10 => k_is)
    (case a11 => k_is)
    (case l11 => k_is)
    (case c11 => k_is)
    (case k11 => k_is)
    (case a12 => k_is)
    (case l12 => k_is)
    (case c12 => k_is)
    (case k12 => k_is)
    (case a13 => k_is)
    (case l13 => k_is)
    (case c13 => k_is)
    (case k13 => k_is)
    (case a14 => k_is)
    (case l14 => k_is)
    (case c14 => k_is)
    (case k14 => k_is)
    (case a15 => k_is)
    (case l15 => k_is)
    (case c15 => k_is)
    (case k15 => k_is)
    (case a16 => k_is)
    (case l16 => k_is)
    (case c16 => k_is)
    (case k16 => k_is)
    (case a17 => k_is)
    (case l17 => k_is)
    (case c17 => k_is)
    (case k17 => k_is)
    (case a18 => k_is)
    (case l18 => k_is)
    (case c18 => k_is)
    (case k18 => k_is)
    (case a19 => k_is)
    (case l19 => k_is)
    (case c19 => k_is)
    (case k19 => k_is)
    (case a20 => k_is)
    (case l20 => k_is)
    (case c20 => k_is)
    (case k20 => k_is)
    (case a21 => k_is)
    (case l21 => k_is)
    (case c21 => k_is)
    (case k21 => k_is)
    (case a22 => k_is)
    (case l22 => k_is)
    (case c22 => k_is)
    (case k22 => k_is)
    (case a23 => k_is)
    (case l23 => k_is)
    (case c23 => k_is)
    (case k23 => k_is)
    (case a24 => k_is)
    (case l24 => k_is)
    (case c24 => k_is)
    (case k24 => k_is)
    (case a25 => k_is)
    (case l25 => k_is)
    (case c25 => k_is)
    (case k25 => k_is)
    (case a26 => k_is)
    (case l26 => k_is)
    (case c26 => k_is)
    (case k26 => k_is)
    (case a27 => k_is)
    (case l27 => k_is)
    (case c27 => k_is)
    (case k27 => k_is)
    (case a28 => k_is)
    (case l28 => k_is)
    (case c28 => k_is)
    (case k28 => k_is)
    (case a29 => k_is)
    (case l29 => k_is)
    (case c29 => k_is)
    (case k29 => k_is)
    (case a30 => k_is)
    (case l30 => k_is)
    (case c30 => k_is)
    (case k30 => k_is)
    (case a31 => k_is)
    (case l31 => k_is)
    (case c31 => k_is)
    (case k31 => k_is)
    (case a32 => k_is)
    (case l32 => k_is)
    (case c32 => k_is)
    (case k32 => k_is)
    (case a33 => k_is)
    (case l33 => k_is)
    (case c33 => k_is)
    (case k33 => k_is)
    (case a34 => k_is)
    (case l34 => k_is)
    (case c34 => k_is)
    (case k34 => k_is)
    (case a35 => k_is)
    (case l35 => k_is)
    (case c35 => k_is)
    (case k35 => k_is)
    (case a36 => k_is)
    (case l36 => k_is)
    (case c36 => k_is)
    (case k36 => k_is)
    (case a37 => k_is)
    (case l37 => k_is)
    (case c37 => k_is)
    (case k37 => k_is)
    (case a38 => k_is)
    (case l38 => k_is)
    (case c38 => k_is)
    (case k38 => k_is)
    (case a39 => k_is)
    (case l39 => k_is)
    (case c39 => k_is)
    (case k39 => k_is)
    (case a40 => k_is)
    (case l40 => k_is)
    (case c40 => k_is)
    (case k40 => k_is)
    (case oa_Walk => k_is)
    (case ma_Walk___init__ => k_is)
    (case mi_Walk___init__ => k_is)
    (case ml_Walk___init__ => k_is)
    (case mc_Walk___init__ => k_is)
    (case mk_Walk___init__ => k_is)
    (case ma_Walk_meet => k_is)
    (case mi_Walk_meet => k_is)
    (case ml_Walk_meet => k_is)
    (case mc_Walk_meet => k_is)
    (case mk_Walk_meet => k_is)
    (case ma_Walk_bits_to => k_is)
    (case mi_Walk_bits_to => k_is)
    (case ml_Walk_bits_to => k_is)
    (case mc_Walk_bits_to => k_is)
    (case mk_Walk_bits_to => k_is)
    (case pg_Walk => k_is)
    (case hd_Walk => k_is)
    (case po_Walk => k_is)
    (case sa_Walk => k_is)
    (case mk_Walk => k_is)
    (case kc_Walk => k_is)
    (case na_Walk_met => k_is)
    (case na_Walk_numbers => k_is)
    (case na_Walk_ways => k_is)
    (case oa_Book => k_is)
    (case ma_Book___init__ => k_is)
    (case mi_Book___init__ => k_is)
    (case ml_Book___init__ => k_is)
    (case mc_Book___init__ => k_is)
    (case mk_Book___init__ => k_is)
    (case ma_Book_check_kept => k_is)
    (case mi_Book_check_kept => k_is)
    (case ml_Book_check_kept => k_is)
    (case mc_Book_check_kept => k_is)
    (case mk_Book_check_kept => k_is)
    (case ma_Book_tell => k_is)
    (case mi_Book_tell => k_is)
    (case ml_Book_tell => k_is)
    (case mc_Book_tell => k_is)
    (case mk_Book_tell => k_is)
    (case ma_Book_forget => k_is)
    (case mi_Book_forget => k_is)
    (case ml_Book_forget => k_is)
    (case mc_Book_forget => k_is)
    (case mk_Book_forget => k_is)
    (case ma_Book_back => k_is)
    (case mi_Book_back => k_is)
    (case ml_Book_back => k_is)
    (case mc_Book_back => k_is)
    (case mk_Book_back => k_is)
    (case ma_Book_names => k_is)
    (case mi_Book_names => k_is)
    (case ml_Book_names => k_is)
    (case mc_Book_names => k_is)
    (case mk_Book_names => k_is)
    (case ma_Book_kinds => k_is)
    (case mi_Book_kinds => k_is)
    (case ml_Book_kinds => k_is)
    (case mc_Book_kinds => k_is)
    (case mk_Book_kinds => k_is)
    (case pg_Book => k_is)
    (case hd_Book => k_is)
    (case po_Book => k_is)
    (case sa_Book => k_is)
    (case mk_Book => k_is)
    (case kc_Book => k_is)
    (case na_Book_kept => k_is)
    (case na_Book_done => k_is)
    (case na_Book_looks => k_is)
    (case v_LONGEST_NAME => k_is)
    (case v_MOST_DEEDS => k_is)
    (case v_MOST_INPUTS => k_is)
    (case v_LETTERS => k_is)
    (case v_PLACES => k_is)
    (case pa_PLACES => k_is)
    (case pw0_PLACES => k_is)
    (case pw1_PLACES => k_is)
    (case pw2_PLACES => k_is)
    (case pw3_PLACES => k_is)
    (case pw4_PLACES => k_is)
    (case pw5_PLACES => k_is)
    (case pw6_PLACES => k_is)
    (case pw7_PLACES => k_is)
    (case pw8_PLACES => k_is)
    (case pw9_PLACES => k_is)
    (case pw10_PLACES => k_is)
    (case pk_PLACES => exact ⟨⟨_, _, rfl, rfl⟩, ⟨⟨_, _, rfl, rfl⟩, ⟨⟨_, _, rfl, rfl⟩, ⟨⟨_, _, rfl, rfl⟩, ⟨⟨_, _, rfl, rfl⟩, ⟨⟨_, _, rfl, rfl⟩, ⟨⟨_, _, rfl, rfl⟩, ⟨⟨_, _, rfl, rfl⟩, ⟨⟨_, _, rfl, rfl⟩, ⟨⟨_, _, rfl, rfl⟩, ⟨⟨_, _, rfl, rfl⟩, trivial⟩⟩⟩⟩⟩⟩⟩⟩⟩⟩⟩)
    (case pz_PLACES => rfl)
    (case pf_PLACES => exact ⟨⟨("none", 0), by decide +kernel, _, rfl⟩, ⟨⟨("one", 0), by decide +kernel, _, rfl⟩, ⟨⟨("all", 0), by decide +kernel, _, rfl⟩, ⟨⟨("not", 1), by decide +kernel, _, rfl⟩, ⟨⟨("neg", 1), by decide +kernel, _, rfl⟩, ⟨⟨("twice", 1), by decide +kernel, _, rfl⟩, ⟨⟨("and", 2), by decide +kernel, _, rfl⟩, ⟨⟨("or", 2), by decide +kernel, _, rfl⟩, ⟨⟨("xor", 2), by decide +kernel, _, rfl⟩, ⟨⟨("add", 2), by decide +kernel, _, rfl⟩, ⟨⟨("sub", 2), by decide +kernel, _, rfl⟩, trivial⟩⟩⟩⟩⟩⟩⟩⟩⟩⟩⟩)
    (case a_WideError => k_is)
    (case x_WideError => k_exc)
    (case k_WideError => k_is)
    (case e1_WideError => k_is)
    (case e2_WideError => k_is)
    (case e3_WideError => k_is)
    (case e4_WideError => k_is)
    (case e5_WideError => k_is)
    (case e6_WideError => k_is)
    (case e7_WideError => k_is)
    (case e8_WideError => k_is)
    (case e9_WideError => k_is)
    (case e10_WideError => k_is)
    (case e11_WideError => k_is)
    (case a_NoRow => k_is)
    (case x_NoRow => k_exc)
    (case k_NoRow => k_is)
    (case e1_NoRow => k_is)
    (case e2_NoRow => k_is)
    (case e3_NoRow => k_is)
    (case e4_NoRow => k_is)
    (case e5_NoRow => k_is)
    (case e6_NoRow => k_is)
    (case e7_NoRow => k_is)
    (case e8_NoRow => k_is)
    (case e9_NoRow => k_is)
    (case e10_NoRow => k_is)
    (case e11_NoRow => k_is)
    (case a_NoPair => k_is)
    (case x_NoPair => k_exc)
    (case k_NoPair => k_is)
    (case e1_NoPair => k_is)
    (case e2_NoPair => k_is)
    (case e3_NoPair => k_is)
    (case e4_NoPair => k_is)
    (case e5_NoPair => k_is)
    (case e6_NoPair => k_is)
    (case e7_NoPair => k_is)
    (case e8_NoPair => k_is)
    (case e9_NoPair => k_is)
    (case e10_NoPair => k_is)
    (case e11_NoPair => k_is)
    (case a_NoName => k_is)
    (case x_NoName => k_exc)
    (case k_NoName => k_is)
    (case e1_NoName => k_is)
    (case e2_NoName => k_is)
    (case e3_NoName => k_is)
    (case e4_NoName => k_is)
    (case e5_NoName => k_is)
    (case e6_NoName => k_is)
    (case e7_NoName => k_is)
    (case e8_NoName => k_is)
    (case e9_NoName => k_is)
    (case e10_NoName => k_is)
    (case e11_NoName => k_is)
    (case a_TooMany => k_is)
    (case x_TooMany => k_exc)
    (case k_TooMany => k_is)
    (case e1_TooMany => k_is)
    (case e2_TooMany => k_is)
    (case e3_TooMany => k_is)
    (case e4_TooMany => k_is)
    (case e5_TooMany => k_is)
    (case e6_TooMany => k_is)
    (case e7_TooMany => k_is)
    (case e8_TooMany => k_is)
    (case e9_TooMany => k_is)
    (case e10_TooMany => k_is)
    (case e11_TooMany => k_is)
    (case a_Nothing => k_is)
    (case x_Nothing => k_exc)
    (case k_Nothing => k_is)
    (case e1_Nothing => k_is)
    (case e2_Nothing => k_is)
    (case e3_Nothing => k_is)
    (case e4_Nothing => k_is)
    (case e5_Nothing => k_is)
    (case e6_Nothing => k_is)
    (case e7_Nothing => k_is)
    (case e8_Nothing => k_is)
    (case e9_Nothing => k_is)
    (case e10_Nothing => k_is)
    (case e11_Nothing => k_is)
    (case s_WideError_WideError => k_is)
    (case s_WideError_NoRow => k_is)
    (case s_WideError_NoPair => k_is)
    (case s_WideError_NoName => k_is)
    (case s_WideError_TooMany => k_is)
    (case s_WideError_Nothing => k_is)
    (case s_NoRow_WideError => k_is)
    (case s_NoRow_NoRow => k_is)
    (case s_NoRow_NoPair => k_is)
    (case s_NoRow_NoName => k_is)
    (case s_NoRow_TooMany => k_is)
    (case s_NoRow_Nothing => k_is)
    (case s_NoPair_WideError => k_is)
    (case s_NoPair_NoRow => k_is)
    (case s_NoPair_NoPair => k_is)
    (case s_NoPair_NoName => k_is)
    (case s_NoPair_TooMany => k_is)
    (case s_NoPair_Nothing => k_is)
    (case s_NoName_WideError => k_is)
    (case s_NoName_NoRow => k_is)
    (case s_NoName_NoPair => k_is)
    (case s_NoName_NoName => k_is)
    (case s_NoName_TooMany => k_is)
    (case s_NoName_Nothing => k_is)
    (case s_TooMany_WideError => k_is)
    (case s_TooMany_NoRow => k_is)
    (case s_TooMany_NoPair => k_is)
    (case s_TooMany_NoName => k_is)
    (case s_TooMany_TooMany => k_is)
    (case s_TooMany_Nothing => k_is)
    (case s_Nothing_WideError => k_is)
    (case s_Nothing_NoRow => k_is)
    (case s_Nothing_NoPair => k_is)
    (case s_Nothing_NoName => k_is)
    (case s_Nothing_TooMany => k_is)
    (case s_Nothing_Nothing => k_is)
    (case z_abs => k_is)
    (case z_all => k_is)
    (case z_bool => k_is)
    (case z_enumerate => k_is)
    (case z_int => k_is)
    (case z_isinstance => k_is)
    (case z_len => k_is)
    (case z_list => k_is)
    (case z_max => k_is)
    (case z_range => k_is)
    (case z_sorted => k_is)
    (case z_str => k_is)
    (case z_sum => k_is)
    (case z_tuple => k_is)
    (case z_zip => k_is)
