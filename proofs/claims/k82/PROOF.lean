import PyProof.Rows.All
import Wide.All
import OpenK.AllK
import Wide.FinOn
import HandS.CallLocal
import HandS.DictComp
import KE.KDictCopyH
import KE.KEqDict
import KE.SortData
import HandS.Base
import HandS.Call
import HandS.List
import HandS.Comp
import HandS.Ends
import HandS.Dict
import HandS.Iter
import HandS.EndBits
import HandS.Words
import HandS.WordsList
import HandS.WordsDict
import HandS.Text
import HandS.Wide
import HandS.WideBits
import HandS.Conv
import HandS.TupLe
import HandS.IsInst
import HandS.ExcIs
import HandS.ExcValue
import HandS.TupSets
import HandS.Zip
import HandS.Walk
import HandS.TupAny
import HandS.Deep
import PyProof.ReprRoads
import PyProof.ReprBulk
import KE.GoesZip
import KE.GoesMore
import KE.GoesEnum
import HandS.DictTup
import KE.KSortTupG
import HandS.TupLen
import HandS.NoneIn
import HandS.Records
import HandS.Flow
import HandS.More
import KE.KDictWalk
import KE.KDictDisplayH
import PyProof.WalkInts
import PyProof.DictTable
import KE.KeyNested
import KE.KDictKeyed
import PyProof.DictMoreH
import HandS.ListItems
import KE.KTurns
import HandS.Star
import PyProof.StrOps2
import HandS.TryOnly
import HandS.WordsExc
import HandS.Style
import HandS.RaiseMore
import HandS.FStr
import HandS.ExcOwn
import HandS.ExcCtx
import HandS.SetFor
import PySem.Challenge.RW_anywide_k82_desk_keeps_many
set_option Elab.async false
set_option linter.all false
set_option maxRecDepth 100000
namespace AW
open PySem PySem.Spec PyProof.Rows L2
theorem fn_at {P : Program} {w : World} {K : PySem.W.Frag} {mg : Str → Option Value} {base : Heap} {k : Nat} {f : Addr} {x qual : Str} {st : Stmt} {fd : FuncData} {N ps : List Str}
    (F : Fun K x qual st f fd) (S : FnScope N ps (defScope st)) {A : Around} {outer : List Env} {s : Shared} {H : Hp} {args : Args} {us : List Value} {vs : List V} {Q : VK} {E : XK}
    (hr : Room (k + 1) A) (e0 : Env0 P w K mg base A outer s H) (hb : BindsTo s fd args (ps.zip us)) (r : Vals vs us) (hl : vs.length = ps.length)
    (hbody : ∀ cdv : Value, ∃ t, PSs (cxOf CX0 P w K mg base N qual (defScope st) f cdv A outer s H E).nox (defBody st) t ∧ t { nx := fun _ H' => Q .non H', rt := Q } (start N vs) H) :
    codeAny (model P w) A (.call (.ref f) args) (CR CX0 outer P w H s Q E) s := by
  obtain ⟨oc, od, kV, doc, pm, an, cdv, ct, osl, rfl, lk, hcd⟩ := F.ex
  have keep0 : ∀ b o, base.get? b = some o → s.heap.get? b = some o := fun b o e => (e0.bs b o e).1
  have KX := e0.mod.kin.keeps keep0
  refine codeAny_call_function (Room.depth hr) (KX _ _ lk) rfl S.co S.gen rfl (PySem.W.codeRec_of KX hcd) (hb _ _ _ _ ?_)
  have kinds : ∀ y ∈ ps.zip us, (defScope st).names.lookup y.1 = some .local ∨ ((defScope st).names.lookup y.1 = some .cell ∧ ((cellsFrom (s.heap.objs.size + 1) (defScope st).names []).lookup y.1).isSome = true) := by
    intro y hy
    obtain ⟨n, v⟩ := y
    exact (S.par n (List.of_mem_zip hy).1).elim Or.inl fun q => Or.inr ⟨q, PySem.W.cellsFrom_some _ _ _ (.inl q)⟩
  refine wpAny_newFunctionEnv_cells S.kind kinds ?_
  rintro env rfl s1 ic
  obtain ⟨t, ht, hq⟩ := hbody cdv
  refine ⟨(e0.mod.nolimit.keeps keep0).keeps ic.toInCall.keep, codeAny_func (wpAny_mono (ht.nox.run [] s1 (start N vs) H _ (inv_start S hr.hd e0 hl r ic) hq) ?_ (fun _ _ z => z))⟩
  intro fl s' hs
  cases fl with
  | ret u =>
    obtain ⟨v, σ', H', J, rv, q⟩ := hs
    exact ⟨v, H', J.os, J.bare, J.base, J.hok, rv, q⟩
  | next =>
    obtain ⟨σ', H', J, q⟩ := hs
    exact ⟨V.non, H', J.os, J.bare, J.base, J.hok, rfl, q⟩
  | brk => exact hs.elim fun _ z => z.elim fun _ z => z.2.elim
  | cont => exact hs.elim fun _ z => z.elim fun _ z => z.2.elim
theorem env_at {P : Program} {w : World} {K : PySem.W.Frag} {mg mb : Str → Option Value} {a : Addr} {s1 : Shared} {vs : List Value} {H : Hp}
    (KX : K.In s1.heap) (hns : s1.heap.Ns mainGlobals mg) (hb : s1.heap.Ns builtinsNs mb) (hbb : ∀ x : Str, x ≠ "__name__" → mb x = bootBuiltins x) (hlim : s1.heap.NoLimit) (hg : s1.gens = #[])
    (ha : s1.heap.get? a = some { cls := .type "list", data := .seq vs.toArray }) (one : ∀ b u, H b = some u → b = a) (out : ∀ o, K.lookup a = some o → H a = none) (ok : HOk P w H s1.heap) :
    Env0 P w K mg (hidT s1.heap H) callerA [] s1 H := by
  have dicts : ∀ {b : Addr} {m : Str → Option Value}, s1.heap.Ns b m → (hidT s1.heap H).Ns b m := by
    rintro b m ⟨o, es, ep, e, d, r⟩
    refine ⟨o, es, ep, hidT_get e ?_, d, r⟩
    match q : H b with
    | none => rfl
    | some u =>
      obtain rfl := one b u q
      have e2 := Option.some.inj (e.symm.trans ha)
      rw [e2] at d
      cases d
  have kin : K.In (hidT s1.heap H) := by
    intro b o e
    refine hidT_get (KX b o e) ?_
    match q : H b with
    | none => rfl
    | some u =>
      obtain rfl := one b u q
      exact q.symm.trans (out o e)
  obtain ⟨mc, l1, l2⟩ := hlim
  exact ⟨rfl, ⟨kin, dicts hns, ⟨mb, dicts hb, hbb⟩, ⟨mc, dicts l1, l2⟩⟩, fun b o e => of_hidT e, Nat.le_of_eq (hidT_size _ _), trivial, (fun b z => nomatch z), ok, .of_eq hg⟩
theorem law_end {P : Program} {w : World} {K : PySem.W.Frag} {mg mb : Str → Option Value} {fa a : Addr} {s1 : Shared} {vs : List Value} {ns : List Int}
    (KX : K.In s1.heap) (hns : s1.heap.Ns mainGlobals mg) (hb : s1.heap.Ns builtinsNs mb) (hbb : ∀ x : Str, x ≠ "__name__" → mb x = bootBuiltins x) (hlim : s1.heap.NoLimit) (hg : s1.gens = #[])
    (ha : s1.heap.get? a = some { cls := .type "list", data := .seq vs.toArray }) (hi : IntsAre vs ns) (hl : ns.length ≤ sizeLine)
    (run : ∀ (base : Heap) (H : Hp), Env0 P w K mg base callerA [] s1 H → SqL K H a (ns.map V.int) →
      codeAny (model P w) callerA (.call (.ref fa) ⟨[.ref a], []⟩) (CR CX0 [] P w H s1 (fun v _ => v = .bl true) E0) s1) :
    codeAny (model P w) callerA (.call (.ref fa) ⟨[.ref a], []⟩) (fun r s' => r = .ok (.ret (.bool true)) ∧ OldK s1.heap s'.heap ∧ s'.os = s1.os ∧ AllBare s'.gens) s1 := by
  have rv := vals_ints hi
  have fin : ∀ H : Hp, HOk P w H s1.heap → (∀ b u, H b = some u → ∃ o xs, u = .frz o (.lst xs)) → ∀ r s', CR CX0 [] P w H s1 (fun v _ => v = .bl true) E0 r s' →
      r = .ok (.ret (.bool true)) ∧ OldK s1.heap s'.heap ∧ s'.os = s1.os ∧ AllBare s'.gens := by
    intro H ok hf r s' h
    match r, h with
    | .ok (.ret u), ⟨v, H', os, bare, un, ok2, rel, q⟩ =>
      obtain rfl : v = .bl true := q
      obtain rfl : u = Value.bool true := rel
      refine ⟨rfl, OldK.of_keep ?_, os, bare⟩
      intro b o e
      match qb : H b with
      | none => exact un.keep b o e qb (fun z => nomatch z) (fun z => nomatch z)
      | some ho =>
        obtain ⟨o2, xs, rfl⟩ := hf b ho qb
        have k1 := (ok b _ qb).1
        have k2 := (ok2 b _ (un.frzs b o2 _ qb)).1
        rw [e] at k1
        cases k1
        exact k2
  match hk : K.lookup a with
  | some o =>
    have e := (KX a o hk).symm.trans ha
    obtain rfl := Option.some.inj e
    have ok : HOk P w (fun _ => none) s1.heap := fun b u z => nomatch z
    refine codeAny_mono (run _ (fun _ => none) (env_at KX hns hb hbb hlim hg ha (fun b u z => nomatch z) (fun _ _ => rfl) ok) ?_) (fin _ ok fun b u z => nomatch z)
    exact .inr ⟨_, vs.toArray, _, hk, rfl, rfl, rfl, by rw [List.size_toArray, hi.length]; exact hl, by simpa using rv⟩
  | none =>
    let o : Obj := { cls := .type "list", data := .seq vs.toArray }
    have at_ : ∀ b u, (if b = a then some (HO.frz o (.lst (ns.map V.int))) else none) = some u → b = a ∧ u = HO.frz o (.lst (ns.map V.int)) := by
      intro b u z
      by_cases hb : b = a
      · rw [if_pos hb] at z
        exact ⟨hb, (Option.some.inj z).symm⟩
      · rw [if_neg hb] at z
        cases z
    have ok : HOk P w (fun b => if b = a then some (HO.frz o (.lst (ns.map V.int))) else none) s1.heap := by
      intro b u z
      obtain ⟨rfl, rfl⟩ := at_ b u z
      exact ⟨ha, by rw [List.length_map]; exact hl, vs, _, rv, ha⟩
    refine codeAny_mono (run _ _ (env_at KX hns hb hbb hlim hg ha (fun b u z => (at_ b u z).1) (fun o' e => absurd (hk.symm.trans e) (fun z => nomatch z)) ok) ?_) (fin _ ok fun b u z => ⟨_, _, (at_ b u z).2⟩)
    exact .inl (.inr ⟨o, if_pos rfl⟩)
theorem walkG {l : PySem.W.OpenLaw} {n : Nat} {q : Program} {loose : List Str} {XP : (Str → Option Value) → Heap → Prop} {YP : World → Heap → Prop} {d : DefRec} {K : Params → PySem.W.Frag}
    (hn : l.most = some n) (hn2 : n ≤ sizeLine) (hdf : d.params.defaults = []) (hY : ∀ (w : World) (h : Heap), YP w h → (K w.params).In h)
    (F : ∀ (w : World) (mg : Str → Option Value) (fa : Addr) (h : Heap), (K w.params).In h → h.Ns mainGlobals mg → mg d.name = some (.ref fa) →
      ∀ (s : Shared) (a : Addr) (ns : List Int) (base : Heap) (H : Hp), ns.length ≤ n → (∀ z ∈ ns, Builtin.Int.intBits z ≤ 1048576) → Env0 l.prog w (K w.params) mg base callerA [] s H → SqL (K w.params) H a (ns.map V.int) →
        codeAny (model l.prog w) callerA (.call (.ref fa) ⟨[.ref a], []⟩) (CR CX0 [] l.prog w H s (fun v _ => v = .bl true) E0) s) :
    PySem.W.WalkO q loose XP YP l.row.toRowW d [] (fun f vs => PySem.call f vs) := by
  apply Att.attach_callB hn hdf
  intro w s0 s1 mg mb fa o pm cd doc a vs ns G Y ho hd hcd hmg hobj hints hlen hbits hg
  have KX := hY w _ Y
  exact law_end KX G.T.g G.T.b G.T.builtins G.T.nolimit hg hobj hints (Nat.le_trans hlen hn2) fun base H e0 hS => F w mg fa _ KX G.T.g hmg s1 a ns base H hlen hbits e0 hS
section
variable {X : Cx}
end
end AW
namespace AW
open PySem PySem.Spec PyProof.Rows L2
section
variable {X : Cx}
def CPowW (i j : Int) : Prop := 0 ≤ j ∧ (Builtin.Int.intBits i : Int) * j ≤ 2 ^ 27
theorem op_powW : OpR X (binaryOp .Pow) (rI CPowW fun i j => .int (i ^ j.toNat)) := opI fun _ _ _ _ _ _ _ hc q => pow_int hc.1 hc.2 q
end
theorem bits_lt {z : Int} {n : Nat} (h : Builtin.Int.intBits z ≤ n) : z.natAbs < 2 ^ n := by
  unfold Builtin.Int.intBits at h
  by_cases e : z = 0
  · subst e
    exact Nat.pos_of_ne_zero (by simp)
  · rw [if_neg (by simpa using e)] at h
    have : z.natAbs ≠ 0 := by omega
    exact (Nat.log2_lt this).mp (by omega)
theorem seed_ok {z c : Int} (h0 : 0 ≤ z) (h1 : z ≤ 2147483629) (h2 : Builtin.Int.intBits c ≤ 1048576) : CPowW (z * 50021 + c) 3 := by
  refine ⟨by decide, ?_⟩
  have hc := bits_lt h2
  have h3 : (z * 50021 + c).natAbs < 2 ^ 1048577 := by
    have a : (z * 50021 + c).natAbs ≤ (z * 50021).natAbs + c.natAbs := Int.natAbs_add_le _ _
    have b : (z * 50021).natAbs ≤ 2 ^ 48 := by omega
    have d : (2 : Nat) ^ 48 ≤ 2 ^ 1048576 := Nat.pow_le_pow_right (by decide) (by decide)
    have e : (2 : Nat) ^ 1048577 = 2 ^ 1048576 + 2 ^ 1048576 := by rw [Nat.pow_succ]; omega
    omega
  have h4 := PyProof.Rows.intBits_le h3
  have e : (2 : Int) ^ 27 = 134217728 := by decide
  rw [e]
  omega
def tMid (t u : TS) : TS := fun D σ H => ∃ M : L2.St → Hp → Prop, t { D with nx := M } σ H ∧ ∀ σ2 H2, M σ2 H2 → u D σ2 H2
theorem pss_mid {X : Cx} {st : Stmt} {r : List Stmt} {t u : TS} (a : PS X st t) (b : PSs X r u) : PSs X (st :: r) (tMid t u) := by
  constructor
  rintro pins s σ H D I ⟨M, h1, h2⟩
  apply wpAny_execs_cons
  refine thn (a.run pins s σ H _ I h1) ?_
  intro fl s2 z
  match fl, z with
  | .next, ⟨σ2, H2, I2, m⟩ => exact b.run pins s2 σ2 H2 D I2 (h2 σ2 H2 m)
  | .ret _, z => exact z
  | .brk, z => exact z
  | .cont, z => exact z
def WL (H : Hp) (a c : Addr) : Prop := a ≠ c ∧ ∃ (cs : List Int) (r s : Int), H a = some (.lst [.ref c, .int r, .int s]) ∧ H c = some (.lst (cs.map V.int))
/-- all but the well stands as it stood -/
def Kp (a c : Addr) (H H' : Hp) : Prop := ∀ b o, b ≠ a → b ≠ c → H b = some o → H' b = some o
theorem Kp.refl (a c : Addr) (H : Hp) : Kp a c H H := fun _ _ _ _ h => h
theorem Kp.trans {a c : Addr} {H H1 H2 : Hp} (h : Kp a c H H1) (k : Kp a c H1 H2) : Kp a c H H2 := fun b o n1 n2 e => k b o n1 n2 (h b o n1 n2 e)
theorem Kp.tup {a c : Addr} {H H' : Hp} (w : WL H a c) (k : Kp a c H H') {b : Addr} {xs : List V} (h : H b = some (.tup xs)) : H' b = some (.tup xs) := by
  obtain ⟨_, cs, r, s, e1, e2⟩ := w
  exact k b _ (ne_of h e1 (fun z => nomatch z)) (ne_of h e2 (fun z => nomatch z)) h
theorem same_new {H : Hp} {p : Addr} {o : HO} (h : H p = none) : Same H (upd H p o) := fun b x e => by
  rw [upd_ne (ne_of_none e h)]
  exact e
theorem WL.same {H H' : Hp} {a c : Addr} (w : WL H a c) (k : Same H H') : WL H' a c := by
  obtain ⟨n, cs, r, s, e1, e2⟩ := w
  exact ⟨n, cs, r, s, k _ _ e1, k _ _ e2⟩
theorem WL.ne_new {H : Hp} {a c p : Addr} (w : WL H a c) (h : H p = none) : p ≠ a ∧ p ≠ c := by
  obtain ⟨n, cs, r, s, e1, e2⟩ := w
  exact ⟨(ne_of_none e1 h).symm, (ne_of_none e2 h).symm⟩
theorem WL.upd {H : Hp} {a c p : Addr} {o : HO} (w : WL H a c) (h1 : p ≠ a) (h2 : p ≠ c) : WL (upd H p o) a c := by
  obtain ⟨n, cs, r, s, e1, e2⟩ := w
  exact ⟨n, cs, r, s, by rw [upd_ne h1.symm]; exact e1, by rw [upd_ne h2.symm]; exact e2⟩
theorem Same.kp {a c : Addr} {H H' : Hp} (s : Same H H') : Kp a c H H' := fun b o _ _ e => s b o e
theorem dp_ints {K : PySem.W.Frag} {H : Hp} : ∀ cs : List Int, DpAll K H (cs.map V.int) (cs.map PyData.int)
  | [] => .nil
  | c :: cs => .cons (.int c) (dp_ints cs)
theorem lay_ints : ∀ cs : List Int, PyData.canLayAll0 (cs.map PyData.int) = true ∧ PyData.depthAll (cs.map PyData.int) = 0
  | [] => ⟨by simp only [List.map_nil, PyData.canLayAll0], by simp only [List.map_nil, PyData.depthAll]⟩
  | c :: cs => by
    obtain ⟨h1, h2⟩ := lay_ints cs
    exact ⟨by simp only [List.map_cons, PyData.canLayAll0, PyData.canLay0, h1, Bool.and_self], by simp only [List.map_cons, PyData.depthAll, PyData.depth, h2, Nat.max_self]⟩
theorem shaped_ints (cs : List Int) : SeqAt.shaped (.list (cs.map PyData.int)) = true := by
  obtain ⟨h1, h2⟩ := lay_ints cs
  simp only [SeqAt.shaped, PyData.canLay0, PyData.depth, h1, h2, Bool.true_and]
  decide
theorem seq0 (n : Nat) : seqIndex? 0 (n + 1) = some 0 := by
  unfold seqIndex?
  simp
def fwL : List (Str × Int) := [("none", 0), ("one", 0), ("all", 0), ("not", 1), ("neg", 1), ("twice", 1), ("and", 2), ("or", 2), ("xor", 2), ("add", 2), ("sub", 2)]
/-- a deed: its word and its numbers -/
abbrev Deed := Str × List Int
def dV (d : Deed) : List V := .str d.1 :: d.2.map V.int
theorem dv0 (d : Deed) : atI (dV d) 0 = some (.str d.1) := atI_nat (j := 0) rfl
theorem dvN {d : Deed} {k : Nat} {i : Int} (h : d.2[k]? = some i) : atI (dV d) ((k + 1 : Nat) : Int) = some (.int i) := atI_nat (by show (d.2.map V.int)[k]? = _; rw [List.getElem?_map, h]; rfl)
structure DeedOk (m : Int) (d : Deed) : Prop where
  word : (d.1, (d.2.length : Int)) ∈ fwL
  ahead : ∀ i ∈ d.2, 0 ≤ i ∧ i < m
theorem awSnoc {α β : Type} {F : α → β → Prop} {x : α} {y : β} (h : F x y) : ∀ {l : List α} {l2 : List β}, Paired F l l2 → Paired F (l ++ [x]) (l2 ++ [y])
  | _, _, .nil => .cons h .nil
  | _, _, .cons r t => .cons r (awSnoc h t)
theorem awMap {α β : Type} {F G : α → β → Prop} (f : ∀ a b, F a b → G a b) : ∀ {l : List α} {l2 : List β}, Paired F l l2 → Paired G l l2
  | _, _, .nil => .nil
  | _, _, .cons r t => .cons (f _ _ r) (awMap f t)
theorem awLen {α β : Type} {F : α → β → Prop} : ∀ {l : List α} {l2 : List β}, Paired F l l2 → l.length = l2.length
  | _, _, .nil => rfl
  | _, _, .cons _ t => congrArg (· + 1) (awLen t)
theorem awGet {α β : Type} {F : α → β → Prop} : ∀ {l : List α} {l2 : List β} {i : Nat} {x : α}, Paired F l l2 → l[i]? = some x → ∃ y, l2[i]? = some y ∧ F x y
  | _, _, _, _, .nil, e => by simp at e
  | _, _, 0, _, .cons r _, e => by
    simp only [List.getElem?_cons_zero, Option.some.injEq] at e
    subst e
    exact ⟨_, rfl, r⟩
  | _, _, i + 1, x, .cons _ t, e => by
    simp only [List.getElem?_cons_succ] at e ⊢
    exact awGet t e
theorem awGet2 {α β : Type} {F : α → β → Prop} {l : List α} {l2 : List β} {i : Nat} {y : β} (h : Paired F l l2) (e : l2[i]? = some y) : ∃ x, l[i]? = some x ∧ F x y := by
  have hi : i < l.length := by
    rw [awLen h]
    exact (List.getElem?_eq_some_iff.mp e).1
  obtain ⟨y2, e2, f⟩ := awGet h (List.getElem?_eq_getElem hi)
  rw [e] at e2
  obtain rfl := Option.some.inj e2
  exact ⟨_, List.getElem?_eq_getElem hi, f⟩
/-- deeds that stand in the heap as tuples -/
abbrev DsAt (H : Hp) : List Addr → List Deed → Prop := Paired fun r d => H r = some (.tup (dV d))
def RowAt (H : Hp) (R : Addr) (m : Int) (ds : List Deed) (o : Int) : Prop := ∃ D rs, H R = some (.tup [.int m, .ref D, .int o]) ∧ H D = some (.tup (rs.map V.ref)) ∧ DsAt H rs ds
structure DsOk (m : Int) (ds : List Deed) : Prop where
  each : ∀ (k : Nat) d, ds[k]? = some d → DeedOk (m + k) d
structure RowOk (m : Int) (ds : List Deed) (o : Int) : Prop where
  m1 : 1 ≤ m
  m3 : m ≤ 3
  len : ds.length ≤ 8
  deeds : DsOk m ds
  o0 : 0 ≤ o
  o1 : o < m + ds.length
/-- all tuples stand -/
def TupsStay (H H' : Hp) : Prop := ∀ b xs, H b = some (.tup xs) → H' b = some (.tup xs)
theorem Same.tups {H H' : Hp} (s : Same H H') : TupsStay H H' := fun b xs e => s b _ e
theorem Kp.tups {a c : Addr} {H H' : Hp} (k : Kp a c H H') (w : WL H a c) : TupsStay H H' := fun b xs e => k.tup w e
theorem TupsStay.trans {H H1 H2 : Hp} (a : TupsStay H H1) (b : TupsStay H1 H2) : TupsStay H H2 := fun c xs e => b c xs (a c xs e)
theorem tups_put {H : Hp} {l : Addr} {xs : List V} {o : HO} (h : H l = some (.lst xs)) : TupsStay H (upd H l o) := fun b ys e => by
  rw [upd_ne (ne_of e h (fun z => nomatch z))]
  exact e
theorem TupsStay.ds {H H' : Hp} (t : TupsStay H H') {rs : List Addr} {ds : List Deed} (h : DsAt H rs ds) : DsAt H' rs ds := awMap (fun r d e => t r _ e) h
theorem TupsStay.row {H H' : Hp} (t : TupsStay H H') {R : Addr} {m o : Int} {ds : List Deed} (h : RowAt H R m ds o) : RowAt H' R m ds o := by
  obtain ⟨D, rs, e1, e2, e3⟩ := h
  exact ⟨D, rs, t _ _ e1, t _ _ e2, t.ds e3⟩
def deedD (d : Deed) : PyData := .tuple (.str d.1 :: d.2.map PyData.int)
def rowD (m : Int) (ds : List Deed) (o : Int) : PyData := .tuple [.int m, .tuple (ds.map deedD), .int o]
theorem fw_short : ∀ p ∈ fwL, p.1.cps.size ≤ 5 ∧ (p.1.cps.toList.all fun c => decide (c < 16 ^ 8)) = true ∧ p.2 ≤ 2 := by decide +kernel
theorem strEq {x y : Str} (h : decide (V.str x = V.str y) = true) : x = y := V.str.inj (of_decide_eq_true h)
theorem strNe {x y : Str} (h : ¬ decide (V.str x = V.str y) = true) : ¬ x = y := fun e => h (decide_eq_true (congrArg V.str e))
def argAt (d : Deed) (told : List Int) (k : Nat) : Int := told.getD (d.2.getD k 0).toNat 0
theorem atI_ints {l : List Int} {o : Int} (h0 : 0 ≤ o) (h1 : o < l.length) : atI (l.map V.int) o = some (.int (l.getD o.toNat 0)) := by
  obtain ⟨k, rfl⟩ := Int.eq_ofNat_of_zero_le h0
  have hk : k < l.length := by omega
  apply atI_nat
  rw [List.getElem?_map, List.getElem?_eq_getElem hk, Int.toNat_natCast, List.getD_eq_getElem?_getD, List.getElem?_eq_getElem hk]
  rfl
theorem fw_one : ∀ p ∈ fwL, ¬ p.1 = "none" → ¬ p.1 = "one" → ¬ p.1 = "all" → 1 ≤ p.2 := by decide +kernel
theorem fw_two' : ∀ p ∈ fwL, (decide (p.1 ∈ (["none", "one", "all", "not", "neg", "twice"] : List Str)) || decide (2 ≤ p.2)) = true := by decide +kernel
theorem fw_two (p : Str × Int) (h : p ∈ fwL) (n1 : ¬ p.1 = "none") (n2 : ¬ p.1 = "one") (n3 : ¬ p.1 = "all") (n4 : ¬ p.1 = "not") (n5 : ¬ p.1 = "neg") (n6 : ¬ p.1 = "twice") : 2 ≤ p.2 := by
  have e := fw_two' p h
  rw [Bool.or_eq_true] at e
  rcases e with e | e
  · have e2 := of_decide_eq_true e
    simp only [List.mem_cons, List.not_mem_nil, or_false] at e2
    rcases e2 with e2 | e2 | e2 | e2 | e2 | e2
    · exact absurd e2 n1
    · exact absurd e2 n2
    · exact absurd e2 n3
    · exact absurd e2 n4
    · exact absurd e2 n5
    · exact absurd e2 n6
  · exact of_decide_eq_true e
theorem arg_of {d : Deed} {told : List Int} (h : DeedOk told.length d) {k : Nat} (hk : k < d.2.length) : ∃ i, d.2[k]? = some i ∧ 0 ≤ i ∧ atI (told.map V.int) i = some (.int (argAt d told k)) := by
  have hg := List.getElem?_eq_getElem hk
  obtain ⟨i0, i1⟩ := h.ahead _ (List.getElem_mem hk)
  refine ⟨d.2[k], hg, i0, ?_⟩
  rw [atI_ints i0 i1]
  unfold argAt
  rw [List.getD_eq_getElem?_getD (l := d.2), hg]
  rfl
theorem arg1 {d : Deed} {told : List Int} (h : DeedOk told.length d) (n1 : ¬ d.1 = "none") (n2 : ¬ d.1 = "one") (n3 : ¬ d.1 = "all") : ∃ i, d.2[0]? = some i ∧ 0 ≤ i ∧ atI (told.map V.int) i = some (.int (argAt d told 0)) :=
  arg_of h (by have := fw_one _ h.word n1 n2 n3; show 0 < d.2.length; have e : (1 : Int) ≤ (d.2.length : Int) := this; omega)
theorem arg2 {d : Deed} {told : List Int} (h : DeedOk told.length d) (n1 : ¬ d.1 = "none") (n2 : ¬ d.1 = "one") (n3 : ¬ d.1 = "all") (n4 : ¬ d.1 = "not") (n5 : ¬ d.1 = "neg") (n6 : ¬ d.1 = "twice") :
    ∃ i, d.2[1]? = some i ∧ 0 ≤ i ∧ atI (told.map V.int) i = some (.int (argAt d told 1)) :=
  arg_of h (by have := fw_two _ h.word n1 n2 n3 n4 n5 n6; show 1 < d.2.length; have e : (2 : Int) ≤ (d.2.length : Int) := this; omega)
theorem sIx_one (x : V) (xs : List V) : HT.sIx (x :: xs).length 0 (some 1) = 1 := by
  have e : HT.sIx (x :: xs).length 0 (some 1) = min 1 (x :: xs).length := HT.sIx_nat (x :: xs).length 0 1
  rw [e, List.length_cons]
  omega
theorem cutTail (x : V) (xs : List V) : cutV (x :: xs) (some 1) none = xs := by
  have h2 : HT.sIx (x :: xs).length (x :: xs).length none = (x :: xs).length := HT.sIx_none _ _
  unfold cutV
  rw [sIx_one, h2]
  simp
theorem notWhole (x : V) (xs : List V) : ¬ (HT.sIx (x :: xs).length 0 (some 1) = 0 ∧ HT.sIx (x :: xs).length (x :: xs).length none = (x :: xs).length) := by
  rw [sIx_one]
  exact fun h => absurd h.1 (by decide)
theorem intEq {x y : Int} (h : decide (V.int x = V.int y) = true) : x = y := V.int.inj (of_decide_eq_true h)
theorem intNe {x y : Int} (h : ¬ decide (V.int x = V.int y) = true) : ¬ x = y := fun e => h (decide_eq_true (congrArg V.int e))
section
variable {X : Cx}
def rCatZ : R2 := fun x y H Q => ∃ a b xs ys, x = .ref a ∧ y = .ref b ∧ H a = some (.tup xs) ∧ H b = some (.tup ys) ∧ xs.length + ys.length ≤ sizeLine ∧ ∀ p H2, Same H H2 → H2 p = some (.tup (xs ++ ys)) → Q (.ref p) H2
theorem op_catZ : OpR X (binaryOp .Add) rCatZ := by
  intro pins s σ H x y v u Q I rx ry h
  obtain ⟨a, b, xs, ys, rfl, rfl, ha, hb, hz, q⟩ := h
  refine op_catA pins s σ H _ _ v u Q I rx ry ⟨a, b, xs, ys, rfl, rfl, SqT.of ha, SqT.of hb, hz, fun e => ?_, fun _ e => ?_, fun _ _ p hp => ?_⟩
  · subst e
    exact q b H (Same.refl H) hb
  · subst e
    exact q a H (Same.refl H) (by rw [List.append_nil]; exact ha)
  · exact q p _ (same_new hp) upd_same
end
theorem awAppend {α β : Type} {F : α → β → Prop} : ∀ {l k : List α} {l2 k2 : List β}, Paired F l l2 → Paired F k k2 → Paired F (l ++ k) (l2 ++ k2)
  | _, _, _, _, .nil, h => h
  | _, _, _, _, .cons r t, h => .cons r (awAppend t h)
theorem inS (x : Str) : ∀ l : List Str, inV (.str x) (l.map V.str) = decide (x ∈ l)
  | [] => rfl
  | y :: l => by
    have ih := inS x l
    show (eqV (.str y) (.str x) || inV (.str x) (l.map V.str)) = _
    rw [ih]
    by_cases h : x = y
    · subst h
      simp [eqV]
    · have h2 : ¬ y = x := fun e => h e.symm
      simp [eqV, h, h2]
def twC : List Str := ["add", "sub", "twice", "neg", "one"]
def fcD (d : Deed) : Int := if d.1 ∈ (["neg", "one"] : List Str) then 1 else 0
def dbit (x : Str) (a b c : Int) : Int :=
  if x = "none" then 0 else if x = "all" then 1 else if x = "one" then c else if x = "twice" then c else if x = "not" then 1 - a else if x = "neg" then Builtin.bitXor (1 - a) c
  else if x = "and" then Builtin.bitAnd a b else if x = "or" then Builtin.bitOr a b else if x = "xor" then Builtin.bitXor a b else Builtin.bitXor (Builtin.bitXor a b) c
def dcar (x : Str) (a b c : Int) : Int :=
  if x = "neg" then Builtin.bitAnd (1 - a) c else if x = "twice" then a else if x = "add" then (a + b + c) / 2 else if x = "sub" then (1 - a + b + c) / 2 else 0
def dbitAt (d : Deed) (c : Int) (told : List Int) : Int := dbit d.1 (argAt d told 0) (argAt d told 1) c
def dcarAt (d : Deed) (c : Int) (told : List Int) : Int := dcar d.1 (argAt d told 0) (argAt d told 1) c
def bts : List Deed → List Int → List Int → List Int
  | d :: ds, c :: cs, told => bts ds cs (told ++ [dbitAt d c told])
  | _, _, told => told
def nxt (ds : List Deed) (cs told : List Int) : List Int := List.zipWith (fun d c => dcarAt d c told) ds cs
abbrev Bit (x : Int) : Prop := x = 0 ∨ x = 1
theorem bit0 : Bit 0 := .inl rfl
theorem bit1 : Bit 1 := .inr rfl
theorem dbit_bit {x : Str} {a b c : Int} (ha : Bit a) (hb : Bit b) (hc : Bit c) : Bit (dbit x a b c) := by
  have n1 : Bit (1 - a) := by rcases ha with rfl | rfl <;> simp [Bit]
  have hx : ∀ {p q : Int}, Bit p → Bit q → Bit (Builtin.bitXor p q) := fun hp hq => by
    rcases hp with rfl | rfl <;> rcases hq with rfl | rfl <;> decide
  have hand : ∀ {p q : Int}, Bit p → Bit q → Bit (Builtin.bitAnd p q) := fun hp hq => by
    rcases hp with rfl | rfl <;> rcases hq with rfl | rfl <;> decide
  have hor : ∀ {p q : Int}, Bit p → Bit q → Bit (Builtin.bitOr p q) := fun hp hq => by
    rcases hp with rfl | rfl <;> rcases hq with rfl | rfl <;> decide
  unfold dbit
  split; · exact bit0
  split; · exact bit1
  split; · exact hc
  split; · exact hc
  split; · exact n1
  split; · exact hx n1 hc
  split; · exact hand ha hb
  split; · exact hor ha hb
  split; · exact hx ha hb
  exact hx (hx ha hb) hc
theorem dcar_bit {x : Str} {a b c : Int} (ha : Bit a) (hb : Bit b) (hc : Bit c) : Bit (dcar x a b c) := by
  unfold dcar
  split
  · rcases ha with rfl | rfl <;> rcases hc with rfl | rfl <;> decide
  split; · exact ha
  split
  · rcases ha with rfl | rfl <;> rcases hb with rfl | rfl <;> rcases hc with rfl | rfl <;> decide
  split
  · rcases ha with rfl | rfl <;> rcases hb with rfl | rfl <;> rcases hc with rfl | rfl <;> decide
  exact bit0
theorem argAt_bit {told : List Int} (h : ∀ x ∈ told, Bit x) (d : Deed) (j : Nat) : Bit (argAt d told j) := by
  unfold argAt
  rw [List.getD_eq_getElem?_getD]
  cases e : told[(d.2.getD j 0).toNat]? with
  | none => exact bit0
  | some y => exact h y (List.mem_of_getElem? e)
theorem bts_next : ∀ {ds : List Deed} {cs t : List Int} {i : Nat} {d : Deed} {c : Int}, ds[i]? = some d → cs[i]? = some c → bts (ds.take (i + 1)) (cs.take (i + 1)) t = bts (ds.take i) (cs.take i) t ++ [dbitAt d c (bts (ds.take i) (cs.take i) t)]
  | [], _, _, _, _, _, h, _ => by simp at h
  | _ :: _, [], _, _, _, _, _, h => by simp at h
  | e :: ds, g :: cs, t, 0, d, c, h, k => by
    simp only [List.getElem?_cons_zero, Option.some.injEq] at h k
    subst h k
    rfl
  | e :: ds, g :: cs, t, i + 1, d, c, h, k => by
    simp only [List.getElem?_cons_succ] at h k
    exact bts_next (t := t ++ [dbitAt e g t]) h k
theorem bts_len : ∀ {ds : List Deed} {cs t : List Int}, ds.length = cs.length → (bts ds cs t).length = t.length + ds.length
  | [], [], _, _ => rfl
  | [], _ :: _, _, h => by simp at h
  | _ :: _, [], _, h => by simp at h
  | d :: ds, c :: cs, t, h => by
    show (bts ds cs (t ++ [dbitAt d c t])).length = _
    rw [bts_len (by simpa using h), List.length_append, List.length_cons, List.length_cons, List.length_nil]
    omega
theorem bts_bits : ∀ {ds : List Deed} {cs t : List Int}, (∀ x ∈ t, Bit x) → (∀ x ∈ cs, Bit x) → ∀ x ∈ bts ds cs t, Bit x
  | [], cs, t, h, _ => by
    unfold bts
    exact h
  | _ :: _, [], t, h, _ => by
    unfold bts
    exact h
  | d :: ds, c :: cs, t, h, k => by
    refine bts_bits (ds := ds) (cs := cs) (t := t ++ [dbitAt d c t]) (fun x hx => ?_) fun x hx => k x (List.mem_cons_of_mem _ hx)
    rcases List.mem_append.mp hx with hx | hx
    · exact h x hx
    · rw [List.mem_singleton.mp hx]
      exact dbit_bit (argAt_bit h d 0) (argAt_bit h d 1) (k c List.mem_cons_self)
theorem nxt_len {ds : List Deed} {cs t : List Int} (h : ds.length = cs.length) : (nxt ds cs t).length = ds.length := by
  unfold nxt
  rw [List.length_zipWith]
  omega
theorem nxt_bits {ds : List Deed} {cs t : List Int} (h : ∀ x ∈ t, Bit x) (k : ∀ x ∈ cs, Bit x) : ∀ x ∈ nxt ds cs t, Bit x := by
  intro x hx
  unfold nxt at hx
  obtain ⟨i, hi⟩ := List.mem_iff_getElem?.mp hx
  rw [List.getElem?_zipWith] at hi
  cases e1 : ds[i]? with
  | none => rw [e1] at hi; simp at hi
  | some d =>
    cases e2 : cs[i]? with
    | none => rw [e1, e2] at hi; simp at hi
    | some c =>
      rw [e1, e2] at hi
      have := Option.some.inj hi
      rw [← this]
      exact dcar_bit (argAt_bit h d 0) (argAt_bit h d 1) (k c (List.mem_of_getElem? e2))
theorem nxt_next {ds : List Deed} {cs t : List Int} {i : Nat} {d : Deed} {c : Int} (h : ds[i]? = some d) (k : cs[i]? = some c) : (nxt ds cs t).take (i + 1) = (nxt ds cs t).take i ++ [dcarAt d c t] := by
  rw [List.take_add_one]
  unfold nxt
  rw [List.getElem?_zipWith, h, k]
  rfl
section
variable {K : PySem.W.Frag} {a b : Addr} {xs ys : List V}
theorem walk_zipT (hn : xs.length = ys.length) : Walk (RZ.ItzT K a b) xs.length (fun H => SqT K H a xs ∧ SqT K H b ys) (YPair (fun i => xs[i]?) (fun i => ys[i]?)) where
  goes := fun i H hi q => ⟨xs, ys, xs[i], ys[i]'(by omega), q.1, q.2, List.getElem?_eq_getElem hi, List.getElem?_eq_getElem (by omega)⟩
  stops := fun H q => ⟨xs, ys, q.1, q.2, .inl (Nat.le_refl _)⟩
  yields := fun i H v H2 hi q y => by
    obtain ⟨T, x, z, h1, h2, h3, h4, h5⟩ := y
    exact ⟨T, x, z, h1, h2, h3, h4 xs q.1, h5 ys q.2⟩
end
section
variable {X : Cx} {K : PySem.W.Frag}
theorem kit_ref {D C : Addr} {b : Bool} (h1 : PySem.W.isClsIn K C = true) (h2 : PySem.W.typeIn K (.ref C) = some (.type "type")) (h3 : PySem.W.subIn K (.ref D) (.ref C) = some b) (h4 : PySem.W.subIn K (.ref C) (.ref C) = some true) : PySem.W.kitOne K (.ref D) (.ref C) = some b := by
  unfold PySem.W.kitOne
  by_cases e : D = C
  · subst e
    rw [h3] at h4
    rw [if_pos (by simp), h4]
  · rw [if_neg (by simpa using e)]
    have e1 : ((PySem.W.clsIn K C).isSome && PySem.W.typeIn K (.ref C) == some (.type "type")) = true := by
      have h1' : (PySem.W.clsIn K C).isSome = true := h1
      rw [h1', h2]
      rfl
    show (if ((PySem.W.clsIn K C).isSome && PySem.W.typeIn K (.ref C) == some (.type "type")) = true then PySem.W.subIn K (.ref D) (.ref C) else none) = some b
    rw [if_pos e1]
    exact h3
theorem kit_ve {D : Addr} {b : Bool} (h : PySem.W.subIn K (.ref D) (.type "ValueError") = some b) : PySem.W.kitOne K (.ref D) (.type "ValueError") = some b := by
  have e1 : PySem.W.kitMeta "ValueError" = true := by decide +kernel
  show (if PySem.W.kitMeta "ValueError" = true then PySem.W.subIn K (.ref D) (.type "ValueError") else none) = some b
  rw [if_pos e1]
  exact h
end
end AW
namespace KK
open PySem PySem.Spec PyProof.Rows L2 AW
def topS (i : Nat) : Stmt := PySem.Challenge.pw_anywide_k82_desk_keeps_many.main.body.getD i (.Pass ⟨0, 0, 0, 0⟩)
abbrev s_all_bits : Stmt := topS 1
abbrev N_all_bits : List Str := ["many", "choices", "place", "bits", "bit"]
theorem sc_all_bits : FnScope N_all_bits ["many"] (defScope s_all_bits) := ⟨rfl, rfl, rfl, by decide +kernel, rfl, by decide +kernel, by decide +kernel⟩
abbrev s_first_carry : Stmt := topS 2
abbrev N_first_carry : List Str := ["row", "deed"]
theorem sc_first_carry : FnScope N_first_carry ["row"] (defScope s_first_carry) := ⟨rfl, rfl, rfl, by decide +kernel, rfl, by decide +kernel, by decide +kernel⟩
abbrev s_deed_bit : Stmt := topS 3
abbrev N_deed_bit : List Str := ["deed", "held", "told", "word", "first", "second"]
theorem sc_deed_bit : FnScope N_deed_bit ["deed", "held", "told"] (defScope s_deed_bit) := ⟨rfl, rfl, rfl, by decide +kernel, rfl, by decide +kernel, by decide +kernel⟩
abbrev s_bits_of : Stmt := topS 4
abbrev N_bits_of : List Str := ["row", "carry", "bits", "told", "deed", "held"]
theorem sc_bits_of : FnScope N_bits_of ["row", "carry", "bits"] (defScope s_bits_of) := ⟨rfl, rfl, rfl, by decide +kernel, rfl, by decide +kernel, by decide +kernel⟩
abbrev s_two_or_more : Stmt := topS 5
abbrev N_two_or_more : List Str := ["one", "other", "third"]
theorem sc_two_or_more : FnScope N_two_or_more ["one", "other", "third"] (defScope s_two_or_more) := ⟨rfl, rfl, rfl, by decide +kernel, rfl, by decide +kernel, by decide +kernel⟩
abbrev s_deed_carry : Stmt := topS 6
abbrev N_deed_carry : List Str := ["deed", "held", "told", "word"]
theorem sc_deed_carry : FnScope N_deed_carry ["deed", "held", "told"] (defScope s_deed_carry) := ⟨rfl, rfl, rfl, by decide +kernel, rfl, by decide +kernel, by decide +kernel⟩
abbrev s_carry_behind : Stmt := topS 7
abbrev N_carry_behind : List Str := ["row", "carry", "told", "deed", "held"]
theorem sc_carry_behind : FnScope N_carry_behind ["row", "carry", "told"] (defScope s_carry_behind) := ⟨rfl, rfl, rfl, by decide +kernel, rfl, by decide +kernel, by decide +kernel⟩
abbrev s_steps : Stmt := topS 8
abbrev N_steps : List Str := ["row", "carry", "told", "bits", "all_told"]
theorem sc_steps : FnScope N_steps ["row", "carry"] (defScope s_steps) := ⟨rfl, rfl, rfl, by decide +kernel, rfl, by decide +kernel, by decide +kernel⟩
abbrev s_kept_steps : Stmt := topS 9
abbrev s_carries : Stmt := topS 10
abbrev s_both_steps : Stmt := topS 21
abbrev s_words_of : Stmt := topS 22
abbrev s_check_pair : Stmt := topS 24
abbrev s_alike : Stmt := topS 25
abbrev s_sign_behind : Stmt := topS 30
abbrev s_triples_behind : Stmt := topS 31
abbrev s_at_most : Stmt := topS 32
abbrev s_whole_machine : Stmt := topS 34
abbrev N_whole_machine : List Str := ["row", "choices", "walk", "machine", "at", "carry", "state", "bits", "bit", "after"]
theorem sc_whole_machine : FnScope N_whole_machine ["row"] (defScope s_whole_machine) := ⟨rfl, rfl, rfl, by decide +kernel, rfl, by decide +kernel, by decide +kernel⟩
abbrev s_numbered : Stmt := topS 35
abbrev N_numbered : List Str := ["looks", "numbers", "look"]
theorem sc_numbered : FnScope N_numbered ["looks"] (defScope s_numbered) := ⟨rfl, rfl, rfl, by decide +kernel, rfl, by decide +kernel, by decide +kernel⟩
abbrev s_kinds_of_states : Stmt := topS 36
abbrev N_kinds_of_states : List Str := ["machine", "kinds", "many", "behind", "bit", "after", "state"]
theorem sc_kinds_of_states : FnScope N_kinds_of_states ["machine"] (defScope s_kinds_of_states) := ⟨rfl, rfl, rfl, by decide +kernel, rfl, by decide +kernel, by decide +kernel⟩
abbrev s_least_machine : Stmt := topS 37
abbrev N_least_machine : List Str := ["row", "whole", "kinds", "least", "kind", "state", "bit", "after"]
theorem sc_least_machine : FnScope N_least_machine ["row"] (defScope s_least_machine) := ⟨rfl, rfl, rfl, by decide +kernel, rfl, by decide +kernel, by decide +kernel⟩
abbrev s_is_whole : Stmt := topS 42
abbrev N_is_whole : List Str := ["thing"]
theorem sc_is_whole : FnScope N_is_whole ["thing"] (defScope s_is_whole) := ⟨rfl, rfl, rfl, by decide +kernel, rfl, by decide +kernel, by decide +kernel⟩
abbrev s_is_number_below : Stmt := topS 43
abbrev N_is_number_below : List Str := ["thing", "many"]
theorem sc_is_number_below : FnScope N_is_number_below ["thing", "many"] (defScope s_is_number_below) := ⟨rfl, rfl, rfl, by decide +kernel, rfl, by decide +kernel, by decide +kernel⟩
abbrev s_is_deed : Stmt := topS 44
abbrev N_is_deed : List Str := ["thing", "ahead", "word", "numbers", "number"]
theorem sc_is_deed : FnScope N_is_deed ["thing", "ahead"] (defScope s_is_deed) := ⟨rfl, rfl, rfl, by decide +kernel, rfl, by decide +kernel, by decide +kernel⟩
abbrev s_are_deeds : Stmt := topS 45
abbrev N_are_deeds : List Str := ["thing", "many", "at", "deed"]
theorem sc_are_deeds : FnScope N_are_deeds ["thing", "many"] (defScope s_are_deeds) := ⟨rfl, rfl, rfl, by decide +kernel, rfl, by decide +kernel, by decide +kernel⟩
abbrev s_is_row : Stmt := topS 46
abbrev N_is_row : List Str := ["thing", "many", "deeds", "out"]
theorem sc_is_row : FnScope N_is_row ["thing"] (defScope s_is_row) := ⟨rfl, rfl, rfl, by decide +kernel, rfl, by decide +kernel, by decide +kernel⟩
abbrev s_renumbered : Stmt := topS 47
abbrev s_deed_value : Stmt := topS 48
abbrev s_values : Stmt := topS 49
abbrev s_worth : Stmt := topS 50
abbrev s_is_name : Stmt := topS 54
abbrev N_is_name : List Str := ["thing", "sign"]
theorem sc_is_name : FnScope N_is_name ["thing"] (defScope s_is_name) := ⟨rfl, rfl, rfl, by decide +kernel, rfl, by decide +kernel, by decide +kernel⟩
abbrev s_check_name : Stmt := topS 55
abbrev N_check_name : List Str := ["thing"]
theorem sc_check_name : FnScope N_check_name ["thing"] (defScope s_check_name) := ⟨rfl, rfl, rfl, by decide +kernel, rfl, by decide +kernel, by decide +kernel⟩
abbrev s_look_of : Stmt := topS 56
abbrev N_look_of : List Str := ["row", "state"]
theorem sc_look_of : FnScope N_look_of ["row"] (defScope s_look_of) := ⟨rfl, rfl, rfl, by decide +kernel, rfl, by decide +kernel, by decide +kernel⟩
abbrev s_agreeing : Stmt := topS 59
abbrev s_how_often : Stmt := topS 60
abbrev s_check_parts : Stmt := topS 62
abbrev s_put_behind : Stmt := topS 63
abbrev s_put_together : Stmt := topS 64
abbrev s_first_alikes : Stmt := topS 66
abbrev s_is_had : Stmt := topS 67
abbrev s_fitting : Stmt := topS 68
abbrev s_dropped : Stmt := topS 69
abbrev s_brought_back : Stmt := topS 70
abbrev s_put_by : Stmt := topS 71
abbrev s_mended : Stmt := topS 72
abbrev s_read_number : Stmt := topS 76
abbrev N_read_number : List Str := ["word", "sign"]
theorem sc_read_number : FnScope N_read_number ["word"] (defScope s_read_number) := ⟨rfl, rfl, rfl, by decide +kernel, rfl, by decide +kernel, by decide +kernel⟩
abbrev s_written_part : Stmt := topS 77
abbrev N_written_part : List Str := ["part", "word"]
theorem sc_written_part : FnScope N_written_part ["part"] (defScope s_written_part) := ⟨rfl, rfl, rfl, by decide +kernel, rfl, by decide +kernel, by decide +kernel⟩
abbrev s_read_part : Stmt := topS 78
abbrev N_read_part : List Str := ["text", "words", "word"]
theorem sc_read_part : FnScope N_read_part ["text"] (defScope s_read_part) := ⟨rfl, rfl, rfl, by decide +kernel, rfl, by decide +kernel, by decide +kernel⟩
abbrev s_show_row : Stmt := topS 79
abbrev N_show_row : List Str := ["row", "many", "deeds", "out", "part"]
theorem sc_show_row : FnScope N_show_row ["row"] (defScope s_show_row) := ⟨rfl, rfl, rfl, by decide +kernel, rfl, by decide +kernel, by decide +kernel⟩
abbrev s_read_row : Stmt := topS 80
abbrev N_read_row : List Str := ["text", "parts", "first", "last", "row", "part"]
theorem sc_read_row : FnScope N_read_row ["text"] (defScope s_read_row) := ⟨rfl, rfl, rfl, by decide +kernel, rfl, by decide +kernel, by decide +kernel⟩
abbrev s_check_single : Stmt := topS 82
abbrev s_turned : Stmt := topS 83
abbrev s_is_width : Stmt := topS 88
abbrev N_is_width : List Str := ["word", "number"]
theorem sc_is_width : FnScope N_is_width ["word"] (defScope s_is_width) := ⟨rfl, rfl, rfl, by decide +kernel, rfl, by decide +kernel, by decide +kernel⟩
abbrev s_is_in_place : Stmt := topS 89
abbrev N_is_in_place : List Str := ["word", "place"]
theorem sc_is_in_place : FnScope N_is_in_place ["word", "place"] (defScope s_is_in_place) := ⟨rfl, rfl, rfl, by decide +kernel, rfl, by decide +kernel, by decide +kernel⟩
abbrev s_is_of_form : Stmt := topS 90
abbrev N_is_of_form : List Str := ["words", "form", "places", "word", "place"]
theorem sc_is_of_form : FnScope N_is_of_form ["words", "form"] (defScope s_is_of_form) := ⟨rfl, rfl, rfl, by decide +kernel, rfl, by decide +kernel, by decide +kernel⟩
abbrev s_words_said : Stmt := topS 91
abbrev N_words_said : List Str := ["row", "words"]
theorem sc_words_said : FnScope N_words_said ["row"] (defScope s_words_said) := ⟨rfl, rfl, rfl, by decide +kernel, rfl, by decide +kernel, by decide +kernel⟩
abbrev s_with_width : Stmt := topS 92
abbrev s_answer_tell : Stmt := topS 93
abbrev N_answer_tell : List Str := ["book", "words"]
theorem sc_answer_tell : FnScope N_answer_tell ["book", "words"] (defScope s_answer_tell) := ⟨rfl, rfl, rfl, by decide +kernel, rfl, by decide +kernel, by decide +kernel⟩
abbrev s_answer_forget : Stmt := topS 94
abbrev N_answer_forget : List Str := ["book", "words"]
theorem sc_answer_forget : FnScope N_answer_forget ["book", "words"] (defScope s_answer_forget) := ⟨rfl, rfl, rfl, by decide +kernel, rfl, by decide +kernel, by decide +kernel⟩
abbrev s_answer_back : Stmt := topS 95
abbrev N_answer_back : List Str := ["book", "words"]
theorem sc_answer_back : FnScope N_answer_back ["book", "words"] (defScope s_answer_back) := ⟨rfl, rfl, rfl, by decide +kernel, rfl, by decide +kernel, by decide +kernel⟩
abbrev s_answer_show : Stmt := topS 96
abbrev N_answer_show : List Str := ["book", "words"]
theorem sc_answer_show : FnScope N_answer_show ["book", "words"] (defScope s_answer_show) := ⟨rfl, rfl, rfl, by decide +kernel, rfl, by decide +kernel, by decide +kernel⟩
abbrev s_answer_names : Stmt := topS 97
abbrev N_answer_names : List Str := ["book", "words"]
theorem sc_answer_names : FnScope N_answer_names ["book", "words"] (defScope s_answer_names) := ⟨rfl, rfl, rfl, by decide +kernel, rfl, by decide +kernel, by decide +kernel⟩
abbrev s_answer_kinds : Stmt := topS 98
abbrev N_answer_kinds : List Str := ["book", "words", "kind"]
theorem sc_answer_kinds : FnScope N_answer_kinds ["book", "words"] (defScope s_answer_kinds) := ⟨rfl, rfl, rfl, by decide +kernel, rfl, by decide +kernel, by decide +kernel⟩
abbrev s_answer_worth : Stmt := topS 99
abbrev s_answer_alike : Stmt := topS 100
abbrev s_answer_turned : Stmt := topS 101
abbrev s_answer_most : Stmt := topS 102
abbrev s_answer_states : Stmt := topS 103
abbrev s_answer_agree : Stmt := topS 104
abbrev s_answer_mend : Stmt := topS 105
abbrev s_answer_put : Stmt := topS 106
abbrev s_law_well : Stmt := topS 110
abbrev N_law_well : List Str := ["script", "seed", "cell"]
theorem sc_law_well : FnScope N_law_well ["script"] (defScope s_law_well) := ⟨rfl, rfl, rfl, by decide +kernel, rfl, by decide +kernel, by decide +kernel⟩
abbrev s_law_draw : Stmt := topS 111
abbrev N_law_draw : List Str := ["well", "many", "cell", "found"]
theorem sc_law_draw : FnScope N_law_draw ["well", "many"] (defScope s_law_draw) := ⟨rfl, rfl, rfl, by decide +kernel, rfl, by decide +kernel, by decide +kernel⟩
abbrev s_law_text : Stmt := topS 112
abbrev N_law_text : List Str := ["row", "parts", "deed", "number"]
theorem sc_law_text : FnScope N_law_text ["row"] (defScope s_law_text) := ⟨rfl, rfl, rfl, by decide +kernel, rfl, by decide +kernel, by decide +kernel⟩
abbrev s_law_said : Stmt := topS 113
abbrev N_law_said : List Str := ["desk", "row", "due", "found"]
theorem sc_law_said : FnScope N_law_said ["desk", "row", "due"] (defScope s_law_said) := ⟨rfl, rfl, rfl, by decide +kernel, rfl, by decide +kernel, by decide +kernel⟩
abbrev s_law_simple : Stmt := topS 114
abbrev N_law_simple : List Str := ["well", "size", "many", "deeds", "out", "k"]
theorem sc_law_simple : FnScope N_law_simple ["well"] (defScope s_law_simple) := ⟨rfl, rfl, rfl, by decide +kernel, rfl, by decide +kernel, by decide +kernel⟩
abbrev s_law_told : Stmt := topS 115
abbrev N_law_told : List Str := ["desk", "names", "state", "kinds", "name", "due", "one"]
theorem sc_law_told : FnScope N_law_told ["desk", "names", "state"] (defScope s_law_told) := ⟨rfl, rfl, rfl, by decide +kernel, rfl, by decide +kernel, by decide +kernel⟩
abbrev s_law_two_letters : Stmt := topS 116
abbrev N_law_two_letters : List Str := ["well", "many", "letters", "first", "places", "found", "place", "k"]
theorem sc_law_two_letters : FnScope N_law_two_letters ["well", "many"] (defScope s_law_two_letters) := ⟨rfl, rfl, rfl, by decide +kernel, rfl, by decide +kernel, by decide +kernel⟩
abbrev s_law_told_long : Stmt := topS 117
abbrev N_law_told_long : List Str := ["well", "desk", "names", "state", "past", "turn", "name"]
theorem sc_law_told_long : FnScope N_law_told_long ["well", "desk", "names", "state", "past"] (defScope s_law_told_long) := ⟨rfl, rfl, rfl, by decide +kernel, rfl, by decide +kernel, by decide +kernel⟩
abbrev s_law : Stmt := topS 118
abbrev N_law : List Str := ["script", "well", "many", "names", "desk", "state", "past", "far", "turn", "name", "ahead", "deed"]
theorem sc_law : FnScope N_law ["script"] (defScope s_law) := ⟨rfl, rfl, rfl, by decide +kernel, rfl, by decide +kernel, by decide +kernel⟩
abbrev c_Walk : Stmt := topS 20
abbrev c_Book : Stmt := topS 57
abbrev c_Desk : Stmt := topS 108
section
variable {P : Program} {w : World} {K : PySem.W.Frag} {mg : Str → Option Value} {base : Heap}
section dts
variable {X : Cx} {e : Expr} {td : TE} {apos cpos : Pos}
/-- d.values() -/
def valsO (p d : Addr) : HO := .ext fun h => h.IsValuesView p d
theorem valsO_ok {H : Hp} {h : Heap} {p d : Addr} (e : h.get? p = some { cls := .type "dict_values", data := .fields #[.ref d] }) : ObjOk P w H h p (valsO p d) := by
  refine ⟨⟨_, e, rfl, rfl⟩, ⟨_, e⟩, ?_⟩
  rintro h1 h2 ⟨o, ho, r⟩ k
  exact ⟨o, k o ho, r⟩
end dts
mutual
inductive AnyAt (N : Addr → Prop) (H : Hp) : V → PyData → Prop
  | non : AnyAt N H .non .none
  | bl (b : Bool) : AnyAt N H (.bl b) (.bool b)
  | int (i : Int) : AnyAt N H (.int i) (.int i)
  | str (x : Str) : AnyAt N H (.str x) (.str x)
  | tup {a : Addr} {xs : List V} {ds : List PyData} : ¬ N a → H a = some (.tup xs) → AnyAll N H xs ds → AnyAt N H (.ref a) (.tuple ds)
  | lst {a : Addr} {xs : List V} {ds : List PyData} : ¬ N a → a ≠ sysModules → H a = some (.lst xs) → AnyAll N H xs ds → AnyAt N H (.ref a) (.list ds)
  | dic {a : Addr} : ¬ N a → H a = some (.dK []) → AnyAt N H (.ref a) (.dict [])
  | dic1 {a : Addr} {x : V} {d : PyData} : ¬ N a → H a = some (.dK [(Sum.inl 0, x)]) → AnyAt N H x d → AnyAt N H (.ref a) (.dict [(.int 0, d)])
inductive AnyAll (N : Addr → Prop) (H : Hp) : List V → List PyData → Prop
  | nil : AnyAll N H [] []
  | cons {v : V} {vs : List V} {d : PyData} {ds : List PyData} : AnyAt N H v d → AnyAll N H vs ds → AnyAll N H (v :: vs) (d :: ds)
end
/-- what stands at no address of these stays -/
def ButN (N : Addr → Prop) (H H' : Hp) : Prop := ∀ b u, ¬ N b → H b = some u → H' b = some u
theorem any_stay {N : Addr → Prop} {H H' : Hp} (s : ButN N H H') {v : V} {d : PyData} (h : AnyAt N H v d) : AnyAt N H' v d :=
  AnyAt.rec (motive_1 := fun v d _ => AnyAt N H' v d) (motive_2 := fun vs ds _ => AnyAll N H' vs ds) .non .bl .int .str (fun n e _ ih => .tup n (s _ _ n e) ih) (fun n m e _ ih => .lst n m (s _ _ n e) ih) (fun n e => .dic n (s _ _ n e)) (fun n e _ ih => .dic1 n (s _ _ n e) ih) .nil (fun _ _ ih1 ih2 => .cons ih1 ih2) h
theorem any_same {N : Addr → Prop} {H H' : Hp} (s : Same H H') {v : V} {d : PyData} (h : AnyAt N H v d) : AnyAt N H' v d := any_stay (fun b u _ e => s b u e) h
section anyx
variable {X : Cx}
end anyx
def tyD : PyData → Value
  | .none => .type "NoneType"
  | .bool _ => .type "bool"
  | .int _ => .type "int"
  | .str _ => .type "str"
  | .list _ => .type "list"
  | .tuple _ => .type "tuple"
  | .dict _ => .type "dict"
theorem ty_any {N : Addr → Prop} {H : Hp} {v : V} {d : PyData} (h : AnyAt N H v d) : TyX K H v (tyD d) := by
  cases h with
  | non => exact .base .non
  | bl b => exact .base (.bl b)
  | int i => exact .base (.int i)
  | str x => exact .base (.str x)
  | tup _ e _ => exact .base (.tup e)
  | lst _ _ e _ => exact .base (.lst e)
  | dic _ e => exact .base (.dK e)
  | dic1 _ e _ => exact .base (.dK e)
def isInt : PyData → Bool
  | .int _ => true
  | _ => false
/-- is_whole of anything -/
def spWhA : Sp := fun vs H Q _ => ∃ (N : Addr → Prop) (x : V) (d : PyData), vs = [x] ∧ AnyAt N H x d ∧ Q (.bl (isInt d)) H
theorem ok_whA {f : Addr} {fd : FuncData} {k : Nat} (F : Fun K "is_whole" "is_whole" s_is_whole f fd) (mi : mg "isinstance" = none) (mI : mg "int" = none) (mB : mg "bool" = none) : FnOk P w K mg base CX0 (k + 1) f fd ["thing"] spWhA := by
  refine F.ok sc_is_whole (fun vs H Q E h => ?_) (fun cdv A outer s H vs Q E hr h => ?_)
  · obtain ⟨N, x, d, rfl, _⟩ := h
    rfl
  · obtain ⟨N, x, d, rfl, hx, q⟩ := h
    refine ⟨_, pss_one (ps_ret (pe_and (pe_callB call_isi (by rfl) mi (by decide +kernel) (pa_cons (pv 0) (pa_cons (pe_bltn (v := .ty "int") (by rfl) mI (by decide +kernel) rfl) pa_nil))) (pe_one (pe_not (pe_callB call_isi (by rfl) mi (by decide +kernel) (pa_cons (pv 0) (pa_cons (pe_bltn (v := .ty "bool") (by rfl) mB (by decide +kernel) rfl) pa_nil))))))), ?_⟩
    have ty := ty_any (K := K) hx
    cases d with
    | none => exact ⟨x, rfl, x, .ty "int", .type "NoneType", .type "int", false, rfl, .ty "int", ty, kit_ty (by decide +kernel), false, rfl, iteF q⟩
    | bool b => exact ⟨x, rfl, x, .ty "int", .type "bool", .type "int", true, rfl, .ty "int", ty, kit_ty (by decide +kernel), true, rfl, iteT ⟨x, rfl, x, .ty "bool", .type "bool", .type "bool", true, rfl, .ty "bool", ty, kit_ty (by decide +kernel), true, rfl, q⟩⟩
    | int i => exact ⟨x, rfl, x, .ty "int", .type "int", .type "int", true, rfl, .ty "int", ty, kit_ty (by decide +kernel), true, rfl, iteT ⟨x, rfl, x, .ty "bool", .type "int", .type "bool", false, rfl, .ty "bool", ty, kit_ty (by decide +kernel), false, rfl, q⟩⟩
    | str t => exact ⟨x, rfl, x, .ty "int", .type "str", .type "int", false, rfl, .ty "int", ty, kit_ty (by decide +kernel), false, rfl, iteF q⟩
    | list l => exact ⟨x, rfl, x, .ty "int", .type "list", .type "int", false, rfl, .ty "int", ty, kit_ty (by decide +kernel), false, rfl, iteF q⟩
    | tuple l => exact ⟨x, rfl, x, .ty "int", .type "tuple", .type "int", false, rfl, .ty "int", ty, kit_ty (by decide +kernel), false, rfl, iteF q⟩
    | dict l => exact ⟨x, rfl, x, .ty "int", .type "dict", .type "int", false, rfl, .ty "int", ty, kit_ty (by decide +kernel), false, rfl, iteF q⟩
def spWell (K : PySem.W.Frag) : Sp := fun vs H Q _ => ∃ (a : Addr) (ns : List Int), vs = [.ref a] ∧ SqL K H a (ns.map V.int) ∧ ns.length ≤ 63 ∧ (∀ z ∈ ns, Builtin.Int.intBits z ≤ 1048576) ∧
  ∀ H' p c, Same H H' → H p = none → H c = none → WL H' p c → Q (.ref p) H'
theorem ok_well {f : Addr} {fd : FuncData} {k : Nat} (F : Fun K "_law_well" "_law_well" s_law_well f fd) (ma : mg "abs" = none) : FnOk P w K mg base CX0 (k + 1) f fd ["script"] (spWell K) := by
  refine F.ok sc_law_well (fun vs H Q E h => ?_) (fun cdv A outer s H vs Q E hr h => ?_)
  · obtain ⟨a, ns, rfl, _⟩ := h
    rfl
  · obtain ⟨a, ns, rfl, hS, hlen, hbits, q⟩ := h
    refine ⟨_, pss_cons (ps_set (i := 1) sc_law_well.nd rfl (.inl rfl) pe_int)
      (pss_cons (ps_for PassesOwn.never rfl (pi_list (pv 0)) (pg_name (i := 2) sc_law_well.nd rfl (.inl rfl))
        (pss_one (ps_set (i := 1) sc_law_well.nd rfl (.inl rfl) (pe_op op_add (pe_op op_mod (pe_op op_powW (pe_op op_add (pe_op op_mul (pv 1) pe_int) (pv 2)) pe_int) pe_int) pe_int))))
      (pss_one (ps_ret (pe_lst (pa_cons (pe_lc (own := [("cell", 2)]) (g := gName 2) (by rfl) sc_law_well.nd (pi_list (pv 0)) (blkOk_by (own := [("cell", 2)]) (N := ["script", "seed", "cell"]) (sc := defScope s_law_well) (by decide +kernel))
          (fun _ _ _ _ _ => pg_name (i := 2) sc_law_well.nd rfl (Or.inl rfl)) (fun _ _ _ _ _ => pts_nil)
          (fun _ _ _ _ _ => pe_callB call_abs (by rfl) ma (by decide +kernel) (pa_cons (pv 2) pa_nil))) (pa_cons pe_int (pa_cons (pv 1) pa_nil))))))), ?_⟩
    refine ⟨.ref a, rfl, a, rfl, ⟨_, hS⟩, for_list (K := K) (a := a) (xs := ns.map V.int) (fun i σ H3 => ∃ z y, σ = [some (.ref a), some (.int z), y] ∧ 0 ≤ z ∧ z ≤ 2147483629 ∧ H3 = H) ⟨1, none, rfl, by decide, by decide, rfl⟩ (fun i σ H3 _ hp => ?_) (fun i x σ H3 hx hp => ?_) (fun σ H3 hp => ?_)⟩
    · obtain ⟨z, y, _, _, _, rfl⟩ := hp
      exact hS
    · obtain ⟨z, y, rfl, h0, h1, rfl⟩ := hp
      obtain ⟨c, hc, rfl⟩ : ∃ c, c ∈ ns ∧ x = .int c := by
        rw [List.getElem?_map] at hx
        cases e : ns[i]? with
        | none => rw [e] at hx; cases hx
        | some c => rw [e] at hx; exact ⟨c, List.mem_of_getElem? e, (Option.some.inj hx).symm⟩
      refine ⟨.int z, rfl, z, 50021, rfl, rfl, .inr ⟨by decide, by decide⟩, .int c, rfl, _, _, rfl, rfl, _, 3, rfl, rfl, seed_ok h0 h1 (hbits c hc), _, 2147483629, rfl, rfl, (by show (0 : Int) < 2147483629; decide), _, 1, rfl, rfl, ?_⟩
      refine ⟨_, some (.int c), rfl, ?_, ?_, rfl⟩
      · have := Int.emod_nonneg ((z * 50021 + c) ^ (3 : Int).toNat) (show (2147483629 : Int) ≠ 0 by decide)
        omega
      · have := Int.emod_lt_of_pos ((z * 50021 + c) ^ (3 : Int).toNat) (show (0 : Int) < 2147483629 by decide)
        omega
    · obtain ⟨z, y, rfl, h0, h1, rfl⟩ := hp
      refine ⟨.ref a, rfl, a, rfl, ⟨_, hS⟩, fun D hD => ?_⟩
      have sD : ∀ o, Same H3 (upd H3 D o) := fun o => same_new hD
      refine lc_list (K := K) (a := a) (xs := ns.map V.int) (fun i H4 => ∃ cs : List Int, cs.length = i ∧ H4 = upd H3 D (.lst (cs.map V.int))) ⟨[], rfl, rfl⟩ (fun i H4 _ hp => ?_) (fun i x H4 hx hp => ?_) (fun H4 hp => ?_)
      · obtain ⟨cs, _, rfl⟩ := hp
        exact (sD _).seq hS
      · obtain ⟨cs, hl, rfl⟩ := hp
        obtain ⟨c, hc, rfl⟩ : ∃ c, c ∈ ns ∧ x = .int c := by
          rw [List.getElem?_map] at hx
          cases e : ns[i]? with
          | none => rw [e] at hx; cases hx
          | some c => rw [e] at hx; exact ⟨c, List.mem_of_getElem? e, (Option.some.inj hx).symm⟩
        have hi : i < ns.length := by
          have := (List.getElem?_eq_some_iff.mp hx).1
          rwa [List.length_map] at this
        refine ⟨rfl, .int c, rfl, c, rfl, _, upd_same, ?_, cs ++ [if c < 0 then -c else c], ?_, ?_⟩
        · rw [List.length_map, hl]
          exact small1000 (by omega)
        · rw [List.length_append, hl]
          rfl
        · rw [upd_upd, List.map_append]
          rfl
      · obtain ⟨cs, hl, rfl⟩ := hp
        refine ⟨.int z, rfl, by show 3 ≤ sizeLine; decide, fun p hp => ?_⟩
        have np : p ≠ D := fun e => by
          rw [e, upd_same] at hp
          cases hp
        have hp2 : H3 p = none := by
          rw [upd_ne np] at hp
          exact hp
        refine q _ p D ((sD _).trans (same_new hp)) hp2 hD ⟨np, cs, 0, z, upd_same, ?_⟩
        rw [upd_ne np.symm, upd_same]
def spDraw : Sp := fun vs H Q _ => ∃ (a c : Addr) (m : Int), vs = [.ref a, .int m] ∧ 0 < m ∧ m ≤ 2 ^ 80 ∧ WL H a c ∧ ∀ H' z, 0 ≤ z → z < m → WL H' a c → Kp a c H H' → Q (.int z) H'
theorem ok_draw {f : Addr} {fd : FuncData} {k : Nat} (F : Fun K "_law_draw" "_law_draw" s_law_draw f fd) : FnOk P w K mg base CX0 (k + 1) f fd ["well", "many"] spDraw := by
  refine F.ok sc_law_draw (fun vs H Q E h => ?_) (fun cdv A outer s H vs Q E hr h => ?_)
  · obtain ⟨a, c, m, rfl, _⟩ := h
    rfl
  · obtain ⟨a, c, m, rfl, hm, hm2, hw, q⟩ := h
    refine ⟨_, pss_mid (ps_if (PW.pt (pw_and (pt_cmpR op_eq (pe_ix ix_list (pv 0) pe_int (fun _ _ => rfl)) pe_int (nomark _))
          (pw_and1 (pt_cmpR (op_neD hr.units) (pe_ix ix_list (pv 0) pe_int (fun _ _ => rfl)) (pe_lst pa_nil) (nomark _)))))
        (pss_cons (ps_set (i := 2) sc_law_draw.nd rfl (.inl rfl) (pe_bm PySem.F.plainAttrs_list PySem.F.slot_list_pop PySem.F.type_list_pop mt_popAt (pe_ix ix_list (pv 0) pe_int (fun _ _ => rfl)) (pa_cons pe_int pa_nil)))
        (pss_cons (ps_if (pt_cmpR op_lt (pv 2) (pe_op op_pow pe_int pe_int) (nomark _)) (pss_one (ps_ret (pe_op op_mod (pv 2) (pv 1)))) pss_nil)
        (pss_one (ps_asg (pv 2) (pg_sub (pv 0) pe_int set_list))))) pss_nil)
      (pss_cons (ps_if (pt_cmpR op_gt (pe_ix ix_list (pv 0) pe_int (fun _ _ => rfl)) pe_int (nomark _))
        (pss_cons (ps_set (i := 3) sc_law_draw.nd rfl (.inl rfl) (pe_op op_mod (pe_ix ix_list (pv 0) pe_int (fun _ _ => rfl)) (pv 1)))
        (pss_cons (ps_asg (pe_op op_fdivW (pe_ix ix_list (pv 0) pe_int (fun _ _ => rfl)) (pv 1)) (pg_sub (pv 0) pe_int set_list))
        (pss_one (ps_ret (pv 3))))) pss_nil)
      (pss_cons (ps_asg (pe_op op_mod (pe_op op_add (pe_op op_mul (pe_ix ix_list (pv 0) pe_int (fun _ _ => rfl)) pe_int) pe_int) pe_int) (pg_sub (pv 0) pe_int set_list))
      (pss_one (ps_ret (pe_op op_mod (pe_op op_fdiv (pe_op op_mod (pe_op op_pow (pe_op op_mod (pe_op op_pow (pe_ix ix_list (pv 0) pe_int (fun _ _ => rfl)) pe_int) pe_int) pe_int) pe_int) pe_int) (pv 1)))))), ?_⟩
    refine ⟨fun σ2 H2 => ∃ y, σ2 = [some (.ref a), some (.int m), y, none] ∧ WL H2 a c ∧ Kp a c H H2, ?_, ?_⟩
    · obtain ⟨nac, cs, r, sd, ea, ec⟩ := id hw
      have lA : SqL K H a [.ref c, .int r, .int sd] := .inl (.inl ea)
      refine ⟨.ref a, rfl, a, _, 1, .int r, rfl, rfl, lA, rfl, rfl, _, rfl, ite2 (fun e => ?_) (fun e => ?_)⟩
      · refine ⟨.ref a, rfl, a, _, 0, .ref c, rfl, rfl, lA, rfl, Nat.zero_le _, fun p hp => ?_⟩
        have sp : Same H (upd H p (.lst [])) := same_new hp
        refine ⟨.list (cs.map PyData.int), .list [], .lst (sp.seq (.inl (.inl ec))) (dp_ints cs), .lst (.inl (.inl upd_same)) .nil, shaped_ints cs, by decide +kernel, _, rfl, ?_⟩
        have ec2 : upd H p (.lst []) c = some (.lst (cs.map V.int)) := sp _ _ ec
        have ea2 : upd H p (.lst []) a = some (.lst [.ref c, .int r, .int sd]) := sp _ _ ea
        have lA2 : SqL K (upd H p (.lst [])) a [.ref c, .int r, .int sd] := .inl (.inl ea2)
        cases cs with
        | nil =>
          rw [show PyData.eqv (.list (([] : List Int).map PyData.int)) (.list []) = true by decide +kernel]
          exact ⟨_, rfl, hw.same sp, Same.kp sp⟩
        | cons x cs =>
          rw [show PyData.eqv (.list ((x :: cs).map PyData.int)) (.list []) = false by simp only [List.map_cons, PyData.eqv, PyData.eqvAll]]
          refine ⟨.ref a, rfl, a, _, 0, .ref c, rfl, rfl, lA2, rfl, .inl ⟨rfl, _, .inl (.inl ec2)⟩, c, _, 0, 0, .int x, rfl, rfl, ec2, by decide, by decide, ?_, rfl, ?_⟩
          · rw [List.length_map, List.length_cons]
            exact seq0 _
          have w3 : WL (upd (upd H p (.lst [])) c (.lst (List.eraseIdx ((x :: cs).map V.int) 0))) a c := ⟨nac, cs, r, sd, by rw [upd_ne nac]; exact ea2, upd_same⟩
          have k3 : Kp a c H (upd (upd H p (.lst [])) c (.lst (List.eraseIdx ((x :: cs).map V.int) 0))) := fun b o n1 n2 eb => by
            rw [upd_ne n2]
            exact sp _ _ eb
          refine ⟨.int x, rfl, 10, 18, rfl, rfl, ⟨by decide, by decide, by decide⟩, x, _, rfl, rfl, _, rfl, ite2 (fun e => ?_) (fun e => ?_)⟩
          · exact ⟨.int x, rfl, .int m, rfl, x, m, rfl, rfl, hm, q _ _ (Int.emod_nonneg _ (by omega)) (Int.emod_lt_of_pos _ hm) w3 k3⟩
          · refine ⟨.int x, rfl, .ref a, rfl, a, _, 1, 1, rfl, rfl, by rw [upd_ne nac]; exact ea2, rfl, some (.int x), rfl, ?_, ?_⟩
            · exact ⟨nac, cs, x, sd, upd_same, by rw [upd_ne nac.symm]; exact upd_same⟩
            · intro b o n1 n2 eb
              rw [upd_ne n1]
              exact k3 b o n1 n2 eb
      · exact ⟨_, rfl, hw, Kp.refl a c H⟩
    · rintro σ2 H2 ⟨y, rfl, hw2, kp⟩
      obtain ⟨nac, cs, r, sd, ea, ec⟩ := id hw2
      have lA : SqL K H2 a [.ref c, .int r, .int sd] := .inl (.inl ea)
      refine ⟨.ref a, rfl, a, _, 1, .int r, rfl, rfl, lA, rfl, r, 0, rfl, rfl, _, rfl, ite2 (fun e => ?_) (fun e => ?_)⟩
      · refine ⟨.ref a, rfl, a, _, 1, .int r, rfl, rfl, lA, rfl, .int m, rfl, r, m, rfl, rfl, hm, ?_⟩
        refine ⟨.ref a, rfl, a, _, 1, .int r, rfl, rfl, lA, rfl, .int m, rfl, r, m, rfl, rfl, wide_div (b := 81) hm (by omega) (by decide) (by decide), ?_⟩
        refine ⟨.ref a, rfl, a, _, 1, 1, rfl, rfl, ea, rfl, .int (r % m), rfl, ?_⟩
        refine q _ _ (Int.emod_nonneg _ (by omega)) (Int.emod_lt_of_pos _ hm) ⟨nac, cs, r / m, sd, upd_same, ?_⟩ ?_
        · rw [upd_ne nac.symm]
          exact ec
        · intro b o n1 n2 eb
          rw [upd_ne n1]
          exact kp b o n1 n2 eb
      · refine ⟨.ref a, rfl, a, _, 2, .int sd, rfl, rfl, lA, rfl, sd, 48271, rfl, rfl, .inr ⟨by decide, by decide⟩, _, 12345, rfl, rfl, _, 2147483647, rfl, rfl, (by show (0 : Int) < 2147483647; decide), ?_⟩
        have l0 := Int.emod_nonneg (sd * 48271 + 12345) (show (2147483647 : Int) ≠ 0 by decide)
        have l1 := Int.emod_lt_of_pos (sd * 48271 + 12345) (show (0 : Int) < 2147483647 by decide)
        obtain ⟨z, hz⟩ : ∃ z : Int, (sd * 48271 + 12345) % 2147483647 = z := ⟨_, rfl⟩
        rw [hz] at l0 l1
        refine ⟨.ref a, rfl, a, _, 2, 2, rfl, rfl, ea, rfl, ?_⟩
        have l2 := Int.emod_nonneg (z ^ (3 : Int).toNat) (show (2147483629 : Int) ≠ 0 by decide)
        have l3 := Int.emod_lt_of_pos (z ^ (3 : Int).toNat) (show (0 : Int) < 2147483629 by decide)
        refine ⟨.ref a, rfl, a, _, 2, .int z, rfl, rfl, .inl (.inl upd_same), (by rw [← hz]; rfl), z, 3, rfl, rfl, ⟨by decide, by decide, by omega⟩, _, 2147483629, rfl, rfl, (by show (0 : Int) < 2147483629; decide), ?_⟩
        obtain ⟨x, hx⟩ : ∃ x : Int, z ^ (3 : Int).toNat % 2147483629 = x := ⟨_, rfl⟩
        rw [hx] at l2 l3
        refine ⟨x, 5, congrArg V.int hx, rfl, ⟨by decide, by decide, by omega⟩, _, 1000000007, rfl, rfl, (by show (0 : Int) < 1000000007; decide), _, 7, rfl, rfl, ⟨by decide, by decide⟩, .int m, rfl, _, m, rfl, rfl, hm, ?_⟩
        refine q _ _ (Int.emod_nonneg _ (by omega)) (Int.emod_lt_of_pos _ hm) ⟨nac, cs, r, z, (by rw [← hz]; exact upd_same), ?_⟩ ?_
        · rw [upd_ne nac.symm]
          exact ec
        · intro b o n1 n2 eb
          rw [upd_ne n1]
          exact kp b o n1 n2 eb
structure Rw where
  m : Int
  ds : List Deed
  o : Int
abbrev RwAt (H : Hp) (a : Addr) (r : Rw) : Prop := RowAt H a r.m r.ds r.o
abbrev RwOk (r : Rw) : Prop := RowOk r.m r.ds r.o
theorem awAt0 {as : List Addr} {a : Addr} {l : List Addr} (h : as = a :: l) : atI (as.map V.ref) 0 = some (.ref a) := by
  subst h
  exact atI_nat (j := 0) rfl
structure NcB (b k : Nat) (d : PyData) : Prop where
  sh : d.showable = true
  lv : d.leavesShort 62 = true
  bk : d.bulk ≤ b
  dp : d.depth ≤ k
theorem NcB.mono {b b2 k k2 : Nat} {d : PyData} (h : NcB b k d) (hb : b ≤ b2) (hk : k ≤ k2) : NcB b2 k2 d := ⟨h.sh, h.lv, Nat.le_trans h.bk hb, Nat.le_trans h.dp hk⟩
theorem ncb_int {i : Int} (h : i.natAbs < 10 ^ 60) : NcB 0 0 (.int i) := by
  refine ⟨?_, ?_, ?_, ?_⟩
  · simp only [PyData.showable, decide_eq_true_eq]
    have : i.natAbs < 2 ^ 200 := Nat.lt_trans h (by decide)
    by_cases e : i.natAbs = 0
    · rw [e]; decide
    · have := (Nat.log2_lt e).mpr this
      omega
  · simp only [PyData.leavesShort, decide_eq_true_eq]
    have e := int_text_length_le10 (k := 60) (by decide) h
    simp only [PyData.shown]
    rw [PySem.ofString_length]
    omega
  · simp only [PyData.bulk, Nat.le_refl]
  · simp only [PyData.depth, Nat.le_refl]
theorem ncb_str {x : Str} {n : Nat} (h : x.cps.size ≤ n) (hx : (x.cps.toList.all fun c => decide (c < 16 ^ 8)) = true) : NcB n 0 (.str x) := by
  refine ⟨?_, ?_, ?_, ?_⟩
  · simp only [PyData.showable]
  · simp only [PyData.leavesShort]
    exact hx
  · simp only [PyData.bulk]
    exact h
  · simp only [PyData.depth, Nat.le_refl]
theorem ncb_all {b k : Nat} : ∀ {xs : List PyData}, (∀ x ∈ xs, NcB b k x) → PyData.showableAll xs = true ∧ PyData.leavesShortAll 62 xs = true ∧ PyData.bulkAll xs ≤ xs.length * (b + 1) ∧ PyData.depthAll xs ≤ k
  | [], _ => ⟨by simp only [PyData.showableAll], by simp only [PyData.leavesShortAll], by simp only [PyData.bulkAll, Nat.zero_le], by simp only [PyData.depthAll, Nat.zero_le]⟩
  | x :: xs, h => by
    obtain ⟨h1, h2, h3, h4⟩ := ncb_all fun y hy => h y (List.mem_cons_of_mem _ hy)
    obtain ⟨g1, g2, g3, g4⟩ := h x List.mem_cons_self
    refine ⟨by simp only [PyData.showableAll, g1, h1, Bool.and_self], by simp only [PyData.leavesShortAll, g2, h2, Bool.and_self], ?_, ?_⟩
    · simp only [PyData.bulkAll, List.length_cons, Nat.add_mul, Nat.one_mul]
      omega
    · simp only [PyData.depthAll]
      omega
theorem ncb_tup {b k n : Nat} {xs : List PyData} (h : ∀ x ∈ xs, NcB b k x) (hn : xs.length * (b + 1) ≤ n) : NcB n (k + 1) (.tuple xs) := by
  obtain ⟨h1, h2, h3, h4⟩ := ncb_all h
  exact ⟨by simpa only [PyData.showable] using h1, by simpa only [PyData.leavesShort] using h2, by simp only [PyData.bulk]; omega, by simp only [PyData.depth]; omega⟩
section enumt
set_option maxHeartbeats 1000000 in
theorem meets_enum1 {v : Value} {o : Obj} {H : Heap → Prop} (B : Begins v o H) :
    Meets (Builtin.«enumerate.__new__» ⟨[.type "enumerate", v], []⟩) (fun _ R s => H s.heap ∧
      R (.ok (.ret (.ref (s.heap.push o).objs.size))) { s with heap := (s.heap.push o).push { cls := .type "enumerate", data := .fields #[.none, .bool false, .ref s.heap.objs.size, rawInt 0, .none, .none] } }) :=
  .of_wp fun prog w A R s h => by
    obtain ⟨hp, g, d, tk, os⟩ := s; obtain ⟨h1, h⟩ := h
    have hsub := sub_enumerate
    have q1 : ∀ {A' : Around} {E : Value → Shared → Prop} {Q : Value → Shared → Prop}, Q (.ref hp.objs.size) ⟨hp.push o, g, d, tk, os⟩ → wpAny (model prog w) A' (pyIter v) Q E ⟨hp, g, d, tk, os⟩ :=
      fun q => B.iter prog w _ _ ⟨hp, g, d, tk, os⟩ _ h1 q
    wp_walk using q1
    refine wpAny_stack_any fun st => wpAny_pure ?_
    split
    · rename_i c _ _ _ _ _
      cases (c == Value.type "enumerate")
      · wp_walk using q1
        exact ⟨_, rfl, h⟩
      · wp_walk using q1
        exact ⟨_, rfl, h⟩
    · wp_walk using q1
      exact ⟨_, rfl, h⟩
theorem enum1 {prog : Program} {w : World} {A : Around} {E : Value → Shared → Prop} {s : Shared} {v : Value} {o : Obj} {H : Heap → Prop} {Q : Value → Shared → Prop} (B : Begins v o H) (h1 : H s.heap)
    (h : ∀ h', IsEnum h' (s.heap.objs.size + 1) s.heap.objs.size 0 .none → h'.get? s.heap.objs.size = some o → h'.objs.size = s.heap.objs.size + 2 →
      (∀ b o, s.heap.get? b = some o → h'.get? b = some o) → Q (.ref (s.heap.objs.size + 1)) { s with heap := h' }) :
    wpAny (model prog w) A (call (.type "enumerate") [v]) Q E s := by
  refine callType_new F.called_enumerate (by decide) (F.typeCall_enumerate_1 _) (F.newCall_enumerate_1 _) (fun obj => F.args_object_init_2 obj _) F.entry_enumerate_new
    (meets_enum1 B) ⟨h1, ?_⟩
  have hz : (s.heap.push o).objs.size = s.heap.objs.size + 1 := Heap.size_push ..
  show _ ∧ _
  rw [hz]
  have he : IsEnum ((s.heap.push o).push { cls := .type "enumerate", data := .fields #[.none, .bool false, .ref s.heap.objs.size, rawInt 0, .none, .none] }) (s.heap.objs.size + 1) s.heap.objs.size 0 .none := by
    have := Heap.get?_push_size (s.heap.push o) (o := { cls := .type "enumerate", data := .fields #[.none, .bool false, .ref s.heap.objs.size, rawInt 0, .none, .none] }) rfl
    rw [hz] at this; exact this
  refine ⟨⟨_, he, rfl⟩, h _ he (Heap.get?_push_of_some _ (Heap.get?_push_size _ B.free)) (by rw [Heap.size_push, hz]) fun b o x => Heap.get?_push_of_some _ (Heap.get?_push_of_some _ x)⟩
def IteT (K : PySem.W.Frag) (a : Addr) : It :=
  ⟨fun i H => ∃ (xs : List V) (x : V), SqT K H a xs ∧ xs[i]? = some x, fun i H v H' => ∃ T x, v = .ref T ∧ H T = none ∧ H' = upd H T (.tup [.int (i : Nat), x]) ∧ ∀ xs, SqT K H a xs → xs[i]? = some x, fun i H => ∃ xs : List V, SqT K H a xs ∧ xs.length = i⟩
theorem turn_enumT {elts : List Expr} {kk : Nat} {tpos : Pos} (a e it : Addr) (na : a ≠ it) (ne : e ≠ a) :
    Turn P w K (.Tuple elts kk tpos) (IteT K a) [e, it] e (fun i h => (∃ old, IsEnum h e it ((i : Nat) : Int) old) ∧ h.IsTupleIter it a i ∧ e ≠ it) where
  mem := by simp
  obj := fun i h st b hb => by
    obtain ⟨⟨old, he⟩, ⟨o, ho, hc, hd⟩, _⟩ := st
    have e' : b = e ∨ b = it := by simpa using hb
    rcases e' with z | z
    · rw [z]; exact ⟨_, he, fun v q => nomatch q⟩
    · rw [z]; exact ⟨o, ho, fun v q => by rw [hd] at q; cases q⟩
  keep := fun i h h' st k => let ⟨⟨old, he⟩, hi, hne⟩ := st; ⟨⟨old, k e (by simp) _ he⟩, hi.at fun o q => k it (by simp) o q, hne⟩
  item := by
    intro X hP hw hK hc i pins s σ H E I hf st hg
    subst hP hw hK
    obtain ⟨⟨old, he⟩, hit, hne⟩ := st
    obtain ⟨xs, x, hq, hx⟩ := hg
    obtain ⟨its, rv, p, hz⟩ := I.tuple hq
    obtain ⟨u, hu, ru⟩ := rv.get hx
    have hel : e < s.heap.objs.size := Heap.lt_size he
    have hil : it < s.heap.objs.size := by obtain ⟨_, q, _⟩ := hit; exact Heap.lt_size q
    have hh : X.A.in1.handled = none := I.ok.hd hc
    have l1 : i < its.toArray.size := by
      have := (List.getElem?_eq_some_iff.mp hu).1
      simpa using this
    refine wpAny_pyNext_enum_itemD (Draws.tuple hh it a na its.toArray) he ⟨hit, p⟩ l1 hne (by simp [hne, ne]) fun v h' tk g ho hit' hT hsz hk => ?_
    have ev : v = u := by
      have g1' : its.toArray[i]? = some v := g
      have e : its[i]? = some v := by simpa using g1'
      rw [hu] at e
      exact (Option.some.inj e).symm
    subst ev
    refine ⟨_, rfl, wpAny_letOwnedTupleGo_enum (s := { s with heap := h', toks := tk + 1 }) ho fun h'' he' sb => ?_⟩
    have hT2 : h''.get? s.heap.objs.size = some { cls := .type "tuple", data := .seq #[.int i tk, v] } := (sb.2 _ (Nat.ne_of_gt hel)).trans hT
    have new : ObjOk X.prog X.w (upd H s.heap.objs.size (.tup [.int (i : Nat), x])) h'' s.heap.objs.size (.tup [.int (i : Nat), x]) :=
      ⟨by show 2 ≤ sizeLine; decide, [.int i tk, v], .cons ⟨_, rfl⟩ (.cons ru .nil), ⟨_, hT2, rfl, _, rfl⟩⟩
    have I1 : Inv X pins σ (upd H s.heap.objs.size (.tup [.int (i : Nat), x])) { s with heap := h'', toks := tk + 1 } :=
      I.turnedNew (ch := [e, it]) (fun b ob hb q => (sb.2 b (fun z => hb (by simp [z]))).trans (hk b ob (fun z => hb (by simp [z])) (fun z => hb (by simp [z])) q)) hf (Nat.le_refl _) new
    refine ⟨.ref s.heap.objs.size, _, I1, rfl, ⟨_, x, rfl, I.hok.fresh (Nat.le_refl _), rfl, fun ys hy => by rw [I.tuple_inj hy hq]; exact hx⟩, ⟨⟨v, ?_⟩, hit'.1.at fun o q => (sb.2 it (Ne.symm hne)).trans q, hne⟩, fun b hb => ?_⟩
    · have e1 : ((i + 1 : Nat) : Int) = (i : Int) + 1 := by omega
      rw [e1]; exact he'
    · have hb' : b < s.heap.objs.size := by
        have e' : b = e ∨ b = it := by simpa using hb
        rcases e' with z | z
        · rw [z]; exact hel
        · rw [z]; exact hil
      rw [upd_ne (Nat.ne_of_lt hb')]
      exact (hf b hb).1
  done := by
    intro X hP hw hK hc i pins s σ H E I hf st hg
    subst hP hw hK
    obtain ⟨⟨old, he⟩, hit, hne⟩ := st
    obtain ⟨xs, hq, hx⟩ := hg
    obtain ⟨its, rv, p, hz⟩ := I.tuple hq
    obtain ⟨f0, f1, f2, f3, f4, f5⟩ := hf it (by simp)
    have hl := rv.length
    have hh : X.A.in1.handled = none := I.ok.hd hc
    have ei : i = its.toArray.size := by rw [List.size_toArray]; omega
    exact wpAny_pyNext_enum_endD (Draws.tuple hh it a na its.toArray) he ⟨by rw [← ei]; exact hit, p⟩ fun h' eb => ⟨rfl, I.turned (t' := s.toks) (fun b o hb q => eb b o hb q) f0 f1 f3 f4 f5⟩
  self := fun A i s Q E st h => let ⟨⟨_, he⟩, _⟩ := st; wpAny_pyIter_enum he h
def iEnumT (K : PySem.W.Frag) (ta : TA) : TI := fun σ H R => ta σ H fun vs H1 => ∃ a xs, vs = [.ref a] ∧ SqT K H1 a xs ∧ R (IteT K a) H1
theorem pi_enumT {X : Cx} {e : Expr} {ta : TA} {p pos tpos : Pos} {elts : List Expr} {kk : Nat} (hg : Gl X "enumerate") (hm : X.mg "enumerate" = none) (ha : PA X [e] ta) (hs : starEach [e] X.env = [(false, eval e X.env)] := by rfl) :
    PI X (.Tuple elts kk tpos) (.Call (.Name "enumerate" p) [e] [] pos) (iEnumT X.K ta) := by
  refine ⟨fun pins s σ H R I h => ?_⟩
  refine Call_ (ld_blt I hg hm boot_enumerate (PyProof.Rows.callWith_type1 (thn (ha.run pos pins s σ H _ I h) fun us s1 ⟨vs, H1, I1, r1, q1⟩ => ?_) hs rfl))
  obtain ⟨a, xs, ex, hq, q⟩ := q1
  subst ex
  cases r1 with
  | cons r rr =>
    cases rr
    cases r
    obtain ⟨its, rv, p', hz⟩ := I1.tuple hq
    have lb : a < s1.heap.objs.size := by
      obtain ⟨o2, e2, _⟩ := id p'
      exact Heap.lt_size e2
    refine enum1 (begins_tuple a its.toArray) p' fun h' he hit hsz hk => wpAny_pyIter_enum he ?_
    have I2 : Inv X pins σ H1 { s1 with heap := h' } := I1.kept (t' := s1.toks) hk
    refine ⟨s1.heap.objs.size + 1, [s1.heap.objs.size + 1, s1.heap.objs.size], _, _, H1, rfl, I2, turn_enumT a (s1.heap.objs.size + 1) s1.heap.objs.size (Nat.ne_of_lt lb) (Nat.ne_of_gt (Nat.lt_succ_of_lt lb)), ⟨⟨.none, he⟩, ⟨_, hit, rfl, rfl⟩, Nat.succ_ne_self _⟩, fun b hb => ?_, q⟩
    have e' : b = s1.heap.objs.size + 1 ∨ b = s1.heap.objs.size := by simpa using hb
    have hle : s1.heap.objs.size ≤ b := by
      rcases e' with z | z
      · rw [z]; exact Nat.le_succ _
      · rw [z]; exact Nat.le_refl _
    exact I1.fpOk hle (I1.hok.fresh hle)
theorem walk_enumT {a : Addr} {xs : List V} : Walk (IteT K a) xs.length (fun H => SqT K H a xs) (YPair (fun i => some (.int (i : Nat))) (fun i => xs[i]?)) where
  goes := fun i H hi q => ⟨xs, xs[i], q, List.getElem?_eq_getElem hi⟩
  stops := fun H q => ⟨xs, q, rfl⟩
  yields := fun i H v H2 hi q y => by
    obtain ⟨T, x, h1, h2, h3, h4⟩ := y
    exact ⟨T, .int (i : Nat), x, h1, h2, h3, rfl, h4 xs q⟩
end enumt
theorem all_get {N : Addr → Prop} {H : Hp} : ∀ {vs : List V} {ds : List PyData} {i : Nat} {x : V}, AnyAll N H vs ds → vs[i]? = some x → ∃ d, ds[i]? = some d ∧ AnyAt N H x d
  | _, _, _, _, .nil, e => by simp at e
  | _, _, 0, _, .cons h _, e => by
    simp only [List.getElem?_cons_zero, Option.some.injEq] at e
    subst e
    exact ⟨_, rfl, h⟩
  | _, _, i + 1, x, .cons _ t, e => by
    simp only [List.getElem?_cons_succ] at e ⊢
    exact all_get t e
theorem all_len {N : Addr → Prop} {H : Hp} : ∀ {vs : List V} {ds : List PyData}, AnyAll N H vs ds → vs.length = ds.length
  | _, _, .nil => rfl
  | _, _, .cons _ t => congrArg (· + 1) (all_len t)
theorem any_str {N : Addr → Prop} {H : Hp} {x : V} {t : Str} (h : AnyAt N H x (.str t)) : x = .str t := by cases h; rfl
theorem any_int {N : Addr → Prop} {H : Hp} {x : V} {i : Int} (h : AnyAt N H x (.int i)) : x = .int i := by cases h; rfl
theorem any_tup {N : Addr → Prop} {H : Hp} {x : V} {ds : List PyData} (h : AnyAt N H x (.tuple ds)) : ∃ a xs, x = .ref a ∧ ¬ N a ∧ H a = some (.tup xs) ∧ AnyAll N H xs ds := by
  cases h with
  | tup n e h => exact ⟨_, _, rfl, n, e, h⟩
def isTup : PyData → Bool
  | .tuple _ => true
  | _ => false
def isStrD : PyData → Bool
  | .str _ => true
  | _ => false
section isi
variable {N : Addr → Prop} {H : Hp} {x : V} {d : PyData} {Q : VK}
theorem isi_tup (hx : AnyAt N H x d) (q : Q (.bl (isTup d)) H) {σ : L2.St} : tCons (tC (V.ty "tuple")) tNil σ H (fun xs H2 => rIsi K (x :: xs) H2 Q) := ⟨x, .ty "tuple", tyD d, .type "tuple", isTup d, rfl, .ty "tuple", ty_any hx, by cases d <;> first | exact kit_ty (r := true) (by decide +kernel) | exact kit_ty (r := false) (by decide +kernel), q⟩
theorem isi_str (hx : AnyAt N H x d) (q : Q (.bl (isStrD d)) H) {σ : L2.St} : tCons (tC (V.ty "str")) tNil σ H (fun xs H2 => rIsi K (x :: xs) H2 Q) := ⟨x, .ty "str", tyD d, .type "str", isStrD d, rfl, .ty "str", ty_any hx, by cases d <;> first | exact kit_ty (r := true) (by decide +kernel) | exact kit_ty (r := false) (by decide +kernel), q⟩
end isi
def belowD (m : Int) : PyData → Bool
  | .int i => decide (0 ≤ i) && decide (i < m)
  | _ => false
def numsA (m : Int) (x : Str) (ns : List PyData) : Bool := fwL.any fun q => decide (q.1 = x) && (decide (q.2 = (ns.length : Int)) && ns.all (belowD m))
def deedA (m : Int) : PyData → Bool
  | .tuple (.str x :: ns) => numsA m x ns
  | _ => false
def deedsA (m : Int) (l : List PyData) : List Bool := l.mapIdx fun i d => deedA (m + (i : Nat)) d
def rowA : PyData → Bool
  | .tuple [.int m, .tuple ds, o] => decide (1 ≤ m ∧ m ≤ 3) && (decide (ds.length ≤ 8) && ((deedsA m ds).all id && belowD (m + ds.length) o))
  | _ => false
def KeysFw : List DictEntry → Prop
  | [] => True
  | e :: r => (∃ q ∈ fwL, ∃ t, e.key = .str q.1 t) ∧ KeysFw r
theorem KeysFw.all {l : List DictEntry} (h : KeysFw l) : ∀ e ∈ l, ∃ q ∈ fwL, ∃ t, e.key = .str q.1 t := by
  induction l with
  | nil => exact fun _ z => nomatch z
  | cons a r ih =>
    intro x hx
    rcases List.mem_cons.mp hx with rfl | hx
    · exact h.1
    · exact ih h.2 x hx
theorem ns_no {pl : Addr} {es : Array DictEntry} {n : Nat} (pa : K.lookup pl = some ⟨.type "dict", none, .dict es n, #[]⟩) (pe : KeysFw es.toList) {z : Str} (hz : ∀ q ∈ fwL, ¬ q.1 = z) : PySem.W.nsIn K pl z = some none := by
  unfold PySem.W.nsIn
  rw [pa]
  have h1 : es.toList.find? (·.key.isStr z) = none := List.find?_eq_none.mpr fun e he => by
    obtain ⟨q, hq, t, ek⟩ := pe.all e he
    rw [ek]
    show ¬ (q.1 == z) = true
    simpa using hz q hq
  have h2 : es.toList.any (·.refKey) = false := List.any_eq_false.mpr fun e he => by
    obtain ⟨q, hq, t, ek⟩ := pe.all e he
    unfold DictEntry.refKey
    rw [ek]
    simp
  show (match es.toList.find? (·.key.isStr z) with | some e => some (some e.val) | none => if es.toList.any (·.refKey) then none else some none) = some none
  rw [h1, h2]
  rfl
theorem fw_uniq : ∀ p ∈ fwL, ∀ q ∈ fwL, p.1 = q.1 → p.2 = q.2 := by decide +kernel
theorem numsA_at {m n : Int} {x : Str} {ns : List PyData} (h : (x, n) ∈ fwL) : numsA m x ns = (decide (n = (ns.length : Int)) && ns.all (belowD m)) := by
  unfold numsA
  cases e : (decide (n = (ns.length : Int)) && ns.all (belowD m)) with
  | true => exact List.any_eq_true.mpr ⟨_, h, by rw [decide_eq_true rfl, Bool.true_and]; exact e⟩
  | false =>
    refine List.any_eq_false.mpr fun q hq => ?_
    by_cases hx : q.1 = x
    · have := fw_uniq q hq _ h hx
      rw [decide_eq_true hx, Bool.true_and, this]
      show ¬ (decide (n = (ns.length : Int)) && ns.all (belowD m)) = true
      rw [e]
      exact Bool.false_ne_true
    · rw [decide_eq_false hx, Bool.false_and]
      exact Bool.false_ne_true
theorem numsA_no {m : Int} {x : Str} {ns : List PyData} (h : ∀ q ∈ fwL, ¬ q.1 = x) : numsA m x ns = false := List.any_eq_false.mpr fun q hq => by
  rw [decide_eq_false (h q hq), Bool.false_and]
  exact Bool.false_ne_true
/-- no tuple within is long -/
structure PlOk (K : PySem.W.Frag) (w : World) (pl : Addr) (es : Array DictEntry) (n : Nat) : Prop where
  d : KDict K w pl es n
  at_ : ∀ p ∈ fwL, ∃ t, PySem.W.nsIn K pl p.1 = some (some (.int p.2 t))
  ks : KeysFw es.toList
def spNb : Sp := fun vs H Q _ => ∃ (N : Addr → Prop) (x : V) (d : PyData) (m : Int), vs = [x, .int m] ∧ AnyAt N H x d ∧ Q (.bl (belowD m d)) H
theorem ok_nb {f fW : Addr} {fd fdW : FuncData} {k : Nat} (F : Fun K "is_number_below" "is_number_below" s_is_number_below f fd) (GW : FnOk P w K mg base CX0 (k + 1) fW fdW ["thing"] spWhA) (kW : PySem.W.keepIn K (.ref fW) = true) (bW : Binds K fdW ["thing"] []) (gW : mg "is_whole" = some (.ref fW)) :
    FnOk P w K mg base CX0 (k + 2) f fd ["thing", "many"] spNb := by
  refine F.ok sc_is_number_below (fun vs H Q E h => ?_) (fun cdv A outer s H vs Q E hr h => ?_)
  · obtain ⟨N, x, d, m, rfl, _⟩ := h
    rfl
  · obtain ⟨N, x, d, m, rfl, hx, q⟩ := h
    refine ⟨_, pss_one (ps_ret (pe_and (pe_call GW hr (by rfl) gW kW bW .nil pass0 (pa_cons (pv 0) pa_nil)) (pe_one (pe_chain op_le op_lt pe_int (pv 0) (pv 1))))), ?_⟩
    refine ⟨x, rfl, N, x, d, rfl, hx, isInt d, rfl, ?_⟩
    cases hi : isInt d with
    | false =>
      have e : belowD m d = false := by
        cases d <;> first | rfl | exact Bool.noConfusion hi
      rw [e] at q
      exact iteF q
    | true =>
      obtain ⟨i, rfl⟩ : ∃ i, d = .int i := by
        cases d <;> first | exact ⟨_, rfl⟩ | exact Bool.noConfusion hi
      obtain rfl := any_int hx
      refine iteT ?_
      have q' : Q (.bl (decide (0 ≤ i) && decide (i < m))) H := q
      refine ⟨.int i, rfl, 0, i, rfl, rfl, _, rfl, ite2 (fun h0 => ?_) (fun h0 => ?_)⟩
      · rw [h0, Bool.true_and] at q'
        exact ⟨.int m, rfl, i, m, rfl, rfl, q'⟩
      · have h0' : decide (0 ≤ i) = false := by simpa using h0
        rw [h0', Bool.false_and] at q'
        exact q'
def spDe : Sp := fun vs H Q _ => ∃ (N : Addr → Prop) (x : V) (d : PyData) (m : Int) (b k : Nat), vs = [x, .int m] ∧ AnyAt N H x d ∧ NcB b k d ∧ b ≤ 30000 ∧ ∀ H', Same H H' → Q (.bl (deedA m d)) H'
theorem bulk_len : ∀ (xs : List PyData), xs.length ≤ PyData.bulkAll xs
  | [] => Nat.zero_le _
  | x :: xs => by
    have := bulk_len xs
    simp only [PyData.bulkAll, List.length_cons]
    omega
theorem tup_len {b k : Nat} {xs : List PyData} (h : NcB b k (.tuple xs)) : xs.length ≤ b := by
  have h1 := h.bk
  simp only [PyData.bulk] at h1
  exact Nat.le_trans (bulk_len xs) h1
theorem ok_de {f fN pl : Addr} {es : Array DictEntry} {n : Nat} {fd fdN : FuncData} {k : Nat} (F : Fun K "is_deed" "is_deed" s_is_deed f fd) (GN : FnOk P w K mg base CX0 (k + 2) fN fdN ["thing", "many"] spNb) (kN : PySem.W.keepIn K (.ref fN) = true) (bN : Binds K fdN ["thing", "many"] []) (gN : mg "is_number_below" = some (.ref fN))
    (D : PlOk K w pl es n) (gP : mg "PLACES" = some (.ref pl)) (mi : mg "isinstance" = none) (mt : mg "tuple" = none) (mS : mg "str" = none) (mn : mg "len" = none) (ma : mg "all" = none) : FnOk P w K mg base CX0 (k + 3) f fd ["thing", "ahead"] spDe := by
  refine F.ok sc_is_deed (fun vs H Q E h => ?_) (fun cdv A outer s H vs Q E hr h => ?_)
  · obtain ⟨N, x, d, m, b, k, rfl, _⟩ := h
    rfl
  · obtain ⟨N, x, d, m, b, k, rfl, hx, nc, hb, q⟩ := h
    refine ⟨_, pss_cons (ps_if (PW.pt (pw_or (pt_not (pt_val (pe_callB call_isi (by rfl) mi (by decide +kernel) (pa_cons (pv 0) (pa_cons (pe_bltn (v := .ty "tuple") (by rfl) mt (by decide +kernel) rfl) pa_nil))))) (pw_or1 (pt_cmpR op_eq (pe_callB call_len_seq (by rfl) mn PySem.boot_len (pa_cons (pv 0) pa_nil)) pe_int (nomark _))))) (pss_one (ps_ret pe_bl)) pss_nil)
      (pss_cons (ps_set (i := 2) sc_is_deed.nd rfl (.inl rfl) (pe_ix ix_tup (pv 0) pe_int (fun _ _ => rfl)))
      (pss_cons (ps_if (PW.pt (pw_or (pt_not (pt_val (pe_callB call_isi (by rfl) mi (by decide +kernel) (pa_cons (pv 2) (pa_cons (pe_bltn (v := .ty "str") (by rfl) mS (by decide +kernel) rfl) pa_nil))))) (pw_or1 (pt_cmpR (op_notIn_kd D.d) (pv 2) (pe_glob (v := .ref pl) (by rfl) gP rfl) (by rfl))))) (pss_one (ps_ret pe_bl)) pss_nil)
      (pss_cons (ps_set (i := 3) sc_is_deed.nd rfl (.inl rfl) (pe_slice sl_tup (pv 0) (po_some pe_int) po_none))
      (pss_one (ps_ret (pe_and (pe_cmpR op_eq (pe_callB call_len_seq (by rfl) mn PySem.boot_len (pa_cons (pv 3) pa_nil)) (pe_ix ix_kdict (pe_glob (v := .ref pl) (by rfl) gP rfl) (pv 2) (fun _ _ => rfl)) (nomark _))
        (pe_one (pe_callB (cr_all rfl) (by rfl) ma (by decide +kernel) (pa_cons
          (pe_lc (own := [("number", 4)]) (g := gName 4) (by rfl) sc_is_deed.nd (pi_tup (pv 3)) (blkOk_by (own := [("number", 4)]) (N := N_is_deed) (sc := defScope s_is_deed) (by decide +kernel))
            (fun _ _ _ _ _ => pg_name (i := 4) sc_is_deed.nd rfl (Or.inl rfl)) (fun _ _ _ _ _ => pts_nil)
            (fun _ _ _ _ _ => pe_call GN hr (by rfl) gN kN bN .nil pass0 (pa_cons (pv 4) (pa_cons (pv 1) pa_nil)))) pa_nil))))))))), ?_⟩
    refine ⟨x, rfl, isi_tup hx ⟨_, rfl, ?_⟩⟩
    cases hi : isTup d with
    | false =>
      have e : deedA m d = false := by
        cases d <;> first | rfl | exact Bool.noConfusion hi
      rw [e] at q
      exact q H (Same.refl H)
    | true =>
    obtain ⟨ds, rfl⟩ : ∃ ds, d = .tuple ds := by
      cases d <;> first | exact ⟨_, rfl⟩ | exact Bool.noConfusion hi
    obtain ⟨r, xs, rfl, nr, er, hs⟩ := any_tup hx
    have hlen := tup_len nc
    refine ⟨.ref r, rfl, r, _, rfl, .inr (SqT.of er), ⟨rfl, _, rfl, ite2 (fun e => ?_) (fun e => ?_)⟩⟩
    · have e2 := intEq e
      have e3 : xs = [] := List.length_eq_zero_iff.mp (by omega)
      subst e3
      cases hs
      exact q H (Same.refl H)
    cases hs with
    | nil => exact absurd (decide_eq_true rfl) e
    | @cons x0 xr d0 dr h0 ht =>
    have lr := all_len ht
    refine ⟨.ref r, rfl, r, _, 0, x0, rfl, rfl, SqT.of er, atI_nat (j := 0) rfl, ?_⟩
    refine ⟨x0, rfl, isi_str h0 ⟨_, rfl, ?_⟩⟩
    cases hj : isStrD d0 with
    | false =>
      have e : deedA m (.tuple (d0 :: dr)) = false := by
        cases d0 <;> first | rfl | exact Bool.noConfusion hj
      rw [e] at q
      exact q H (Same.refl H)
    | true =>
    obtain ⟨t0, rfl⟩ : ∃ t0, d0 = .str t0 := by
      cases d0 <;> first | exact ⟨_, rfl⟩ | exact Bool.noConfusion hj
    obtain rfl := any_str h0
    have q : ∀ H', Same H H' → Q (.bl (numsA m t0 dr)) H' := q
    by_cases hw : ∃ c, (t0, c) ∈ fwL
    · obtain ⟨c, hc⟩ := hw
      rw [numsA_at hc] at q
      obtain ⟨t, ht2⟩ := D.at_ _ hc
      refine ⟨.str t0, rfl, t0, _, rfl, rfl, ht2, false, rfl, ?_⟩
      refine ⟨.ref r, rfl, 1, rfl, r, _, rfl, SqT.of er, notWhole _ _, fun T hT => ?_⟩
      rw [show cutV (V.str t0 :: xr) (some 1) none = xr from cutTail _ _]
      have sT := same_new (o := .tup xr) hT
      refine ⟨.ref T, rfl, T, _, rfl, .inr (SqT.of upd_same), .str t0, rfl, pl, t0, .int c, rfl, rfl, ⟨es, n, _, D.d.at_, D.d.lit, ht2, ⟨t, rfl⟩⟩, ⟨rfl, _, rfl, ite2 (fun he => ?_) (fun he => ?_)⟩⟩
      · have e3 := intEq he
        rw [lr] at e3
        rw [decide_eq_true e3.symm, Bool.true_and] at q
        refine ⟨.ref T, rfl, T, rfl, ⟨_, SqT.of upd_same⟩, fun C hC => ?_⟩
        have sC : ∀ o, Same (upd H T (.tup xr)) (upd (upd H T (.tup xr)) C o) := fun o => same_new hC
        refine lc_tup (K := K) (a := T) (xs := xr) (fun j H4 => H4 = upd (upd H T (.tup xr)) C (.lst (((dr.take j).map (belowD m)).map V.bl))) rfl (fun j H4 _ h4 => ?_) (fun j x H4 hx4 h4 => ?_) (fun H4 h4 => ?_)
        · rw [h4]
          exact SqT.of (sC _ _ _ upd_same)
        · subst h4
          have hj4 := (List.getElem?_eq_some_iff.mp hx4).1
          obtain ⟨z, hz, az⟩ := all_get ht hx4
          refine ⟨rfl, x, rfl, .int m, rfl, N, x, z, m, rfl, any_same (sT.trans (sC _)) az, _, upd_same, ?_, ?_⟩
          · rw [List.length_map, List.length_map, List.length_take, sizeLine_eq]
            simp only [List.length_cons] at hlen
            omega
          · rw [upd_upd, List.take_add_one, hz]
            simp
        · have eC : H4 C = some (.lst ((dr.map (belowD m)).map V.bl)) := by rw [h4, upd_same, lr, List.take_length]
          have s4 : Same (upd H T (.tup xr)) H4 := by rw [h4]; exact sC _
          refine ⟨C, _, rfl, .inl (.inl eC), ?_⟩
          have ea : (dr.map (belowD m)).all id = dr.all (belowD m) := by rw [List.all_map]; rfl
          rw [ea]
          exact q H4 (sT.trans s4)
      · have e3 := intNe he
        rw [lr] at e3
        rw [decide_eq_false (fun z => e3 z.symm), Bool.false_and] at q
        exact q _ sT
    · have hno : ∀ q ∈ fwL, ¬ q.1 = t0 := fun q' hq e => hw ⟨q'.2, by rw [← e]; exact hq⟩
      rw [numsA_no hno] at q
      refine ⟨.str t0, rfl, t0, _, rfl, rfl, ns_no D.d.at_ D.ks hno, true, rfl, ?_⟩
      exact q H (Same.refl H)
theorem ncl_mem {b k : Nat} : ∀ {xs : List PyData}, PyData.showableAll xs = true → PyData.leavesShortAll 62 xs = true → PyData.bulkAll xs ≤ b → PyData.depthAll xs ≤ k → ∀ x ∈ xs, NcB b k x
  | [], _, _, _, _, x, h => by cases h
  | y :: ys, h1, h2, h3, h4, x, h => by
    simp only [PyData.showableAll, Bool.and_eq_true] at h1
    simp only [PyData.leavesShortAll, Bool.and_eq_true] at h2
    simp only [PyData.bulkAll] at h3
    simp only [PyData.depthAll] at h4
    rcases List.mem_cons.mp h with rfl | h
    · exact ⟨h1.1, h2.1, by omega, by omega⟩
    · exact ncl_mem h1.2 h2.2 (by omega) (by omega) x h
theorem ncb_in {b k : Nat} {xs : List PyData} (h : NcB b k (.tuple xs)) : ∀ x ∈ xs, NcB b k x := by
  obtain ⟨h1, h2, h3, h4⟩ := h
  simp only [PyData.showable] at h1
  simp only [PyData.leavesShort] at h2
  simp only [PyData.bulk] at h3
  simp only [PyData.depth] at h4
  exact ncl_mem h1 h2 h3 (by omega)
def spAd : Sp := fun vs H Q _ => ∃ (N : Addr → Prop) (x : V) (d : PyData) (m : Int) (b k : Nat), vs = [x, .int m] ∧ AnyAt N H x d ∧ NcB b k d ∧ b ≤ 30000 ∧ ∀ H', Same H H' → Q (.bl (match d with | .tuple ds => decide (ds.length ≤ 8) && (deedsA m ds).all id | _ => false)) H'
theorem ok_ad {f fE : Addr} {t : Tok} {fd fdE : FuncData} {k : Nat} (F : Fun K "are_deeds" "are_deeds" s_are_deeds f fd) (GE : FnOk P w K mg base CX0 (k + 3) fE fdE ["thing", "ahead"] spDe) (kE : PySem.W.keepIn K (.ref fE) = true) (bE : Binds K fdE ["thing", "ahead"] []) (gE : mg "is_deed" = some (.ref fE))
    (gM : mg "MOST_DEEDS" = some (.int 8 t)) (mi : mg "isinstance" = none) (mt : mg "tuple" = none) (mn : mg "len" = none) (ma : mg "all" = none) (me : mg "enumerate" = none) : FnOk P w K mg base CX0 (k + 4) f fd ["thing", "many"] spAd := by
  refine F.ok sc_are_deeds (fun vs H Q E h => ?_) (fun cdv A outer s H vs Q E hr h => ?_)
  · obtain ⟨N, x, d, m, b, k, rfl, _⟩ := h
    rfl
  · obtain ⟨N, x, d, m, b, kk, rfl, hx, nc, hb, q⟩ := h
    refine ⟨_, pss_cons (ps_if (PW.pt (pw_or (pt_not (pt_val (pe_callB call_isi (by rfl) mi (by decide +kernel) (pa_cons (pv 0) (pa_cons (pe_bltn (v := .ty "tuple") (by rfl) mt (by decide +kernel) rfl) pa_nil))))) (pw_or1 (pt_cmpR op_gt (pe_callB call_len_seq (by rfl) mn PySem.boot_len (pa_cons (pv 0) pa_nil)) (pe_glob (v := .int 8) (by rfl) gM ⟨t, rfl⟩) (nomark _))))) (pss_one (ps_ret pe_bl)) pss_nil)
      (pss_one (ps_ret (pe_callB (cr_all rfl) (by rfl) ma (by decide +kernel) (pa_cons
        (pe_lc (own := [("at", 2), ("deed", 3)]) (g := gTup K 2 (gCons (gName 2) (gCons (gName 3) gNil))) (by rfl) sc_are_deeds.nd (pi_enumT (by rfl) me (pa_cons (pv 0) pa_nil)) (blkOk_by (own := [("at", 2), ("deed", 3)]) (N := N_are_deeds) (sc := defScope s_are_deeds) (by decide +kernel))
          (fun _ _ _ _ _ => pg_tup rfl (pgs_cons (pg_name (i := 2) sc_are_deeds.nd rfl (.inl rfl)) (pgs_cons (pg_name (i := 3) sc_are_deeds.nd rfl (.inl rfl)) pgs_nil))) (fun _ _ _ _ _ => pts_nil)
          (fun _ _ _ _ _ => pe_call GE hr (by rfl) gE kE bE .nil pass0 (pa_cons (pv 3) (pa_cons (pe_op op_add (pv 1) (pv 2)) pa_nil)))) pa_nil)))), ?_⟩
    refine ⟨x, rfl, isi_tup hx ⟨_, rfl, ?_⟩⟩
    cases hi : isTup d with
    | false =>
      cases d <;> first | exact q H (Same.refl H) | exact Bool.noConfusion hi
    | true =>
    obtain ⟨ds, rfl⟩ : ∃ ds, d = .tuple ds := by
      cases d <;> first | exact ⟨_, rfl⟩ | exact Bool.noConfusion hi
    obtain ⟨D, xs, rfl, nD, eD, hs⟩ := any_tup hx
    have q : ∀ H', Same H H' → Q (.bl (decide (ds.length ≤ 8) && (deedsA m ds).all id)) H' := q
    have lr := all_len hs
    refine ⟨.ref D, rfl, D, _, rfl, .inr (SqT.of eD), _, 8, rfl, rfl, _, rfl, ite2 (fun e => ?_) (fun e => ?_)⟩
    · have e2 := of_decide_eq_true e
      rw [lr] at e2
      rw [decide_eq_false (by omega), Bool.false_and] at q
      exact q H (Same.refl H)
    have h8 : ds.length ≤ 8 := by
      by_cases h : ds.length ≤ 8
      · exact h
      · exact absurd (decide_eq_true (by rw [lr]; omega)) e
    rw [decide_eq_true h8, Bool.true_and] at q
    refine ⟨.ref D, rfl, D, _, rfl, SqT.of eD, fun C hC => ?_⟩
    refine lc_it (walk_enumT (K := K) (a := D) (xs := xs)) (fun j H4 => H4 C = some (.lst ((deedsA m (ds.take j)).map V.bl)) ∧ Same H H4) ⟨upd_same, same_new hC⟩ (fun j H4 _ h4 => SqT.of (h4.2 _ _ eD)) (fun j x H4 H5 hj h4 hx => ?_) (fun H4 h4 => ?_)
    · obtain ⟨eC, s4⟩ := h4
      obtain ⟨U, x1, x2, rfl, hU, rfl, g1, g2⟩ := hx
      obtain rfl : x1 = .int (j : Nat) := (Option.some.inj g1).symm
      have g2 : xs[j]? = some x2 := g2
      obtain ⟨p, hd1, hd2⟩ := all_get hs g2
      have hj3 : j < ds.length := (List.getElem?_eq_some_iff.mp hd1).1
      have sU := same_new (o := .tup [.int (j : Nat), x2]) hU
      refine ⟨U, [.int (j : Nat), x2], rfl, .inl (.inl upd_same), rfl, .int (j : Nat), [x2], rfl, x2, [], rfl, rfl, rfl, x2, rfl, .int m, rfl, .int (j : Nat), rfl, m, (j : Nat), rfl, rfl, N, x2, p, m + (j : Nat), b, kk, rfl, any_same (s4.trans sU) hd2, ncb_in nc p (List.mem_of_getElem? hd1), hb, fun H6 s6 => ⟨_, s6 _ _ (sU _ _ eC), ?_, ?_, fun b u z => ?_⟩⟩
      · unfold deedsA
        rw [List.length_map, List.length_mapIdx, List.length_take]
        exact small1000 (by omega)
      · rw [upd_same, List.take_add_one, hd1]
        unfold deedsA
        rw [List.mapIdx_append, List.map_append, List.length_take, Nat.min_eq_left (by omega)]
        simp
      · rw [upd_ne (ne_of_none z hC)]
        exact s6 _ _ (sU _ _ (s4 b u z))
    · obtain ⟨eC, s4⟩ := h4
      rw [lr, List.take_length] at eC
      exact ⟨C, _, rfl, .inl (.inl eC), q H4 s4⟩
def spIr : Sp := fun vs H Q _ => ∃ (N : Addr → Prop) (x : V) (d : PyData) (b k : Nat), vs = [x] ∧ AnyAt N H x d ∧ NcB b k d ∧ b ≤ 30000 ∧ ∀ H', Same H H' → Q (.bl (rowA d)) H'
theorem ok_ir {f fW fA fN : Addr} {t : Tok} {fd fdW fdA fdN : FuncData} {k : Nat} (F : Fun K "is_row" "is_row" s_is_row f fd) (GW : FnOk P w K mg base CX0 (k + 1) fW fdW ["thing"] spWhA) (kW : PySem.W.keepIn K (.ref fW) = true) (bW : Binds K fdW ["thing"] []) (gW : mg "is_whole" = some (.ref fW))
    (GA : FnOk P w K mg base CX0 (k + 4) fA fdA ["thing", "many"] spAd) (kA : PySem.W.keepIn K (.ref fA) = true) (bA : Binds K fdA ["thing", "many"] []) (gA : mg "are_deeds" = some (.ref fA))
    (GN : FnOk P w K mg base CX0 (k + 2) fN fdN ["thing", "many"] spNb) (kN : PySem.W.keepIn K (.ref fN) = true) (bN : Binds K fdN ["thing", "many"] []) (gN : mg "is_number_below" = some (.ref fN))
    (gM : mg "MOST_INPUTS" = some (.int 3 t)) (mi : mg "isinstance" = none) (mt : mg "tuple" = none) (mn : mg "len" = none) : FnOk P w K mg base CX0 (k + 5) f fd ["thing"] spIr := by
  refine F.ok sc_is_row (fun vs H Q E h => ?_) (fun cdv A outer s H vs Q E hr h => ?_)
  · obtain ⟨N, x, d, b, k, rfl, _⟩ := h
    rfl
  · obtain ⟨N, x, d, b, kk, rfl, hx, nc, hb, q⟩ := h
    have r1 := hr.mono (show k + 1 ≤ k + 4 by omega)
    have r2 := hr.mono (show k + 2 ≤ k + 4 by omega)
    refine ⟨_, pss_cons (ps_if (PW.pt (pw_or (pt_not (pt_val (pe_callB call_isi (by rfl) mi (by decide +kernel) (pa_cons (pv 0) (pa_cons (pe_bltn (v := .ty "tuple") (by rfl) mt (by decide +kernel) rfl) pa_nil))))) (pw_or1 (pt_cmpR op_ne (pe_callB call_len_seq (by rfl) mn PySem.boot_len (pa_cons (pv 0) pa_nil)) pe_int (nomark _))))) (pss_one (ps_ret pe_bl)) pss_nil)
      (pss_cons (ps_asg (pv 0) (pg_tup rfl (pgs_cons (pg_name (i := 1) sc_is_row.nd rfl (.inl rfl)) (pgs_cons (pg_name (i := 2) sc_is_row.nd rfl (.inl rfl)) (pgs_cons (pg_name (i := 3) sc_is_row.nd rfl (.inl rfl)) pgs_nil)))))
      (pss_cons (ps_if (PW.pt (pw_or (pt_not (pt_val (pe_call GW r1 (by rfl) gW kW bW .nil pass0 (pa_cons (pv 1) pa_nil)))) (pw_or1 (pt_not (pt_chain op_le op_le pe_int (pv 1) (pe_glob (v := .int 3) (by rfl) gM ⟨t, rfl⟩)))))) (pss_one (ps_ret pe_bl)) pss_nil)
      (pss_one (ps_ret (pe_and (pe_call GA hr (by rfl) gA kA bA .nil pass0 (pa_cons (pv 2) (pa_cons (pv 1) pa_nil))) (pe_one (pe_call GN r2 (by rfl) gN kN bN .nil pass0 (pa_cons (pv 3) (pa_cons (pe_op op_add (pv 1) (pe_callB call_len_seq (by rfl) mn PySem.boot_len (pa_cons (pv 2) pa_nil))) pa_nil))))))))), ?_⟩
    refine ⟨x, rfl, isi_tup hx ⟨_, rfl, ?_⟩⟩
    cases hi : isTup d with
    | false =>
      cases d <;> first | exact q H (Same.refl H) | exact Bool.noConfusion hi
    | true =>
    obtain ⟨ds, rfl⟩ : ∃ ds, d = .tuple ds := by
      cases d <;> first | exact ⟨_, rfl⟩ | exact Bool.noConfusion hi
    obtain ⟨R, xs, rfl, nR, eR, hs⟩ := any_tup hx
    have lr := all_len hs
    refine ⟨.ref R, rfl, R, _, rfl, .inr (SqT.of eR), ⟨rfl, _, rfl, ite2 (fun e => ?_) (fun e => ?_)⟩⟩
    · have e3 : ¬ ds.length = 3 := by
        intro z
        rw [lr, z] at e
        exact absurd e (by decide)
      have : rowA (.tuple ds) = false := by
        match ds, e3 with
        | [], _ => rfl
        | [x], _ => cases x <;> rfl
        | [x, y], _ => cases x <;> first | rfl | (cases y <;> rfl)
        | [_, _, _], e => exact absurd rfl e
        | x :: y :: _ :: _ :: _, _ => cases x <;> first | rfl | (cases y <;> rfl)
      rw [this] at q
      exact q H (Same.refl H)
    have e3 : ds.length = 3 := by
      by_cases z : ds.length = 3
      · exact z
      · exfalso
        apply e
        rw [lr]
        simp only [ne_eq, decide_not, Bool.not_eq_true', decide_eq_false_iff_not, V.int.injEq]
        omega
    match ds, e3, xs, hs with
    | [d1, d2, d3], _, [x1, x2, x3], .cons h1 (.cons h2 (.cons h3 .nil)) => ?_
    refine ⟨.ref R, rfl, R, _, rfl, SqT.of eR, rfl, _, _, rfl, _, _, rfl, _, _, rfl, rfl, ?_⟩
    refine ⟨x1, rfl, N, x1, d1, rfl, h1, isInt d1, rfl, ?_⟩
    cases hi : isInt d1 with
    | false =>
      have : rowA (.tuple [d1, d2, d3]) = false := by
        cases d1 <;> first | rfl | exact Bool.noConfusion hi
      rw [this] at q
      exact q H (Same.refl H)
    | true =>
    obtain ⟨m, rfl⟩ : ∃ m, d1 = .int m := by
      cases d1 <;> first | exact ⟨_, rfl⟩ | exact Bool.noConfusion hi
    obtain rfl := any_int h1
    have no13 : ¬ (1 ≤ m ∧ m ≤ 3) → ∀ H', Same H H' → Q (.bl false) H' := fun hn H' s' => by
      have q2 := q H' s'
      have : rowA (.tuple [.int m, d2, d3]) = false := by
        cases d2 <;> first | rfl | (show (decide (1 ≤ m ∧ m ≤ 3) && _) = false; rw [decide_eq_false hn, Bool.false_and])
      rw [this] at q2
      exact q2
    refine ⟨.int m, rfl, 1, m, rfl, rfl, _, rfl, ?_⟩
    by_cases g1 : 1 ≤ m
    · rw [decide_eq_true g1]
      refine ⟨m, 3, rfl, rfl, _, rfl, ?_⟩
      by_cases g3 : m ≤ 3
      · rw [decide_eq_true g3]
        refine ⟨x2, rfl, .int m, rfl, N, x2, d2, m, b, kk, rfl, h2, ncb_in nc d2 (by simp), hb, fun H2 s2 => ⟨_, rfl, ?_⟩⟩
        have q2 := q H2 s2
        cases hj : isTup d2 with
        | false =>
          have e1 : rowA (.tuple [.int m, d2, d3]) = false := by
            cases d2 <;> first | rfl | exact Bool.noConfusion hj
          rw [e1] at q2
          cases d2 <;> first | exact q2 | exact Bool.noConfusion hj
        | true =>
        obtain ⟨es, rfl⟩ : ∃ es, d2 = .tuple es := by
          cases d2 <;> first | exact ⟨_, rfl⟩ | exact Bool.noConfusion hj
        obtain ⟨D, ys, rfl, nD, eD, hys⟩ := any_tup h2
        have q2 : Q (.bl (decide (1 ≤ m ∧ m ≤ 3) && (decide (es.length ≤ 8) && ((deedsA m es).all id && belowD (m + es.length) d3)))) H2 := q2
        rw [decide_eq_true ⟨g1, g3⟩, Bool.true_and, ← Bool.and_assoc] at q2
        refine ite2 (fun hb => ?_) (fun hb => ?_)
        · have hb : (decide (es.length ≤ 8) && (deedsA m es).all id) = true := hb
          rw [hb, Bool.true_and] at q2
          refine ⟨x3, rfl, .int m, rfl, .ref D, rfl, D, _, rfl, .inr (SqT.of (s2 _ _ eD)), m, _, rfl, rfl, N, x3, d3, m + ((ys.length : Nat) : Int), rfl, any_same s2 h3, ?_⟩
          rw [all_len hys]
          exact q2
        · have hb' : (decide (es.length ≤ 8) && (deedsA m es).all id) = false := by simpa using hb
          rw [hb', Bool.false_and] at q2
          exact q2
      · rw [decide_eq_false g3]
        exact no13 (fun z => g3 z.2) H (Same.refl H)
    · rw [decide_eq_false g1]
      exact ⟨false, rfl, no13 (fun z => g1 z.1) H (Same.refl H)⟩
mutual
inductive NkAt (H : Hp) : NestedKey → V → Prop
  | num (i : Int) : NkAt H (.num i) (.int i)
  | str (x : Str) : NkAt H (.text x) (.str x)
  | tup {a : Addr} {xs : List V} {ks : List NestedKey} : H a = some (.tup xs) → NkAll H ks xs → NkAt H (.tup ks) (.ref a)
inductive NkAll (H : Hp) : List NestedKey → List V → Prop
  | nil : NkAll H [] []
  | cons {k : NestedKey} {v : V} {ks : List NestedKey} {vs : List V} : NkAt H k v → NkAll H ks vs → NkAll H (k :: ks) (v :: vs)
end
section nds
variable {X : Cx}
mutual
theorem nk_is {pins : List (Addr × Obj)} {σ : L2.St} {H : Hp} {s : Shared} (I : Inv X pins σ H s) : ∀ (k : NestedKey) (v : V) (u : Value), NkAt H k v → RelV v u → NestedIs s.heap k u
  | .none, _, _, h, _ => nomatch h
  | .text x, _, _, h, r => by
    cases h
    obtain ⟨t, rfl⟩ := r
    exact .text _ _
  | .num i, _, _, h, r => by
    cases h
    obtain ⟨t, rfl⟩ := r
    exact .int _ _
  | .tup ks, _, _, h, r => by
    cases h with
    | tup e hs =>
      cases r
      obtain ⟨_, its, rv, o, ho, hc, n, hd⟩ := I.hok _ _ e
      exact .tup ho hc hd (by simpa using nks_is I ks _ _ hs rv)
theorem nks_is {pins : List (Addr × Obj)} {σ : L2.St} {H : Hp} {s : Shared} (I : Inv X pins σ H s) : ∀ (ks : List NestedKey) (vs : List V) (us : List Value), NkAll H ks vs → Vals vs us → NestedAll s.heap ks us
  | [], _, _, h, r => by
    cases h
    cases r
    exact .nil
  | k :: ks, _, _, h, r => by
    cases h with
    | cons h1 h2 =>
      cases r with
      | cons r1 r2 => exact .cons (nk_is I k _ _ h1 r1) (nks_is I ks _ _ h2 r2)
end
mutual
theorem nk_stay {H H' : Hp} (t : TupsStay H H') : ∀ (k : NestedKey) (v : V), NkAt H k v → NkAt H' k v
  | .none, _, h => nomatch h
  | .text x, _, h => by
    cases h
    exact .str x
  | .num i, _, h => by
    cases h
    exact .num i
  | .tup ks, _, h => by
    cases h with
    | tup e hs => exact .tup (t _ _ e) (nks_stay t ks _ hs)
theorem nks_stay {H H' : Hp} (t : TupsStay H H') : ∀ (ks : List NestedKey) (vs : List V), NkAll H ks vs → NkAll H' ks vs
  | [], _, h => by
    cases h
    exact .nil
  | k :: ks, _, h => by
    cases h with
    | cons h1 h2 => exact .cons (nk_stay t k _ h1) (nks_stay t ks _ h2)
end
abbrev NE := NestedKey × Addr × V
abbrev NRel : List NE → List (NestedKey × Addr × Value) → Prop := Paired fun p q => p.1 = q.1 ∧ p.2.1 = q.2.1 ∧ RelV p.2.2 q.2.2
def NDO (P : Program) (w : World) (a : Addr) (xs : List NE) : HO := .ext fun h => xs.length ≤ sizeLine ∧ (a == sysModules) = false ∧ ∃ ys, NRel xs ys ∧ ∃ o es ep, h.get? a = some o ∧ o.ExactDict ∧ o.data = .dict es ep ∧ es.toList = ys.map (entryOfKey (nestedKind P w)) ∧ (ys.map (·.1)).Nodup
theorem ndo_ok {P : Program} {w : World} {H : Hp} {h : Heap} {a : Addr} {xs : List NE} {ys : List (NestedKey × Addr × Value)} (hz : xs.length ≤ sizeLine) (hd : (a == sysModules) = false) (r : NRel xs ys) (dd : h.DictOfH (nestedKind P w) a ys) : ObjOk P w H h a (NDO P w a xs) := by
  obtain ⟨o, es, ep, h1, h2, h3, h4, _, h5⟩ := dd
  refine ⟨⟨hz, hd, ys, r, o, es, ep, h1, h2, h3, h4, h5⟩, ⟨o, h1⟩, ?_⟩
  rintro g1 g2 ⟨z1, z2, ys, z3, o, es, ep, z4, z5⟩ k
  exact ⟨z1, z2, ys, z3, o, es, ep, k o z4, z5⟩
structure ND (P : Program) (w : World) (H : Hp) (a : Addr) (xs : List NE) : Prop where
  ob : H a = some (NDO P w a xs)
  ks : ∀ p ∈ xs, NkAt H p.1 (.ref p.2.1) ∧ p.1.depth ≤ 8
theorem ND.full {pins : List (Addr × Obj)} {σ : L2.St} {H : Hp} {s : Shared} {a : Addr} {xs : List NE} (I : Inv X pins σ H s) (h : ND X.prog X.w H a xs) : xs.length ≤ sizeLine ∧ (a == sysModules) = false ∧ ∃ ys, NRel xs ys ∧ s.heap.DictOfH (nestedKind X.prog X.w) a ys := by
  obtain ⟨⟨z1, z2, ys, z3, o, es, ep, z4, z5, z6, z7, z8⟩, _⟩ := I.hok a _ h.ob
  refine ⟨z1, z2, ys, z3, o, es, ep, z4, z5, z6, z7, fun y hy => ?_, z8⟩
  obtain ⟨i, hi⟩ := List.mem_iff_getElem?.mp hy
  obtain ⟨p, hp, e1, e2, _⟩ := awGet2 z3 hi
  obtain ⟨k1, k2⟩ := h.ks p (List.mem_of_getElem? hp)
  rw [e1, e2] at k1
  rw [e1] at k2
  exact ⟨nk_is I _ _ _ k1 rfl, k2⟩
def getN (xs : List NE) (k : NestedKey) : Option V := (xs.find? fun x => decide (x.1 = k)).map (·.2.2)
theorem getN_rel {k : NestedKey} : ∀ {xs : List NE} {ys : List (NestedKey × Addr × Value)}, NRel xs ys → RelO (getN xs k) ((atKey ys k).map (·.2))
  | _, _, .nil => trivial
  | x :: _, y :: _, .cons ⟨e1, _, e3⟩ t => by
    have ih := getN_rel (k := k) t
    unfold getN atKey at *
    rw [List.find?_cons, List.find?_cons, ← e1]
    by_cases h : x.1 = k
    · rw [decide_eq_true h]
      exact e3
    · rw [decide_eq_false h]
      exact ih
theorem getN_none {k : NestedKey} {xs : List NE} : getN xs k = none ↔ ∀ p ∈ xs, p.1 ≠ k := by
  unfold getN
  rw [Option.map_eq_none_iff, List.find?_eq_none]
  simp
theorem getN_some {k : NestedKey} {xs : List NE} {v : V} (h : getN xs k = some v) : ∃ b, (k, b, v) ∈ xs := by
  unfold getN at h
  cases e : xs.find? fun x => decide (x.1 = k) with
  | none => rw [e] at h; cases h
  | some p =>
    rw [e] at h
    have h2 : p.1 = k := of_decide_eq_true (List.find?_some (p := fun x : NE => decide (x.1 = k)) e)
    obtain rfl : p.2.2 = v := Option.some.inj h
    exact ⟨p.2.1, h2 ▸ List.mem_of_find?_eq_some e⟩
theorem getN_snoc {k j : NestedKey} {b : Addr} {v : V} {xs : List NE} (hn : getN xs k = none) : getN (xs ++ [(k, b, v)]) j = if j = k then some v else getN xs j := by
  unfold getN at *
  rw [List.find?_append]
  by_cases h : j = k
  · subst h
    rw [if_pos rfl, Option.map_eq_none_iff.mp hn]
    simp
  · rw [if_neg h]
    have hk : ¬ k = j := fun z => h z.symm
    cases xs.find? fun x => decide (x.1 = j) with
    | none => simp [hk]
    | some p => rfl
theorem nd_stay {P : Program} {w : World} {H H' : Hp} {a : Addr} {xs : List NE} (h : ND P w H a xs) (e : H' a = some (NDO P w a xs)) (t : TupsStay H H') : ND P w H' a xs := ⟨e, fun p hp => ⟨nk_stay t _ _ (h.ks p hp).1, (h.ks p hp).2⟩⟩
theorem nd_same {P : Program} {w : World} {H H' : Hp} {a : Addr} {xs : List NE} (h : ND P w H a xs) (s : Same H H') : ND P w H' a xs := nd_stay h (s _ _ h.ob) (Same.tups s)
/-- {} -/
theorem pe_ndnew {P : Program} {w : World} (hP : X.prog = P) (hw : X.w = w) {pos : Pos} : PE X (.Dict [] [] pos) (fun _ H Q => ∀ p, H p = none → Q (.ref p) (upd H p (NDO P w p []))) := by
  subst hP hw
  constructor
  intro pins s σ H Q I h
  have ok : ObjOk X.prog X.w (upd H s.heap.objs.size (NDO X.prog X.w s.heap.objs.size [])) (s.heap.push { cls := .type "dict", data := .dict #[] }) s.heap.objs.size (NDO X.prog X.w s.heap.objs.size []) :=
    ndo_ok (Nat.zero_le _) (beq_eq_false_iff_ne.mpr (Ne.symm (Nat.ne_of_lt I.big))) .nil (Heap.DictOfH.new s.heap)
  exact wpAny_Dict_empty ⟨.ref _, _, I.laid (t' := s.toks) (fun _ _ z => Heap.get?_push_of_some _ z) (Nat.le_refl _) ok, rfl, h _ (I.hok.fresh (Nat.le_refl _))⟩
theorem nd_nil {P : Program} {w : World} {H : Hp} {a : Addr} : ND P w (upd H a (NDO P w a [])) a [] := ⟨upd_same, (fun _ z => nomatch z)⟩
/-- what is asked of a key -/
def KeyN (H : Hp) (y : V) (k : NestedKey) : Prop := NkAt H k y ∧ k.depth ≤ 8 ∧ ∃ b, y = .ref b
def tNGet (P : Program) (w : World) (td ty : TE) : TE := fun σ H Q => td σ H fun x H1 => ty σ H1 fun y H2 => ∃ a xs k v, x = .ref a ∧ ND P w H2 a xs ∧ KeyN H2 y k ∧ getN xs k = some v ∧ Q v H2
def tNNotIn (P : Program) (w : World) (ty td : TE) : TE := fun σ H Q => ty σ H fun y H1 => td σ H1 fun x H2 => ∃ a xs k, x = .ref a ∧ ND P w H2 a xs ∧ KeyN H2 y k ∧ Q (.bl (!(getN xs k).isSome)) H2
def sNPut (P : Program) (w : World) (td ty tv : TE) : TS := fun D σ H => tv σ H fun v H1 => td σ H1 fun x H2 => ty σ H2 fun y H3 => ∃ a xs k b, x = .ref a ∧ ND P w H3 a xs ∧ y = .ref b ∧ KeyN H3 y k ∧ getN xs k = none ∧ xs.length < sizeLine ∧ D.nx σ (upd H3 a (NDO P w a (xs ++ [(k, b, v)])))
theorem nd_put {P : Program} {w : World} {H : Hp} {a b : Addr} {xs : List NE} {k : NestedKey} {v : V} (h : ND P w H a xs) (hk : KeyN H (.ref b) k) : ND P w (upd H a (NDO P w a (xs ++ [(k, b, v)]))) a (xs ++ [(k, b, v)]) := by
  have t : TupsStay H (upd H a (NDO P w a (xs ++ [(k, b, v)]))) := fun c ys e => by
    rw [upd_ne (ne_of e h.ob (fun z => nomatch z))]
    exact e
  refine ⟨upd_same, fun p hp => ?_⟩
  rcases List.mem_append.mp hp with hp | hp
  · exact ⟨nk_stay t _ _ (h.ks p hp).1, (h.ks p hp).2⟩
  · rw [List.mem_singleton.mp hp]
    exact ⟨nk_stay t _ _ hk.1, hk.2.1⟩
theorem nd_at {pins : List (Addr × Obj)} {σ : L2.St} {H : Hp} {s : Shared} {y : V} {k : NestedKey} {u : Value} (I : Inv X pins σ H s) (hk : KeyN H y k) (r : RelV y u) : ∃ b, u = .ref b ∧ y = .ref b ∧ (nestedKind X.prog X.w).is s.heap k b := by
  obtain ⟨h1, h2, b, rfl⟩ := hk
  obtain rfl : u = Value.ref b := r
  exact ⟨b, rfl, rfl, nk_is I _ _ _ h1 rfl, h2⟩
theorem nrel_none {k : NestedKey} {xs : List NE} {ys : List (NestedKey × Addr × Value)} (r : NRel xs ys) (h : getN xs k = none) : atKey ys k = none := by
  have z := getN_rel (k := k) r
  rw [h] at z
  cases e : atKey ys k with
  | none => rfl
  | some p => rw [e] at z; exact z.elim
theorem pe_ndget {P : Program} {w : World} (hP : X.prog = P) (hw : X.w = w) {o i : Expr} {td ty : TE} {pos : Pos} (hu : X.A.units + 64 < cLine) (ho : PE X o td) (hi : PE X i ty) (hs : NoSl i) : PE X (.Subscript o i pos) (tNGet P w td ty) := by
  subst hP hw
  constructor
  intro pins s σ H Q I h
  refine subD_of PySem.F.slot_dict_getitem.lookup hs (thn (ho.run pins s σ H _ I h) ?_)
  rintro u s1 ⟨x, H1, I1, rx, q1⟩
  refine thn (hi.run pins s1 σ H1 _ I1 q1) ?_
  rintro iv s2 ⟨y, H2, I2, ry, a, xs, k, v, rfl, hn, hk, hv, q2⟩
  obtain rfl : u = Value.ref a := rx
  obtain ⟨b, rfl, rfl, hb⟩ := nd_at I2 hk ry
  obtain ⟨_, hd, ys, r, dd⟩ := hn.full I2
  have z := getN_rel (k := k) r
  rw [hv] at z
  cases e : atKey ys k with
  | none => rw [e] at z; exact z.elim
  | some p =>
    rw [e] at z
    exact ⟨dd.typeIs, wpAny_getItem_heap (knd := nestedKind X.prog X.w) (show X.A.in1.units + 8 < cLine by show X.A.units + 1 + 8 < cLine; omega) hb dd e ⟨v, H2, I2.tok _, z, q2⟩⟩
theorem pc_ndnotin {P : Program} {w : World} (hP : X.prog = P) (hw : X.w = w) {o i : Expr} {td ty : TE} (hu : X.A.units + 64 < cLine) (hi : PE X i ty) (ho : PE X o td) : PC X .NotIn i o (tNNotIn P w ty td) := by
  subst hP hw
  constructor
  intro pins s σ H Q I h
  refine thn (hi.run pins s σ H _ I h) ?_
  rintro iv s1 ⟨y, H1, I1, ry, q1⟩
  refine thn (ho.run pins s1 σ H1 _ I1 q1) ?_
  rintro u s2 ⟨x, H2, I2, rx, a, xs, k, rfl, hn, hk, q2⟩
  obtain rfl : u = Value.ref a := rx
  obtain ⟨b, rfl, rfl, hb⟩ := nd_at I2 hk ry
  obtain ⟨_, hd, ys, r, dd⟩ := hn.full I2
  have z := (getN_rel (k := k) r).isSome_eq
  rw [Option.isSome_map] at z
  refine notIn_keyed (knd := nestedKind X.prog X.w) (show X.A.in1.units + 8 < cLine by show X.A.units + 1 + 8 < cLine; omega) hb hd ⟨ys, dd, rfl⟩ ⟨.bl (!(getN xs k).isSome), H2, I2.tok _, ?_, q2⟩
  rw [valueAt_pairsH, Option.isSome_map, ← z]
  rfl
theorem nd_write {pins : List (Addr × Obj)} {σ : L2.St} {H : Hp} {s : Shared} {a b : Addr} {xs : List NE} {ys : List (NestedKey × Addr × Value)} {k : NestedKey} {v : V} {r : Value} {h' : Heap} {tk : Nat} (I : Inv X pins σ H s) (hn : ND X.prog X.w H a xs) (hl : xs.length < sizeLine) (rel : NRel xs ys) (hd : (a == sysModules) = false)
    (h0 : atKey ys k = none) (rv : RelV v r) (dd : h'.DictOfH (nestedKind X.prog X.w) a (storedH ys k b r)) (hs : Heap.SameBut a s.heap h') : Inv X pins σ (upd H a (NDO X.prog X.w a (xs ++ [(k, b, v)]))) { s with heap := h', toks := tk } := by
  rw [storedH_new h0] at dd
  have he : ∃ o, h'.get? a = some o := dd.elim fun o z => ⟨o, z.choose_spec.choose_spec.1⟩
  refine d_write I (by rw [hn.ob]; exact True.intro) hs he (ndo_ok ?_ hd (awSnoc (F := fun (p : NE) (q : NestedKey × Addr × Value) => p.1 = q.1 ∧ p.2.1 = q.2.1 ∧ RelV p.2.2 q.2.2) ⟨rfl, rfl, rv⟩ rel) dd)
  rw [List.length_append]
  exact hl
theorem ps_ndput {P : Program} {w : World} (hP : X.prog = P) (hw : X.w = w) {o i value : Expr} {td ty tv : TE} {pos pos' : Pos} (hu : X.A.units + 64 < cLine) (ho : PE X o td) (hi : PE X i ty) (hv : PE X value tv) (hs : swapsWith value (some (.Subscript o i pos')) pos.line X.env = pure false) :
    PS X (.Assign [.Subscript o i pos'] value pos) (sNPut P w td ty tv) := by
  subst hP hw
  constructor
  intro pins s σ H D I h
  refine wpAny_Assign_Subscript (thn (hv.run pins s σ H _ I h) ?_) hs
  rintro r s1 ⟨v, H1, I1, rv, q1⟩
  refine thn (ho.run pins s1 σ H1 _ I1 q1) ?_
  rintro u s2 ⟨x, H2, I2, rx, q2⟩
  refine thn (hi.run pins s2 σ H2 _ I2 q2) ?_
  rintro iv s3 ⟨y, H3, I3, ry, a, xs, k, b, rfl, hn, rfl, hk, hg, hl, q3⟩
  obtain rfl : u = Value.ref a := rx
  obtain ⟨b', rfl, eb, hb⟩ := nd_at I3 hk ry
  obtain rfl : b = b' := V.ref.inj eb
  obtain ⟨_, hd, ys, rel, dd⟩ := hn.full I3
  have hz : ys.length ≤ sizeLine := by
    have := awLen rel
    omega
  exact wpAny_setItem_heap (knd := nestedKind X.prog X.w) (hsz := hz) (show X.A.in1.units + 8 < cLine by show X.A.units + 1 + 8 < cLine; omega) hb dd fun h' dd' hs' => ⟨σ, _, nd_write I3 hn hl rel hd (nrel_none rel hg) rv dd' hs', q3⟩
/-- {t: v} -/
def tNDisp (P : Program) (w : World) (tk tv : TE) : TE := fun σ H Q => ∀ p, H p = none → tk σ (upd H p (NDO P w p [])) fun x H1 => tv σ H1 fun v H2 => ∃ b k, x = .ref b ∧ KeyN H2 x k ∧ H2 p = some (NDO P w p []) ∧ Q (.ref p) (upd H2 p (NDO P w p [(k, b, v)]))
theorem pe_ndisp {P : Program} {w : World} (hP : X.prog = P) (hw : X.w = w) {ek ev : Expr} {tk tv : TE} {pos : Pos} (hu : X.A.units + 64 < cLine) (hk : PE X ek tk) (hv : PE X ev tv) : PE X (.Dict [some ek] [ev] pos) (tNDisp P w tk tv) := by
  subst hP hw
  constructor
  intro pins s σ H Q I q
  have hn := I.hok.fresh (Nat.le_refl s.heap.objs.size)
  have ok : ObjOk X.prog X.w (upd H s.heap.objs.size (NDO X.prog X.w s.heap.objs.size [])) (s.heap.push { cls := .type "dict", data := .dict #[] }) s.heap.objs.size (NDO X.prog X.w s.heap.objs.size []) :=
    ndo_ok (Nat.zero_le _) (beq_eq_false_iff_ne.mpr (Ne.symm (Nat.ne_of_lt I.big))) .nil (Heap.DictOfH.new s.heap)
  have I1 := I.laid (t' := s.toks) (fun _ _ z => Heap.get?_push_of_some _ z) (Nat.le_refl _) ok
  rw [arm_eval_Dict, zip_pairTrees [some ek] [ev] X.env pos rfl rfl, dictDisplay_pairs (pairTrees [some ek] [ev] X.env pos) (by simp [pairTrees]) (by simp [pairTrees])]
  apply wpAny_bind
  apply wpAny_standAt
  apply wpAny_bind
  refine wpAny_subDictH (knd := nestedKind X.prog X.w) (show X.A.units + 8 < cLine by omega) (by show 1 ≤ 15; decide) ?_
  refine thn ((pps_cons (pos := pos) hk hv pps_nil).run pins _ σ _ (fun ps H2 => match ps with | [(x, v)] => ∃ b k, x = .ref b ∧ KeyN H2 x k ∧ H2 s.heap.objs.size = some (NDO X.prog X.w s.heap.objs.size []) ∧ Q (.ref s.heap.objs.size) (upd H2 s.heap.objs.size (NDO X.prog X.w s.heap.objs.size [(k, b, v)])) | _ => False) I1 (q _ hn)) ?_
  rintro ws s2 ⟨ps, H2, I2, rel, hq⟩
  cases rel with
  | nil => exact hq.elim
  | cons r t =>
    cases t with
    | cons _ _ => exact hq.elim
    | nil =>
    rename_i p0 w0
    obtain ⟨x, v⟩ := p0
    obtain ⟨u1, u2⟩ := w0
    obtain ⟨r1, r2⟩ := r
    obtain ⟨b, k, e, hk2, hp, q2⟩ := hq
    subst e
    obtain ⟨b', rfl, eb, hb⟩ := nd_at I2 hk2 r1
    obtain rfl : b = b' := V.ref.inj eb
    have hN : ND X.prog X.w H2 s.heap.objs.size [] := ⟨hp, (fun _ z => nomatch z)⟩
    obtain ⟨_, hd, ys, r0, dd⟩ := hN.full I2
    cases r0
    refine ⟨[(k, b, u2)], ⟨rfl, rfl, hb, trivial⟩, dd, fun h' tk dd' hs => ?_⟩
    exact wpAny_pure ⟨.ref s.heap.objs.size, _, nd_write I2 hN (by show 0 < sizeLine; decide) .nil hd rfl r2 dd' hs, rfl, q2⟩
/-- len(d) -/
theorem call_lenN {P : Program} {w : World} (hP : X.prog = P) (hw : X.w = w) : CallR X (.builtin "len") (fun vs H Q => ∃ p xs, vs = [.ref p] ∧ ND P w H p xs ∧ Q (.int ((xs.length : Nat) : Int)) H) := by
  subst hP hw
  intro pins s σ H vs us Q I r h
  obtain ⟨p, xs, rfl, hn, q⟩ := h
  obtain ⟨u, rfl, ru⟩ := vals1 r
  obtain rfl : u = Value.ref p := ru
  obtain ⟨z, hd, ys, rel, dd⟩ := hn.full I
  have hl : xs.length = ys.length := awLen rel
  refine call_len_dictH hd dd (by rw [← hl]; rw [sizeLine_eq] at z; omega) ?_
  rw [← hl]
  exact ⟨.int _, H, I.tok _, ⟨_, rfl⟩, q⟩
/-- d.setdefault(k, v) -/
def rNSetd (P : Program) (w : World) : V → List V → Hp → VK → Prop := fun x vs H Q => ∃ a xs k b v, x = .ref a ∧ vs = [.ref b, v] ∧ ND P w H a xs ∧ KeyN H (.ref b) k ∧ xs.length < sizeLine ∧ (∀ y, getN xs k = some y → Q y H) ∧ (getN xs k = none → Q v (upd H a (NDO P w a (xs ++ [(k, b, v)]))))
theorem mt_nsetd (hu : X.A.units + 64 < cLine) : MtR X "dict.setdefault" (rNSetd X.prog X.w) := by
  intro pins s σ H x vs v us Q I rx rxs h
  obtain ⟨a, xs, k, b, v0, rfl, rfl, hn, hk, hl, q1, q2⟩ := h
  cases rx
  obtain ⟨u1, u2, rfl, r1, r2⟩ := vals2 rxs
  obtain ⟨b', rfl, eb, hb⟩ := nd_at I hk r1
  obtain rfl : b = b' := V.ref.inj eb
  obtain ⟨_, hd, ys, rel, dd⟩ := hn.full I
  have hz : ys.length ≤ sizeLine := by
    have := awLen rel
    omega
  have z := getN_rel (k := k) rel
  refine call_setdefault_heap (knd := nestedKind X.prog X.w) (hsz := hz) (show X.A.in1.units + 8 < cLine by show X.A.units + 1 + 8 < cLine; omega) hb hd dd (fun p hp => ?_) (fun h0 h' dd' hs => ?_)
  · rw [hp] at z
    cases e : getN xs k with
    | none => rw [e] at z; exact z.elim
    | some y =>
      rw [e] at z
      exact ⟨y, H, I.tok _, z, q1 y e⟩
  · rw [h0] at z
    cases e : getN xs k with
    | some y => rw [e] at z; exact z.elim
    | none => exact ⟨v0, _, nd_write I hn hl rel hd h0 r2 dd' hs, r2, q2 e⟩
def tNSetd (P : Program) (w : World) (to : TE) (t : TA) : TE := fun σ H Q => to σ H fun x H1 => (∃ a xs, x = V.ref a ∧ ND P w H1 a xs) ∧ t σ H1 fun vs H2 => rNSetd P w x vs H2 Q
theorem pe_nsetd {P : Program} {w : World} (hP : X.prog = P) (hw : X.w = w) {o e : Expr} {es : List Expr} {to : TE} {t : TA} {apos cpos : Pos} (hu : X.A.units + 64 < cLine) (ho : PE X o to) (ha : PA X (e :: es) t)
    (c1 : attributeBase o "setdefault" X.env (eval o X.env) = eval o X.env := by rfl)
    (c2 : ((backTo cpos (starEach (e :: es) X.env)).all (fun x => !x.1) && (backToKw cpos (keywordEach [] X.env)).all (fun x => x.1.isSome) && decide ((e :: es).length + ([] : List Keyword).length + (if ([] : List Keyword).isEmpty then 0 else 1) < 30)) = true := by rfl)
    (c3 : (apos.endLine == cpos.line) = true := by rfl) (c4 : starEach (e :: es) X.env = (false, eval e X.env) :: starEach es X.env := by rfl) (c5 : (backTo cpos (starEach es X.env)).any (·.1) = false := by rfl) :
    PE X (.Call (.Attribute o "setdefault" apos) (e :: es) [] cpos) (tNSetd P w to t) := by
  subst hP hw
  constructor
  intro pins s σ H Q I h
  refine wpAny_Call_method_late c1 c2 c3 rfl (thn (ho.run pins s σ H _ I h) ?_)
  rintro v s1 ⟨x, H1, I1, r1, ⟨a, xs, rfl, hn⟩, q1⟩
  cases r1
  obtain ⟨_, hd, ys, rel, dd⟩ := hn.full I1
  obtain ⟨ob, es', ep, g1, g2, _⟩ := id dd
  refine ⟨"dict", "dict.setdefault", F.plainAttrs_dict, F.slot_dict_setdefault, F.type_dict_setdefault, dd.typeIs, (fun z e => ⟨ob, by injection e with e; rw [← e]; exact g1, g2.2.1⟩), ?_⟩
  have hA := ha.run cpos pins s1 σ H1 _ I1 q1
  rw [c4] at hA ⊢
  refine Calls.callWith_builtin (by show (false || (backTo cpos (starEach es X.env)).any (·.1)) = false; rw [c5]; rfl) (Calls.evalArgs_plain ?_)
  exact thn hA fun us s2 ⟨vs, H2, I2, r2, q2⟩ => mt_nsetd hu pins s2 σ H2 (.ref a) vs (.ref a) us Q I2 rfl r2 q2
end nds
section nd2
variable {X : Cx}
structure NDR (P : Program) (w : World) (H : Hp) (a : Addr) (xs : List NE) : Prop where
  ob : Rd H a (NDO P w a xs)
  ks : ∀ p ∈ xs, NkAt H p.1 (.ref p.2.1) ∧ p.1.depth ≤ 8
theorem NDR.full {pins : List (Addr × Obj)} {σ : L2.St} {H : Hp} {s : Shared} {a : Addr} {xs : List NE} (I : Inv X pins σ H s) (h : NDR X.prog X.w H a xs) : xs.length ≤ sizeLine ∧ (a == sysModules) = false ∧ ∃ ys, NRel xs ys ∧ s.heap.DictOfH (nestedKind X.prog X.w) a ys := by
  obtain ⟨⟨z1, z2, ys, z3, o, es, ep, z4, z5, z6, z7, z8⟩, _⟩ := h.ob.ok I.hok
  refine ⟨z1, z2, ys, z3, o, es, ep, z4, z5, z6, z7, fun y hy => ?_, z8⟩
  obtain ⟨i, hi⟩ := List.mem_iff_getElem?.mp hy
  obtain ⟨p, hp, e1, e2, _⟩ := awGet2 z3 hi
  obtain ⟨k1, k2⟩ := h.ks p (List.mem_of_getElem? hp)
  rw [e1, e2] at k1
  rw [e1] at k2
  exact ⟨nk_is I _ _ _ k1 rfl, k2⟩
def tNGetR (P : Program) (w : World) (td ty : TE) : TE := fun σ H Q => td σ H fun x H1 => ty σ H1 fun y H2 => ∃ a xs k v, x = .ref a ∧ NDR P w H2 a xs ∧ KeyN H2 y k ∧ getN xs k = some v ∧ Q v H2
theorem pe_ndgetR {P : Program} {w : World} (hP : X.prog = P) (hw : X.w = w) {o i : Expr} {td ty : TE} {pos : Pos} (hu : X.A.units + 64 < cLine) (ho : PE X o td) (hi : PE X i ty) (hs : NoSl i) : PE X (.Subscript o i pos) (tNGetR P w td ty) := by
  subst hP hw
  constructor
  intro pins s σ H Q I h
  refine subD_of PySem.F.slot_dict_getitem.lookup hs (thn (ho.run pins s σ H _ I h) ?_)
  rintro u s1 ⟨x, H1, I1, rx, q1⟩
  refine thn (hi.run pins s1 σ H1 _ I1 q1) ?_
  rintro iv s2 ⟨y, H2, I2, ry, a, xs, k, v, rfl, hn, hk, hv, q2⟩
  obtain rfl : u = Value.ref a := rx
  obtain ⟨b, rfl, rfl, hb⟩ := nd_at I2 hk ry
  obtain ⟨_, hd, ys, r, dd⟩ := hn.full I2
  have z := getN_rel (k := k) r
  rw [hv] at z
  cases e : atKey ys k with
  | none => rw [e] at z; exact z.elim
  | some p =>
    rw [e] at z
    exact ⟨dd.typeIs, wpAny_getItem_heap (knd := nestedKind X.prog X.w) (show X.A.in1.units + 8 < cLine by show X.A.units + 1 + 8 < cLine; omega) hb dd e ⟨v, H2, I2.tok _, z, q2⟩⟩
def tNGet2 (P : Program) (w : World) (td ty tx : TE) : TE := fun σ H Q => td σ H fun x H1 => ∃ a xs0, x = .ref a ∧ ND P w H1 a xs0 ∧ ty σ H1 fun y H2 => tx σ H2 fun z H3 => ∃ xs k, ND P w H3 a xs ∧ KeyN H3 y k ∧ Q ((getN xs k).getD z) H3
theorem pe_ndget2 {P : Program} {w : World} (hP : X.prog = P) (hw : X.w = w) {o e f : Expr} {td ty tx : TE} {apos cpos : Pos} (hu : X.A.units + 64 < cLine) (ho : PE X o td) (he : PE X e ty) (hf : PE X f tx) (m : M2 X o "get" apos e f cpos) : PE X (.Call (.Attribute o "get" apos) [e, f] [] cpos) (tNGet2 P w td ty tx) := by
  subst hP hw
  constructor
  intro pins s σ H Q I h
  refine wpAny_Call_method m.base m.few m.line PySem.F.plainAttrs_dict PySem.F.slot_dict_get PySem.F.type_dict_get (thn (ho.run pins s σ H _ I h) ?_)
  rintro u s1 ⟨x, H1, I1, rx, a, xs0, rfl, hn1, q1⟩
  obtain rfl : u = Value.ref a := rx
  obtain ⟨_, hd1, ys1, rel1, dd1⟩ := hn1.full I1
  obtain ⟨ob, es', ep, g1, g2, _⟩ := id dd1
  refine ⟨dd1.typeIs, (fun z e => ⟨ob, by injection e with e; rw [← e]; exact g1, g2.2.1⟩), ?_⟩
  rw [m.trees]
  refine Calls.callWith_builtin rfl (Calls.evalArgs_plain (Calls.spliced_cons (thn (he.run pins s1 σ H1 _ I1 q1) ?_)))
  rintro iv s2 ⟨y, H2, I2, ry, q2⟩
  refine Calls.spliced_cons (thn (hf.run pins s2 σ H2 _ I2 q2) ?_)
  rintro fv s3 ⟨z, H3, I3, rz, xs, k, hn, hk, q3⟩
  refine Calls.spliced_nil ?_
  obtain ⟨b, rfl, rfl, hb⟩ := nd_at I3 hk ry
  obtain ⟨_, hd, ys, rel, dd⟩ := hn.full I3
  refine call_meetsIn PySem.F.slot_dict_get dd.typeIs PySem.F.entry_dict_get (PySem.F.args_dict_get_3 _ _ _) (meetsH_dict_get_default (nestedKind X.prog X.w) a b hd fv) ⟨(show X.A.in1.units + 8 < cLine by show X.A.units + 1 + 8 < cLine; omega), k, ys, hb, dd, (getN xs k).getD z, H3, I3.tok _, ?_, q3⟩
  exact (getN_rel (k := k) rel).getD rz
def putN (xs : List NE) (k : NestedKey) (b : Addr) (v : V) : List NE := if (getN xs k).isSome = true then xs.map (fun x => if x.1 = k then (x.1, x.2.1, v) else x) else xs ++ [(k, b, v)]
theorem putN_len (xs : List NE) (k : NestedKey) (b : Addr) (v : V) : (putN xs k b v).length ≤ xs.length + 1 := by
  unfold putN
  split
  · rw [List.length_map]
    omega
  · rw [List.length_append]
    exact Nat.le_refl _
theorem nrel_map {k : NestedKey} {v : V} {r : Value} (rv : RelV v r) : ∀ {xs : List NE} {ys : List (NestedKey × Addr × Value)}, NRel xs ys → NRel (xs.map fun x => if x.1 = k then (x.1, x.2.1, v) else x) (ys.map (putAt k r))
  | _, _, .nil => .nil
  | _, _, .cons (a := x) (b := y) h t => by
    refine .cons ?_ (nrel_map rv t)
    obtain ⟨h1, h2, h3⟩ := h
    unfold putAt
    dsimp only
    by_cases e : x.1 = k
    · rw [if_pos e, if_pos (h1 ▸ e)]
      exact ⟨h1, h2, rv⟩
    · rw [if_neg e, if_neg (h1 ▸ e)]
      exact ⟨h1, h2, h3⟩
theorem nd_writeA {pins : List (Addr × Obj)} {σ : L2.St} {H : Hp} {s : Shared} {a b : Addr} {xs : List NE} {ys : List (NestedKey × Addr × Value)} {k : NestedKey} {v : V} {r : Value} {h' : Heap} {tk : Nat} (I : Inv X pins σ H s) (hn : ND X.prog X.w H a xs) (hl : xs.length < sizeLine) (rel : NRel xs ys) (hd : (a == sysModules) = false)
    (rv : RelV v r) (dd : h'.DictOfH (nestedKind X.prog X.w) a (storedH ys k b r)) (hs : Heap.SameBut a s.heap h') : Inv X pins σ (upd H a (NDO X.prog X.w a (putN xs k b v))) { s with heap := h', toks := tk } := by
  have he : ∃ o, h'.get? a = some o := dd.elim fun o z => ⟨o, z.choose_spec.choose_spec.1⟩
  have lp := putN_len xs k b v
  refine d_write I (by rw [hn.ob]; exact True.intro) hs he (ndo_ok (by omega) hd ?_ dd)
  have z := getN_rel (k := k) rel
  unfold putN
  cases e : getN xs k with
  | none =>
    rw [storedH_new (nrel_none rel e), if_neg (by simp)]
    exact awSnoc (F := fun (p : NE) (q : NestedKey × Addr × Value) => p.1 = q.1 ∧ p.2.1 = q.2.1 ∧ RelV p.2.2 q.2.2) ⟨rfl, rfl, rv⟩ rel
  | some y =>
    rw [e] at z
    cases e2 : atKey ys k with
    | none => rw [e2] at z; exact z.elim
    | some p =>
      rw [storedH_old e2, if_pos (by simp)]
      exact nrel_map rv rel
def sNPutA (P : Program) (w : World) (td ty tv : TE) : TS := fun D σ H => tv σ H fun v H1 => td σ H1 fun x H2 => ty σ H2 fun y H3 => ∃ a xs k b, x = .ref a ∧ ND P w H3 a xs ∧ y = .ref b ∧ KeyN H3 y k ∧ xs.length < sizeLine ∧ D.nx σ (upd H3 a (NDO P w a (putN xs k b v)))
theorem ps_ndputA {P : Program} {w : World} (hP : X.prog = P) (hw : X.w = w) {o i value : Expr} {td ty tv : TE} {pos pos' : Pos} (hu : X.A.units + 64 < cLine) (ho : PE X o td) (hi : PE X i ty) (hv : PE X value tv) (hs : swapsWith value (some (.Subscript o i pos')) pos.line X.env = pure false) :
    PS X (.Assign [.Subscript o i pos'] value pos) (sNPutA P w td ty tv) := by
  subst hP hw
  constructor
  intro pins s σ H D I h
  refine wpAny_Assign_Subscript (thn (hv.run pins s σ H _ I h) ?_) hs
  rintro r s1 ⟨v, H1, I1, rv, q1⟩
  refine thn (ho.run pins s1 σ H1 _ I1 q1) ?_
  rintro u s2 ⟨x, H2, I2, rx, q2⟩
  refine thn (hi.run pins s2 σ H2 _ I2 q2) ?_
  rintro iv s3 ⟨y, H3, I3, ry, a, xs, k, b, rfl, hn, rfl, hk, hl, q3⟩
  obtain rfl : u = Value.ref a := rx
  obtain ⟨b', rfl, eb, hb⟩ := nd_at I3 hk ry
  obtain rfl : b = b' := V.ref.inj eb
  obtain ⟨_, hd, ys, rel, dd⟩ := hn.full I3
  have hz : ys.length ≤ sizeLine := by
    have := awLen rel
    omega
  exact wpAny_setItem_heap (knd := nestedKind X.prog X.w) (hsz := hz) (show X.A.in1.units + 8 < cLine by show X.A.units + 1 + 8 < cLine; omega) hb dd fun h' dd' hs' => ⟨σ, _, nd_writeA I3 hn hl rel hd rv dd' hs', q3⟩
theorem nd_putA {P : Program} {w : World} {H : Hp} {a b : Addr} {xs : List NE} {k : NestedKey} {v : V} (h : ND P w H a xs) (hk : KeyN H (.ref b) k) : ND P w (upd H a (NDO P w a (putN xs k b v))) a (putN xs k b v) := by
  have tt : TupsStay H (upd H a (NDO P w a (putN xs k b v))) := fun c ys e => by
    rw [upd_ne (ne_of e h.ob (fun z => nomatch z))]
    exact e
  refine ⟨upd_same, fun p hp => ?_⟩
  unfold putN at hp
  split at hp
  · obtain ⟨x, hx, rfl⟩ := List.mem_map.mp hp
    split
    · exact ⟨nk_stay tt _ _ (h.ks x hx).1, (h.ks x hx).2⟩
    · exact ⟨nk_stay tt _ _ (h.ks x hx).1, (h.ks x hx).2⟩
  · rcases List.mem_append.mp hp with hp | hp
    · exact ⟨nk_stay tt _ _ (h.ks p hp).1, (h.ks p hp).2⟩
    · rw [List.mem_singleton.mp hp]
      exact ⟨nk_stay tt _ _ hk.1, hk.2.1⟩
theorem nd_frz {pins : List (Addr × Obj)} {σ : L2.St} {H : Hp} {s : Shared} {d : Addr} {o : Obj} {xs : List NE} (I : Inv X pins σ H s) (h : H d = some (.frz o (NDO X.prog X.w d xs))) :
    (d == sysModules) = false ∧ s.heap.get? d = some o ∧ o.ExactDict ∧ ∃ (es : Array DictEntry) (ep : Nat), o.data = .dict es ep ∧ es.size = xs.length ∧ ∀ (i : Nat) (p : NE), xs[i]? = some p → ∃ en : DictEntry, es[i]? = some en ∧ en.key = .ref p.2.1 ∧ RelV p.2.2 en.val := by
  obtain ⟨hg, ⟨z1, z2, ys, z3, o', es, ep, z4, z5, z6, z7, z8⟩, _⟩ := I.hok d _ h
  obtain rfl : o' = o := Option.some.inj (z4.symm.trans hg)
  have l1 : es.size = ys.length := size_of_entries z7
  refine ⟨z2, hg, z5, es, ep, z6, l1.trans (awLen z3).symm, fun i p hp => ?_⟩
  obtain ⟨y, hy, e1, e2, e3⟩ := awGet z3 hp
  have e : es.toList[i]? = some (entryOfKey (nestedKind X.prog X.w) y) := by
    rw [z7, List.getElem?_map, hy]
    rfl
  rw [Array.getElem?_toList] at e
  refine ⟨_, e, ?_, e3⟩
  rw [e2]
  rfl
def ItN (P : Program) (w : World) (d : Addr) (o : Obj) (xs : List NE) : It :=
  ⟨fun i H => H d = some (.frz o (NDO P w d xs)) ∧ i < xs.length, fun i H x H' => H' = H ∧ ∃ p, xs[i]? = some p ∧ x = .ref p.2.1, fun i H => H d = some (.frz o (NDO P w d xs)) ∧ xs.length ≤ i⟩
theorem turn_N {d : Addr} {o : Obj} {xs : List NE} {tg : Expr} (it : Addr) {ep : Nat} {es : Array DictEntry} (hod : o.data = .dict es ep) : Turn P w K tg (ItN P w d o xs) [it] it (fun i h => h.IsKeyIter it d i xs.length ep) where
  mem := by simp
  obj := fun i h st b hb => by
    have e : b = it := by simpa using hb
    subst e
    obtain ⟨oi, e, c, dd⟩ := st
    exact ⟨oi, e, fun v z => by rw [dd] at z; cases z⟩
  keep := fun i h h' st k => st.at fun oi e => k it (by simp) oi e
  item := by
    intro X hP hw hK hc i pins s σ H E I hf st hg
    subst hP hw hK
    obtain ⟨hd, hi⟩ := hg
    obtain ⟨f0, f1, f2, f3, f4, f5⟩ := hf it (by simp)
    obtain ⟨hs, hgd, hx, es', ep', hdt, hsz, ent⟩ := nd_frz I hd
    obtain ⟨rfl, rfl⟩ := dict_ep hod hdt
    obtain ⟨p, hkv⟩ : ∃ p, xs[i]? = some p := ⟨xs[i], List.getElem?_eq_getElem hi⟩
    obtain ⟨en, hen, hkey, _⟩ := ent i p hkv
    refine next_key_item st hgd hdt hsz hen fun h' st' sb => ?_
    have I1 : Inv X pins σ H { s with heap := h' } := I.turned (t' := s.toks) (fun b ob hb e => (sb.2 b hb).trans e) f0 f1 f3 f4 f5
    obtain ⟨oi, e, c, dd⟩ := id st'
    exact ⟨en.key, rfl, go_of (s := { s with heap := h' }) e c dd (by decide) ⟨.ref p.2.1, H, I1, hkey, ⟨rfl, p, hkv, rfl⟩, st', fun b hb => (hf b hb).1⟩⟩
  done := by
    intro X hP hw hK hc i pins s σ H E I hf st hg
    subst hP hw hK
    obtain ⟨hd, hi⟩ := hg
    obtain ⟨f0, f1, f2, f3, f4, f5⟩ := hf it (by simp)
    obtain ⟨hs, hgd, hx, es', ep', hdt, hsz, ent⟩ := nd_frz I hd
    obtain ⟨rfl, rfl⟩ := dict_ep hod hdt
    exact next_key_end (I.ok.hd hc) st hgd hdt hsz hi fun h' eb => ⟨rfl, I.turned (t' := s.toks) (fun b ob hb e => eb b ob hb e) f0 f1 f3 f4 f5⟩
  self := fun A i s Q E st h => by
    refine wpAny_pyIter_slot st.typeIs F.slot_dict_keyiterator_iter (wpAny_call_entry F.slot_dict_keyiterator_iter st.typeIs F.entry_dict_keyiterator_iter ?_ (F.args_dict_keyiterator_iter_1 _))
    show wpAny _ _ (ret (.ref it)) _ _ s
    exact wpAny_pure ⟨_, rfl, "dict_keyiterator", _, st.typeIs, F.slot_dict_keyiterator_next.lookup, h⟩
def iKeysN (P : Program) (w : World) (td : TE) : TI := fun σ H R => td σ H fun x H1 => ∃ d o xs, x = .ref d ∧ H1 d = some (.frz o (NDO P w d xs)) ∧ R (ItN P w d o xs) H1
theorem pi_keysN {P : Program} {w : World} (hP : X.prog = P) (hw : X.w = w) {tg e : Expr} {td : TE} (he : PE X e td) : PI X tg e (iKeysN P w td) := by
  subst hP hw
  refine ⟨fun pins s σ H R I h => ?_⟩
  refine thn (he.run pins s σ H _ I h) ?_
  rintro u s1 ⟨x, H1, I1, rx, d, o, xs, rfl, hd, q⟩
  obtain rfl : u = Value.ref d := rx
  obtain ⟨hs, hgd, hx, es, ep, hdt, hsz, ent⟩ := nd_frz I1 hd
  refine iter_keys hs hgd hx hdt (pi_one (tk := s1.toks) I1 _ (turn_N _ hdt) ⟨_, Heap.get?_push_size _ rfl, rfl, ?_⟩ q)
  rw [hsz] <;> rfl
theorem walk_N {P : Program} {w : World} {d : Addr} {o : Obj} {xs : List NE} : Walk (ItN P w d o xs) xs.length (fun H => H d = some (.frz o (NDO P w d xs))) (fun i H x H' => H' = H ∧ ∃ p, xs[i]? = some p ∧ x = .ref p.2.1) :=
  ⟨fun _ _ hi q => ⟨q, hi⟩, fun _ q => ⟨q, Nat.le_refl _⟩, fun _ _ _ _ _ _ y => y⟩
theorem nd_raw {pins : List (Addr × Obj)} {σ : L2.St} {H : Hp} {s : Shared} {d : Addr} {xs : List NE} (I : Inv X pins σ H s) (h : H d = some (NDO X.prog X.w d xs)) :
    (d == sysModules) = false ∧ ∃ es ep, s.heap.DictRaw d es ep ∧ es.size = xs.length ∧ ∀ (i : Nat) (hi : i < es.size), ∃ p, xs[i]? = some p ∧ RelV p.2.2 es[i].val := by
  obtain ⟨⟨z1, z2, ys, z3, o, es, ep, z4, z5, z6, z7, z8⟩, _⟩ := I.hok d _ h
  have l1 : es.size = ys.length := size_of_entries z7
  refine ⟨z2, es, ep, ⟨o, z4, z5, z6⟩, l1.trans (awLen z3).symm, fun i hi => ?_⟩
  have hi2 : i < ys.length := by omega
  obtain ⟨p, h1, _, _, h4⟩ := awGet2 z3 (List.getElem?_eq_getElem hi2)
  have e : es.toList[i]? = some (entryOfKey (nestedKind X.prog X.w) ys[i]) := by
    rw [z7, List.getElem?_map, List.getElem?_eq_getElem hi2]
    rfl
  have e2 : es[i] = entryOfKey (nestedKind X.prog X.w) ys[i] := by
    rw [Array.getElem?_toList, Array.getElem?_eq_getElem hi] at e
    exact Option.some.inj e
  refine ⟨p, h1, ?_⟩
  rw [e2]
  exact h4
def tNVals (P : Program) (w : World) (td : TE) : TE := fun σ H Q => td σ H fun x H1 => ∃ a xs, x = .ref a ∧ H1 a = some (NDO P w a xs) ∧ ∀ p, H1 p = none → Q (.ref p) (upd H1 p (valsO p a))
theorem pe_nvals {P : Program} {w : World} (hP : X.prog = P) (hw : X.w = w) {o : Expr} {td : TE} {apos cpos : Pos} (ho : PE X o td) (hbase : attributeBase o "values" X.env (eval o X.env) = eval o X.env := by rfl) (hline : (apos.endLine == cpos.line) = true := by rfl) : PE X (.Call (.Attribute o "values" apos) [] [] cpos) (tNVals P w td) := by
  subst hP hw
  refine ⟨fun pins s σ H Q I h => ?_⟩
  refine wpAny_Call_method0_late hbase hline (thn (ho.run pins s σ H _ I h) ?_)
  rintro v s1 ⟨x, H1, I1, r1, a, xs, rfl, ha, q1⟩
  obtain rfl : v = Value.ref a := r1
  obtain ⟨hs, es, ep, raw, _⟩ := nd_raw I1 ha
  have raw' := raw
  obtain ⟨o', ho', hx', hdt'⟩ := raw'
  refine ⟨"dict", "dict.values", F.plainAttrs_dict, F.slot_dict_values, F.type_dict_values, raw.typeIs, fun b z => ⟨o', by cases z; exact ho', hx'.2.1⟩, Calls.callWith_builtin rfl (PySem.evalArgs_none ?_)⟩
  refine call_meetsIn F.slot_dict_values raw.typeIs F.entry_dict_values (F.args_dict_values_1 _) (meets_dict_values_raw a hs) ⟨⟨es, ep, raw⟩, ?_⟩
  have I2 := I1.laid (o := valsO s1.heap.objs.size a) (t' := s1.toks) (fun b u z => Heap.get?_push_of_some _ z) (Nat.le_refl _) (valsO_ok (H := upd H1 s1.heap.objs.size (valsO s1.heap.objs.size a)) (Heap.get?_push_size _ rfl))
  exact ⟨.ref _, _, I2, rfl, q1 _ (I1.hok.fresh (Nat.le_refl _))⟩
end nd2
abbrev sLt (x y : Str) : Prop := x.cps.toList < y.cps.toList
abbrev Up (ns : List Str) : Prop := ns.Pairwise sLt
theorem cps_inj {x y : Str} (h : x.cps.toList = y.cps.toList) : x = y := by
  have e := Array.toList_inj.mp h
  cases x
  cases y
  subst e
  rfl
theorem sLt_irr (x : Str) : ¬ sLt x x := List.lt_irrefl _
theorem sLt_trans {x y z : Str} (h : sLt x y) (k : sLt y z) : sLt x z := List.lt_trans h k
theorem sLt_of {x y : Str} (h : ¬ sLt y x) (n : x ≠ y) : sLt x y := by
  by_cases g : sLt x y
  · exact g
  · exact absurd (cps_inj (List.le_antisymm (List.not_lt.mp h) (List.not_lt.mp g))) n
theorem up_rising : ∀ {r : List Str} {p : Str}, risingS p r = true → (p :: r).Nodup → Up (p :: r)
  | [], p, _, _ => List.pairwise_singleton _ _
  | x :: r, p, h, nd => by
    unfold risingS at h
    rw [Bool.and_eq_true, ltCps_eq] at h
    obtain ⟨h1, h2⟩ := h
    obtain ⟨n1, n2⟩ := List.nodup_cons.mp nd
    have ih := up_rising h2 n2
    have px : sLt p x := sLt_of (by simpa using h1) fun e => n1 (e ▸ List.mem_cons_self)
    refine List.pairwise_cons.mpr ⟨fun y hy => ?_, ih⟩
    rcases List.mem_cons.mp hy with rfl | hy
    · exact px
    · exact sLt_trans px ((List.pairwise_cons.mp ih).1 y hy)
theorem up_sorted {ys : List Str} (h : sortedS ys = true) (nd : ys.Nodup) : Up ys := by
  cases ys with
  | nil => exact .nil
  | cons p r => exact up_rising h nd
theorem up_uniq {ys zs : List Str} (h : ys.Perm zs) (hy : Up ys) (hz : Up zs) : ys = zs :=
  List.Perm.eq_of_pairwise (le := fun x y => sLt x y) (fun a b _ _ h1 h2 => absurd (sLt_trans h1 h2) (sLt_irr _)) hy hz h
section grp
variable {κ κ' : Type} [DecidableEq κ] [DecidableEq κ']
abbrev Gs (κ : Type) := List (κ × List Str)
def addG (gs : Gs κ) (k : κ) (t : Str) : Gs κ := if (gs.any fun g => decide (g.1 = k)) = true then gs.map (fun g => if g.1 = k then (g.1, g.2 ++ [t]) else g) else gs ++ [(k, [t])]
def grpL (lab : Str → κ) (ns : List Str) : Gs κ := ns.foldl (fun gs t => addG gs (lab t) t) []
theorem grpL_snoc (lab : Str → κ) (ns : List Str) (t : Str) : grpL lab (ns ++ [t]) = addG (grpL lab ns) (lab t) t := by
  unfold grpL
  rw [List.foldl_append]
  rfl
/-- what groups are made of -/
structure GrpOk (lab : Str → κ) (ns : List Str) (gs : Gs κ) : Prop where
  full : ∀ g ∈ gs, g.2 ≠ []
  has : ∀ g ∈ gs, ∀ t ∈ g.2, t ∈ ns ∧ lab t = g.1
  firsts : (gs.map (·.2)).Pairwise fun g h => ∃ x r y s, g = x :: r ∧ h = y :: s ∧ sLt x y
  nd : (gs.map (·.1)).Nodup
theorem addG_any {gs : Gs κ} {k : κ} : (gs.any fun g => decide (g.1 = k)) = true ↔ k ∈ gs.map (·.1) := by
  rw [List.any_eq_true, List.mem_map]
  constructor
  · rintro ⟨g, h1, h2⟩
    exact ⟨g, h1, of_decide_eq_true h2⟩
  · rintro ⟨g, h1, h2⟩
    exact ⟨g, h1, decide_eq_true h2⟩
theorem firsts_map {gs : Gs κ} {k : κ} {t : Str} (h : (gs.map (·.2)).Pairwise fun g h => ∃ x r y s, g = x :: r ∧ h = y :: s ∧ sLt x y) (_ : ∀ g ∈ gs, g.2 ≠ []) :
    ((gs.map fun g => if g.1 = k then (g.1, g.2 ++ [t]) else g).map (·.2)).Pairwise fun g h => ∃ x r y s, g = x :: r ∧ h = y :: s ∧ sLt x y := by
  rw [List.pairwise_map] at h
  rw [List.pairwise_map, List.pairwise_map]
  refine h.imp fun {g g'} e => ?_
  obtain ⟨x, r, y, s, e1, e2, lt⟩ := e
  by_cases a : g.1 = k
  · by_cases b : g'.1 = k
    · rw [if_pos a, if_pos b]
      exact ⟨x, r ++ [t], y, s ++ [t], by simp [e1], by simp [e2], lt⟩
    · rw [if_pos a, if_neg b]
      exact ⟨x, r ++ [t], y, s, by simp [e1], e2, lt⟩
  · by_cases b : g'.1 = k
    · rw [if_neg a, if_pos b]
      exact ⟨x, r, y, s ++ [t], e1, by simp [e2], lt⟩
    · rw [if_neg a, if_neg b]
      exact ⟨x, r, y, s, e1, e2, lt⟩
theorem grp_ok (lab : Str → κ) : ∀ {ns : List Str}, Up ns → GrpOk lab ns (grpL lab ns) := by
  intro ns h
  have key : ∀ i, i ≤ ns.length → GrpOk lab (ns.take i) (grpL lab (ns.take i)) := by
    intro i
    induction i with
    | zero =>
      intro _
      rw [List.take_zero]
      exact ⟨(fun _ z => nomatch z), (fun _ z => nomatch z), .nil, .nil⟩
    | succ i ih =>
      intro hi
      have ok := ih (by omega)
      have hg := List.getElem?_eq_getElem (show i < ns.length by omega)
      rw [List.take_add_one, hg]
      generalize ht : ns[i] = t at hg
      show GrpOk lab (ns.take i ++ [t]) (grpL lab (ns.take i ++ [t]))
      rw [grpL_snoc]
      unfold addG
      have later : ∀ s ∈ ns.take i, sLt s t := fun s hs => by
        obtain ⟨j, hj, e⟩ := List.mem_take_iff_getElem.mp hs
        have := List.pairwise_iff_getElem.mp h j i (by omega) (by omega) (by omega)
        rw [e, ht] at this
        exact this
      by_cases a : (((grpL lab (ns.take i)).any fun g => decide (g.1 = lab t)) = true)
      · rw [if_pos a]
        refine ⟨fun g hg => ?_, fun g hg s hs => ?_, firsts_map ok.firsts ok.full, ?_⟩
        · obtain ⟨g0, h0, rfl⟩ := List.mem_map.mp hg
          by_cases b : g0.1 = lab t
          · rw [if_pos b]
            simp
          · rw [if_neg b]
            exact ok.full _ h0
        · obtain ⟨g0, h0, rfl⟩ := List.mem_map.mp hg
          by_cases b : g0.1 = lab t
          · rw [if_pos b] at hs ⊢
            rcases List.mem_append.mp hs with hs | hs
            · exact ⟨List.mem_append_left _ (ok.has _ h0 s hs).1, (ok.has _ h0 s hs).2⟩
            · rw [List.mem_singleton.mp hs]
              exact ⟨by simp, b.symm⟩
          · rw [if_neg b] at hs ⊢
            exact ⟨List.mem_append_left _ (ok.has _ h0 s hs).1, (ok.has _ h0 s hs).2⟩
        · have : ((grpL lab (ns.take i)).map fun g => if g.1 = lab t then (g.1, g.2 ++ [t]) else g).map (·.1) = (grpL lab (ns.take i)).map (·.1) := by
            rw [List.map_map]
            refine List.map_congr_left fun g _ => ?_
            show (if g.1 = lab t then (g.1, g.2 ++ [t]) else g).1 = g.1
            by_cases b : g.1 = lab t
            · rw [if_pos b]
            · rw [if_neg b]
          rw [this]
          exact ok.nd
      · rw [if_neg a]
        refine ⟨fun g hg => ?_, fun g hg s hs => ?_, ?_, ?_⟩
        · rcases List.mem_append.mp hg with hg | hg
          · exact ok.full _ hg
          · rw [List.mem_singleton.mp hg]
            simp
        · rcases List.mem_append.mp hg with hg | hg
          · exact ⟨List.mem_append_left _ (ok.has _ hg s hs).1, (ok.has _ hg s hs).2⟩
          · rw [List.mem_singleton.mp hg] at hs ⊢
            rw [List.mem_singleton.mp hs]
            exact ⟨by simp, rfl⟩
        · rw [List.map_append, List.pairwise_append]
          refine ⟨ok.firsts, List.pairwise_singleton _ _, fun g hg g' hg' => ?_⟩
          rw [List.mem_singleton.mp hg']
          obtain ⟨g0, h0, rfl⟩ := List.mem_map.mp hg
          have hf := ok.full _ h0
          cases e : g0.2 with
          | nil => exact absurd e hf
          | cons x r => exact ⟨x, r, t, [], rfl, rfl, later x (ok.has _ h0 x (by rw [e]; exact List.mem_cons_self)).1⟩
        · rw [List.map_append, List.nodup_append]
          refine ⟨ok.nd, by simp, fun x hx y hy e => ?_⟩
          rw [List.map_singleton, List.mem_singleton] at hy
          subst e
          rw [hy] at hx
          exact a (addG_any.mpr hx)
  have := key ns.length (Nat.le_refl _)
  rw [List.take_length] at this
  exact this
theorem addG_len (gs : Gs κ) (k : κ) (t : Str) : (addG gs k t).length ≤ gs.length + 1 := by
  unfold addG
  split
  · rw [List.length_map]; omega
  · rw [List.length_append]; exact Nat.le_refl _
theorem grpL_len (lab : Str → κ) (ns : List Str) : (grpL lab ns).length ≤ ns.length := by
  have key : ∀ i, i ≤ ns.length → (grpL lab (ns.take i)).length ≤ i := by
    intro i
    induction i with
    | zero => intro _; rw [List.take_zero]; exact Nat.le_refl _
    | succ i ih =>
      intro hi
      have hg := List.getElem?_eq_getElem (show i < ns.length by omega)
      rw [List.take_add_one, hg]
      show (grpL lab (ns.take i ++ [ns[i]])).length ≤ _
      rw [grpL_snoc]
      have := addG_len (grpL lab (ns.take i)) (lab ns[i]) ns[i]
      have := ih (by omega)
      omega
  have := key ns.length (Nat.le_refl _)
  rw [List.take_length] at this
  exact this
/-- groups know of the names' labels only which are one -/
inductive GSim (lab : Str → κ) (lab' : Str → κ') (ns : List Str) : Gs κ → Gs κ' → Prop
  | nil : GSim lab lab' ns [] []
  | cons {g : κ × List Str} {g' : κ' × List Str} {gs : Gs κ} {gs' : Gs κ'} : g.2 = g'.2 → (∃ t ∈ ns, t ∈ g.2) → (∀ t ∈ g.2, t ∈ ns ∧ lab t = g.1 ∧ lab' t = g'.1) → GSim lab lab' ns gs gs' → GSim lab lab' ns (g :: gs) (g' :: gs')
theorem gsim_any {lab : Str → κ} {lab' : Str → κ'} {ns : List Str} (same : ∀ s ∈ ns, ∀ t ∈ ns, lab s = lab t ↔ lab' s = lab' t) {t : Str} (ht : t ∈ ns) : ∀ {gs : Gs κ} {gs' : Gs κ'}, GSim lab lab' ns gs gs' → (gs.any fun g => decide (g.1 = lab t)) = (gs'.any fun g => decide (g.1 = lab' t))
  | _, _, .nil => rfl
  | _, _, .cons (g := g) (g' := g') e1 e2 e3 h => by
    rw [List.any_cons, List.any_cons, gsim_any same ht h]
    congr 1
    obtain ⟨s, hs, hg⟩ := e2
    obtain ⟨_, a, b⟩ := e3 s hg
    rw [← a, ← b]
    by_cases c : lab s = lab t
    · rw [decide_eq_true c, decide_eq_true ((same s hs t ht).mp c)]
    · rw [decide_eq_false c, decide_eq_false fun z => c ((same s hs t ht).mpr z)]
theorem gsim_map {lab : Str → κ} {lab' : Str → κ'} {ns : List Str} (same : ∀ s ∈ ns, ∀ t ∈ ns, lab s = lab t ↔ lab' s = lab' t) {t : Str} (ht : t ∈ ns) : ∀ {gs : Gs κ} {gs' : Gs κ'}, GSim lab lab' ns gs gs' →
    GSim lab lab' ns (gs.map fun g => if g.1 = lab t then (g.1, g.2 ++ [t]) else g) (gs'.map fun g => if g.1 = lab' t then (g.1, g.2 ++ [t]) else g)
  | _, _, .nil => .nil
  | _, _, .cons (g := g) (g' := g') e1 e2 e3 h => by
    rw [List.map_cons, List.map_cons]
    have e2' := e2
    obtain ⟨s, hs, hg⟩ := e2
    obtain ⟨_, a, b⟩ := e3 s hg
    by_cases c : g.1 = lab t
    · have c' : g'.1 = lab' t := by
        rw [← b]
        exact (same s hs t ht).mp (a.trans c)
      rw [if_pos c, if_pos c']
      refine .cons (by show g.2 ++ [t] = g'.2 ++ [t]; rw [e1]) ⟨s, hs, List.mem_append_left _ hg⟩ (fun x hx => ?_) (gsim_map same ht h)
      rcases List.mem_append.mp hx with hx | hx
      · exact e3 x hx
      · rw [List.mem_singleton.mp hx]
        exact ⟨ht, c.symm, c'.symm⟩
    · have c' : ¬ g'.1 = lab' t := fun z => c (by
        rw [← a]
        exact (same s hs t ht).mpr (b.trans z))
      rw [if_neg c, if_neg c']
      exact .cons e1 e2' e3 (gsim_map same ht h)
theorem gsim_snoc {lab : Str → κ} {lab' : Str → κ'} {ns : List Str} {t : Str} (ht : t ∈ ns) : ∀ {gs : Gs κ} {gs' : Gs κ'}, GSim lab lab' ns gs gs' → GSim lab lab' ns (gs ++ [(lab t, [t])]) (gs' ++ [(lab' t, [t])])
  | _, _, .nil => .cons rfl ⟨t, ht, by simp⟩ (fun x hx => by rw [List.mem_singleton.mp hx]; exact ⟨ht, rfl, rfl⟩) .nil
  | _, _, .cons e1 e2 e3 h => .cons e1 e2 e3 (gsim_snoc ht h)
theorem grp_same {lab : Str → κ} {lab' : Str → κ'} {ns : List Str} (same : ∀ s ∈ ns, ∀ t ∈ ns, lab s = lab t ↔ lab' s = lab' t) : (grpL lab ns).map (·.2) = (grpL lab' ns).map (·.2) := by
  have key : ∀ i, i ≤ ns.length → GSim lab lab' ns (grpL lab (ns.take i)) (grpL lab' (ns.take i)) := by
    intro i
    induction i with
    | zero => intro _; rw [List.take_zero]; exact .nil
    | succ i ih =>
      intro hi
      have hg := List.getElem?_eq_getElem (show i < ns.length by omega)
      rw [List.take_add_one, hg]
      show GSim lab lab' ns (grpL lab (ns.take i ++ [ns[i]])) (grpL lab' (ns.take i ++ [ns[i]]))
      rw [grpL_snoc, grpL_snoc]
      have z := ih (by omega)
      have ht : ns[i] ∈ ns := List.getElem_mem _
      have e := gsim_any same ht z
      unfold addG
      by_cases a : ((grpL lab (ns.take i)).any fun g => decide (g.1 = lab ns[i])) = true
      · rw [if_pos a, if_pos (e ▸ a)]
        exact gsim_map same ht z
      · rw [if_neg a, if_neg (e ▸ a)]
        exact gsim_snoc ht z
  have := key ns.length (Nat.le_refl _)
  rw [List.take_length] at this
  clear key same
  generalize grpL lab ns = gs at this
  generalize grpL lab' ns = gs' at this
  induction this with
  | nil => rfl
  | cons e1 _ _ _ ih => rw [List.map_cons, List.map_cons, e1, ih]
end grp
section ndc
variable {X : Cx}
def tNGet1 (P : Program) (w : World) (td ty : TE) : TE := fun σ H Q => td σ H fun x H1 => ∃ a xs0, x = .ref a ∧ ND P w H1 a xs0 ∧ ty σ H1 fun y H2 => ∃ xs k, ND P w H2 a xs ∧ KeyN H2 y k ∧ Q ((getN xs k).getD .non) H2
theorem pe_ndget1 {P : Program} {w : World} (hP : X.prog = P) (hw : X.w = w) {o e : Expr} {td ty : TE} {apos cpos : Pos} (hu : X.A.units + 64 < cLine) (ho : PE X o td) (he : PE X e ty) (m : M1 X o "get" apos e cpos) : PE X (.Call (.Attribute o "get" apos) [e] [] cpos) (tNGet1 P w td ty) := by
  subst hP hw
  constructor
  intro pins s σ H Q I h
  refine wpAny_Call_method m.base m.few m.line PySem.F.plainAttrs_dict PySem.F.slot_dict_get PySem.F.type_dict_get (thn (ho.run pins s σ H _ I h) ?_)
  rintro u s1 ⟨x, H1, I1, rx, a, xs0, rfl, hn1, q1⟩
  obtain rfl : u = Value.ref a := rx
  obtain ⟨_, hd1, ys1, rel1, dd1⟩ := hn1.full I1
  obtain ⟨ob, es', ep, g1, g2, _⟩ := id dd1
  refine ⟨dd1.typeIs, (fun z e => ⟨ob, by injection e with e; rw [← e]; exact g1, g2.2.1⟩), ?_⟩
  rw [m.trees]
  refine Calls.callWith_builtin rfl (Calls.evalArgs_plain (Calls.spliced_cons (thn (he.run pins s1 σ H1 _ I1 q1) ?_)))
  rintro iv s2 ⟨y, H2, I2, ry, xs, k, hn, hk, q2⟩
  refine Calls.spliced_nil ?_
  obtain ⟨b, rfl, rfl, hb⟩ := nd_at I2 hk ry
  obtain ⟨_, hd, ys, rel, dd⟩ := hn.full I2
  refine call_meetsIn PySem.F.slot_dict_get dd.typeIs PySem.F.entry_dict_get (PySem.F.args_dict_get_2 _ _) (meetsH_dict_get (nestedKind X.prog X.w) a b hd) ⟨(show X.A.in1.units + 8 < cLine by show X.A.units + 1 + 8 < cLine; omega), k, ys, hb, dd, (getN xs k).getD .non, H2, I2.tok _, ?_, q2⟩
  exact (getN_rel (k := k) rel).getD (d := V.non) (d' := Value.none) (show RelV .non .none from rfl)
/-- d[k] = v by a comprehension -/
theorem nd_dictSet {pins : List (Addr × Obj)} {σ : L2.St} {H : Hp} {s : Shared} {E : Value → Shared → Prop} {D b : Addr} {xs : List NE} {k : NestedKey} {v : V} {u r : Value} {Q : Unit → Shared → Prop} (hu : X.A.units + 64 < cLine) (I : Inv X pins σ H s) (hD : ND X.prog X.w H D xs) (hz : xs.length < sizeLine)
    (hk : KeyN H (.ref b) k) (ry : RelV (.ref b) u) (rv : RelV v r) (h : ∀ s', Inv X pins σ (upd H D (NDO X.prog X.w D (putN xs k b v))) s' → Q () s') : wpAny (model X.prog X.w) X.A (dictSet D u r) Q E s := by
  obtain ⟨_, hd, ys, rel, dd⟩ := hD.full I
  obtain ⟨b', rfl, eb, hb⟩ := nd_at I hk ry
  obtain rfl : b = b' := V.ref.inj eb
  have hzv : ys.length ≤ sizeLine := by
    have := awLen rel
    omega
  exact wpAny_dictSet_heap (knd := nestedKind X.prog X.w) (hsz := hzv) (show X.A.units + 8 < cLine by omega) hb dd fun h' dd' hs => h _ (nd_writeA I hD hz rel hd rv dd' hs)
/-- {k: v for target in iter if ..}, keys nested tuples: D the new dict -/
def tDcN (P : Program) (w : World) (wi : TI) (g : TG) (tt : TT) (tk tv : TE) (vs : List Nat) : TE := fun σ H Q => wi σ H fun J H1 => ∀ D, H1 D = none → ∃ W : Nat → Nat → Hp → Prop, (∃ m, W 0 m (upd H1 D (NDO P w D []))) ∧ ∀ i m H, W i m H →
  (J.stop i H ∧ Q (.ref D) H) ∨ (J.go i H ∧ ∃ Nx : Hp → Prop, (∀ H', Nx H' → ∃ m', m' < m ∧ W (i + 1) m' H') ∧ ∀ x H', J.yld i H x H' → g x (wipe σ vs) H' fun σ2 H2 => wipe σ2 vs = wipe σ vs ∧ tt σ2 H2 fun b H3 =>
    if b = true then tk σ2 H3 fun y H4 => tv σ2 H4 fun z H5 => ∃ xs k b, y = .ref b ∧ ND P w H5 D xs ∧ KeyN H5 (.ref b) k ∧ xs.length < sizeLine ∧ Nx (upd H5 D (NDO P w D (putN xs k b z))) else Nx H3)
theorem dcn_core {pins : List (Addr × Obj)} {s : Shared} {σ : L2.St} {H : Hp} {Q : VK} {kx vx tg iter : Expr} {ifs : List Expr} {scope : Scope} {own : List (Str × Nat)} {pos pos' : Pos} {wi : TI} {g : TG} {tt : TT} {tk tv : TE} {use : Option (Value → Sem Unit)} {Qf : Value → Shared → Prop}
    (hu : X.A.units + 64 < cLine) (hc : X.calm = true) (hN : X.N.Nodup) (I : Inv X pins σ H s) (hi : PI X tg iter wi) (ok : BlkOk X.N X.env.scope scope own)
    (hg : ∀ (s : Shared) (H : Hp) (C : Addr) (cl : List (Str × Addr)) (fp : List Addr), PG (X.blk s H scope (compEnvC scope cl C X.env) fp) tg g) (ht : ∀ (s : Shared) (H : Hp) (C : Addr) (cl : List (Str × Addr)) (fp : List Addr), PTs (X.blk s H scope (compEnvC scope cl C X.env) fp) ifs tt)
    (hk : ∀ (s : Shared) (H : Hp) (C : Addr) (cl : List (Str × Addr)) (fp : List Addr), PE (X.blk s H scope (compEnvC scope cl C X.env) fp) kx tk)
    (he : ∀ (s : Shared) (H : Hp) (C : Addr) (cl : List (Str × Addr)) (fp : List Addr), PE (X.blk s H scope (compEnvC scope cl C X.env) fp) vx tv) (hs : ∀ x, foldedSetIterable iter X.env x = pure x)
    (h : tDcN X.prog X.w wi g tt tk tv (own.map (·.2)) σ H Q)
    (hRR : ∀ D C s' m H', Inv X pins σ H' s' → Q (.ref D) H' → s'.heap.Ns C m → FpOk X pins H' C → compPost (model X.prog X.w) X.A X.xe use Qf (.ref D) C (.ok .next) s') :
    wpAny (model X.prog X.w) X.A (comprehension (.DictComp kx vx [⟨tg, iter, ifs, 0⟩] scope pos) scope X.env pos' newDict false (eval iter X.env) use) Qf X.xe s := by
  have hfree : ∀ y ∈ scope.names, y.2 = .free → ∃ c, X.env.cells.lookup y.1 = some c := fun y hy e => by
    rcases ok.free y hy e with k | k
    · exact I.ok.has _ (.inl k)
    · exact I.ok.has _ (.inr k)
  refine wpAny_comprehension_free (use := use) rfl hs (closure_ok hfree) ok.kind (fun y hy e => by rw [ok.uniq y hy, e])
    (thn (hi.run pins s σ H _ I h) fun xv s1 hx => thn hx fun itv s2 h2 => ?_)
  obtain ⟨it, fp, tn, J, H2, e, I2, T, st2, f2, q⟩ := h2
  subst e
  refine wpAny_newObj_type (newEnv_comp ?_)
  generalize hD : s2.heap.objs.size = D
  have hDn : H2 D = none := I2.hok.fresh (Nat.le_of_eq hD)
  obtain ⟨W, ⟨m0, w0⟩, turn⟩ := q D hDn
  generalize hs3 : ({ s2 with heap := s2.heap.push { cls := .type "dict", data := .dict #[] } } : Shared) = s3
  have I3 : Inv X pins σ (upd H2 D (NDO X.prog X.w D [])) s3 := by
    rw [← hs3]
    refine I2.laid (t' := s2.toks) (fun b o e => Heap.get?_push_of_some _ e) (Nat.le_of_eq hD) ?_
    rw [← hD]
    exact ndo_ok (Nat.zero_le _) (beq_eq_false_iff_ne.mpr (Ne.symm (Nat.ne_of_lt I2.big))) .nil (Heap.DictOfH.new s2.heap)
  have h3 : s3.heap = s2.heap.push { cls := .type "dict", data := .dict #[] } := by rw [← hs3]
  have sz : ∀ b ∈ fp, b < s2.heap.objs.size := fun b hb => by
    obtain ⟨o, e, _⟩ := T.obj _ _ st2 b hb
    exact Heap.lt_size e
  have f3 : ∀ b ∈ fp, FpOk X pins (upd H2 D (NDO X.prog X.w D [])) b ∧ b < s3.heap.objs.size := fun b hb => by
    have hlt := sz b hb
    refine ⟨⟨?_, (f2 b hb).2⟩, by rw [h3, Heap.size_push]; exact Nat.lt_succ_of_lt hlt⟩
    rw [upd_ne (by rw [← hD]; exact Nat.ne_of_lt hlt)]
    exact (f2 b hb).1
  have st3 : tn 0 s3.heap := T.keep _ _ _ st2 fun b _ o e => by rw [h3]; exact Heap.get?_push_of_some _ e
  have I4 := block_start I3 ok hN f3
  have pg := hg s3 (upd H2 D (NDO X.prog X.w D [])) s3.heap.objs.size (cellsFrom (s3.heap.objs.size + 1) scope.names (cloFrom X.env.cells scope.names [])) fp
  have pt := ht s3 (upd H2 D (NDO X.prog X.w D [])) s3.heap.objs.size (cellsFrom (s3.heap.objs.size + 1) scope.names (cloFrom X.env.cells scope.names [])) fp
  have pk := hk s3 (upd H2 D (NDO X.prog X.w D [])) s3.heap.objs.size (cellsFrom (s3.heap.objs.size + 1) scope.names (cloFrom X.env.cells scope.names [])) fp
  have pe := he s3 (upd H2 D (NDO X.prog X.w D [])) s3.heap.objs.size (cellsFrom (s3.heap.objs.size + 1) scope.names (cloFrom X.env.cells scope.names [])) fp
  show codeAny _ _ (.compStart (.DictComp kx vx [⟨tg, iter, ifs, 0⟩] scope pos) 0 (.ref it) (.ref D) (compEnvC scope (cellsFrom (s3.heap.objs.size + 1) scope.names (cloFrom X.env.cells scope.names [])) s3.heap.objs.size X.env)) (compPost (model X.prog X.w) X.A X.xe use Qf (.ref D) s3.heap.objs.size) { s3 with heap := pushCells (s3.heap.push { cls := .type "dict", data := .dict #[] }) scope.names }
  have nfp : ∀ b ∈ fp, (upd H2 D (NDO X.prog X.w D [])) b = none := fun b hb => (f3 b hb).1.1
  generalize hce : compEnvC scope (cellsFrom (s3.heap.objs.size + 1) scope.names (cloFrom X.env.cells scope.names [])) s3.heap.objs.size X.env = ce at I4 pg pt pk pe ⊢
  have cL : ce.locals = s3.heap.objs.size := by subst hce; rfl
  generalize hH3 : upd H2 D (NDO X.prog X.w D []) = H3 at I3 I4 pg pt pk pe w0 nfp f3
  generalize hs4 : ({ s3 with heap := pushCells (s3.heap.push { cls := .type "dict", data := .dict #[] }) scope.names } : Shared) = s4 at I4 ⊢
  have st4 : tn 0 s4.heap := T.keep _ _ _ st3 fun b _ o e => by rw [← hs4]; exact pushCells_keeps _ _ _ _ (Heap.get?_push_of_some _ e)
  have stat : ∀ {σ' : L2.St} {H' : Hp} {s' : Shared}, Inv (X.blk s3 H3 scope ce fp) [] σ' H' s' → (∀ b ∈ fp, H' b = none) → ∀ b ∈ fp, FpOk (X.blk s3 H3 scope ce fp) [] H' b := fun {σ' H' s'} I' hn b hb =>
    ⟨hn b hb, (I'.ok.exf b hb).1, I'.ok.exfs b hb, .inl hb, fun x c e => (I'.ok.exf b hb).2 x c e, fun p hp => absurd (show p ∈ ([] : List (Addr × Obj)) ++ [] from hp) (by simp)⟩
  have loop : codeAny (model X.prog X.w) X.A (.compLoop (.DictComp kx vx [⟨tg, iter, ifs, 0⟩] scope pos) 0 (.ref it) (.ref D) ce) (compPost (model X.prog X.w) X.A X.xe use Qf (.ref D) s3.heap.objs.size) s4 := by
    refine compLoop_anyD (fun n s' => ∃ i H', Inv (X.blk s3 H3 scope ce fp) [] (wipe σ (own.map (·.2))) H' s' ∧ tn i s'.heap ∧ (∀ b ∈ fp, H' b = none) ∧ W i n H') ?_ m0 ⟨0, H3, I4, st4, nfp, w0⟩
    rintro n s5 ⟨i, H5, I5, st5, n5, w5⟩
    rcases turn i n H5 w5 with ⟨stop, qq⟩ | ⟨go, Nx, hNx, step⟩
    · have td := T.done (X.blk s3 H3 scope ce fp) rfl rfl rfl hc i [] s5 _ H5 (fun _ _ => False) I5 (stat I5 n5) st5 stop
      refine thnF td fun r s6 ⟨hr, I6⟩ => ?_
      subst hr
      have I7 : Inv X pins σ H5 s6 := I3.call' (ch := fp) I6.os I6.base I6.hok I6.bare fun b hb => ⟨(f3 b hb).1.2.2.2.1, (f3 b hb).1.2.1, (f3 b hb).1.2.2.2.2.1, (f3 b hb).1.2.2.2.2.2⟩
      have nC : H5 s3.heap.objs.size = none := by
        have z : H5 ce.locals = none := I6.free
        rw [cL] at z
        exact z
      obtain ⟨m, hn, _⟩ := I6.loc
      have hn : s6.heap.Ns ce.locals m := hn
      rw [cL] at hn
      exact hRR D s3.heap.objs.size s6 m H5 I7 qq hn (I3.fpOk (Nat.le_refl _) nC)
    · have ti := T.item (X.blk s3 H3 scope ce fp) rfl rfl rfl hc i [] s5 _ H5 (fun _ _ => False) I5 (stat I5 n5) st5 go
      refine thnF ti fun r s6 ⟨u, hr, h6⟩ => ?_
      subst hr
      refine thnF h6 fun _ s7 ⟨x, H7, I7, r7, y7, st7, n7⟩ => ?_
      have I7' := I7.pinned (stat I7 n7) (T.obj _ _ st7)
      refine thnF (pg.run _ s7 _ H7 x u _ I7' r7 (step x H7 y7)) fun _ s8 ⟨σ8, H8, I8, hw8, q8⟩ => ?_
      refine thnF (pt.run _ s8 σ8 H8 _ I8 q8) fun b s9 ⟨H9, I9, q9⟩ => ?_
      have fin : ∀ {s' : Shared} {H' : Hp}, Inv (X.blk s3 H3 scope ce fp) ([] ++ pinsAt fp s7.heap) σ8 H' s' → Nx H' → ∃ m, m < n ∧ ∃ i H', Inv (X.blk s3 H3 scope ce fp) [] (wipe σ (own.map (·.2))) H' s' ∧ tn i s'.heap ∧ (∀ b ∈ fp, H' b = none) ∧ W i m H' := fun {s' H'} I' nx => by
        obtain ⟨m', hm, w'⟩ := hNx H' nx
        have pin' : ∀ b ∈ fp, ∀ o, s7.heap.get? b = some o → s'.heap.get? b = some o ∧ H' b = none := fun b hb o e =>
          let z := I'.pin (b, o) (List.mem_append_right _ (List.mem_append_right _ (mem_pinsAt hb e)))
          ⟨z.1, z.2.1⟩
        have hl : (wipe σ (own.map (·.2))).length = σ8.length := by rw [← hw8, wipe_length]
        refine ⟨m', hm, i + 1, H', (I'.unpinned (pins := [])).weak hl (fun j v e => ?_), T.keep _ _ _ st7 fun b hb o e => (pin' b hb o e).1, fun b hb => ?_, w'⟩
        · rw [← hw8] at e
          exact (wipe_some e).1
        · obtain ⟨o, e, _⟩ := T.obj _ _ st7 b hb
          exact (pin' b hb o e).2
      cases b with
      | false =>
        simp only [Bool.false_eq_true, if_false] at q9 ⊢
        exact fin I9 q9
      | true =>
        simp only [if_true] at q9 ⊢
        refine thnF (pk.run _ s9 σ8 H9 _ I9 q9) fun z s10 ⟨yk, H10, I10, r10, q10⟩ => ?_
        refine thnF (pe.run _ s10 σ8 H10 _ I10 q10) fun z2 s11 ⟨yv, H11, I11, r11, xs, k, b, ek, hD11, hk11, hz11, nx⟩ => ?_
        subst ek
        exact nd_dictSet (X := X.blk s3 H3 scope ce fp) hu I11 hD11 hz11 hk11 r10 r11 fun s12 I12 => fin I12 nx
  exact codeAny_compStart_dict loop (T.self X.A 0 _ _ _ st4 loop)
/-- as a value -/
theorem pe_dcN {P : Program} {w : World} (hP : X.prog = P) (hw : X.w = w) {kx vx tg iter : Expr} {ifs : List Expr} {scope : Scope} {own : List (Str × Nat)} {pos : Pos} {wi : TI} {g : TG} {tt : TT} {tk tv : TE} (hu : X.A.units + 64 < cLine) (hc : X.calm = true) (hN : X.N.Nodup) (hi : PI X tg iter wi) (ok : BlkOk X.N X.env.scope scope own)
    (hg : ∀ (s : Shared) (H : Hp) (C : Addr) (cl : List (Str × Addr)) (fp : List Addr), PG (X.blk s H scope (compEnvC scope cl C X.env) fp) tg g) (ht : ∀ (s : Shared) (H : Hp) (C : Addr) (cl : List (Str × Addr)) (fp : List Addr), PTs (X.blk s H scope (compEnvC scope cl C X.env) fp) ifs tt)
    (hk : ∀ (s : Shared) (H : Hp) (C : Addr) (cl : List (Str × Addr)) (fp : List Addr), PE (X.blk s H scope (compEnvC scope cl C X.env) fp) kx tk)
    (he : ∀ (s : Shared) (H : Hp) (C : Addr) (cl : List (Str × Addr)) (fp : List Addr), PE (X.blk s H scope (compEnvC scope cl C X.env) fp) vx tv) (hs : ∀ x, foldedSetIterable iter X.env x = pure x := by intro _; rfl) :
    PE X (.DictComp kx vx [⟨tg, iter, ifs, 0⟩] scope pos) (tDcN P w wi g tt tk tv (own.map (·.2))) := by
  subst hP hw
  refine ⟨fun pins s σ H Q I h => ?_⟩
  rw [arm_eval_DictComp]
  refine dcn_core hu hc hN I hi ok hg ht hk he hs h fun D C s' m H' I' q hn f => ⟨m, hn, fun h'' sb => ?_⟩
  obtain ⟨f0, f1, f2, f3, f4, f5⟩ := f
  exact ⟨.ref D, H', I'.turned (t' := s'.toks) (fun b o hb e => (sb.2 b hb).trans e) f0 f1 f3 f4 f5, rfl, q⟩
theorem prOf {α β : Type} {F : α → β → Prop} : ∀ {l : List α} {k : List β}, l.length = k.length → (∀ (i : Nat) (x : α) (y : β), l[i]? = some x → k[i]? = some y → F x y) → Paired F l k
  | [], [], _, _ => .nil
  | x :: l, y :: k, h, f => .cons (f 0 x y rfl rfl) (prOf (by simpa using h) fun i x y h1 h2 => f (i + 1) x y (by simpa using h1) (by simpa using h2))
  | [], _ :: _, h, _ => by simp at h
  | _ :: _, [], h, _ => by simp at h
abbrev Firsts (gs : List (List Str)) : Prop := gs.Pairwise fun g h => ∃ x r y s, g = x :: r ∧ h = y :: s ∧ sLt x y
theorem alike_strs : ∀ xs ys : List Str, PySem.W.alikeAll (xs.map .str) (ys.map .str) = true
  | [], _ => by simp [PySem.W.alikeAll]
  | _ :: _, [] => by simp [PySem.W.alikeAll]
  | x :: xs, y :: ys => by
    show PySem.W.alikeAll (.str x :: xs.map .str) (.str y :: ys.map .str) = true
    rw [PySem.W.alikeAll, alike_strs xs ys]
    simp [PySem.W.alike]
theorem depth_strs : ∀ xs : List Str, PyData.depthAll (xs.map .str) = 0
  | [] => by simp [PyData.depthAll]
  | x :: xs => by
    show PyData.depthAll (.str x :: xs.map .str) = 0
    rw [PyData.depthAll, depth_strs xs]
    simp [PyData.depth]
theorem firsts_lt {g h : List Str} (e : ∃ x r y s, g = x :: r ∧ h = y :: s ∧ sLt x y) : PySem.W.dataLt (.list (h.map .str)) (.list (g.map .str)) = false := by
  obtain ⟨x, r, y, s, rfl, rfl, lt⟩ := e
  rw [PySem.W.dataLt_list, List.map_cons, List.map_cons, PySem.W.dataLt_cons (by simp [PySem.W.alike]), PySem.W.dataLt_str]
  have ne : ¬ y = x := fun z => by
    subst z
    exact sLt_irr _ lt
  rw [if_neg (by simp [PyData.eqv, ne])]
  exact decide_eq_false fun z => sLt_irr _ (sLt_trans lt z)
theorem strs_reads {prog : Program} {w : World} {h : Heap} : ∀ {us : List Value} {g : List Str}, Vals (g.map V.str) us → ReadsAll h us (g.map .str) []
  | _, [], .nil => .nil
  | _, x :: g, .cons r t => by
    obtain ⟨tk, rfl⟩ := r
    exact ReadsAll.cons (as := []) (Reads.str x tk) (strs_reads (prog := prog) (w := w) t)
def rSortedVN (P : Program) (w : World) : List V → Hp → VK → Prop := fun vs H Q => ∃ (p a : Addr) (xs : List NE) (gs : List (List Str)), vs = [.ref p] ∧ H p = some (valsO p a) ∧ H a = some (NDO P w a xs) ∧
  Paired (fun (e : NE) (g : List Str) => ∃ q, e.2.2 = .ref q ∧ H q = some (.lst (g.map V.str))) xs gs ∧ Firsts gs ∧ gs.length ≤ 100000 ∧ ∀ L, H L = none → Q (.ref L) (upd H L (.lst (xs.map (·.2.2))))
theorem each_zip {α β : Type} {R : α → β → Prop} : ∀ {l : List α} {k : List β}, Paired R l k → PySem.W.EachIs (fun a (b : β × α) => a = b.2 ∧ R a b.1) l (k.zip l)
  | _, _, .nil => .nil
  | _, _, .cons h t => .cons ⟨rfl, h⟩ (each_zip t)
theorem each_imp {α β : Type} {R S : α → β → Prop} (f : ∀ a b, R a b → S a b) : ∀ {l : List α} {k : List β}, PySem.W.EachIs R l k → PySem.W.EachIs S l k
  | _, _, .nil => .nil
  | _, _, .cons h t => .cons (f _ _ h) (each_imp f t)
theorem each_snd {α β : Type} : ∀ {l : List α} {k : List (β × α)}, PySem.W.EachIs (fun a (b : β × α) => a = b.2) l k → l = k.map (·.2)
  | _, _, .nil => rfl
  | _, _, .cons h t => by rw [List.map_cons, ← h, ← each_snd t]
theorem call_sortedVN {P : Program} {w : World} (hP : X.prog = P) (hw : X.w = w) (hc : X.calm = true) (hu : X.A.units + 64 < cLine) : CallR X (.builtin "sorted") (rSortedVN P w) := by
  subst hP hw
  intro pins s σ H vs us Q I r h
  obtain ⟨p, a, xs, gs, rfl, hp, ha, hg, ho, h1000, q⟩ := h
  obtain ⟨u, rfl, ru⟩ := vals1 r
  obtain rfl : u = Value.ref p := ru
  obtain ⟨hs, es, ep, raw, sz, ent⟩ := nd_raw I ha
  have hv : s.heap.IsValuesView p a := (I.hok p _ hp).1
  have lg := awLen hg
  have hz : es.size ≤ sizeLine := by rw [sizeLine_eq]; omega
  refine Calls.call_function_entry PyProof.Rows.kind_sorted PyProof.Rows.plain_sorted PyProof.Rows.entry_sorted (PyProof.Rows.args_sorted1 _) ?_
  unfold Builtin.«sorted»
  refine wpAny_bind (m := checkCount "sorted" 1 1 _) (wpAny_pure ?_)
  refine wpAny_bind (PySem.W.kdu_collect (A := X.A.in1) (PySem.KdlSrc.rawValues (es := es) (ep := ep)) (I.ok.hd hc) ⟨hv, raw⟩ hz fun h' tk acc hk hacc => ?_)
  have hal : acc.toList.length = es.size := by rw [Array.length_toList, hacc.1]
  have I1 : Inv X pins σ H { s with heap := h', toks := tk } := I.kept hk
  -- the values, each with what it is
  have rvs : Paired RelV (xs.map (·.2.2)) acc.toList := by
    refine prOf (by rw [List.length_map]; omega) fun i x u hx hu => ?_
    obtain ⟨hi, rfl⟩ := hacc.2 i u (by rw [← Array.getElem?_toList]; exact hu)
    obtain ⟨e, he, re⟩ := ent i hi
    rw [List.getElem?_map, he] at hx
    obtain rfl := Option.some.inj hx
    exact re
  have pr : Paired (fun (u : Value) (g : List Str) => ∃ q, u = .ref q ∧ H q = some (.lst (g.map V.str))) acc.toList gs := by
    refine prOf (by omega) fun i u g hu hgi => ?_
    obtain ⟨e, he, q', e1, e2⟩ := awGet2 hg hgi
    obtain ⟨u', hu', ru'⟩ := awGet rvs (show (xs.map (·.2.2))[i]? = some e.2.2 by rw [List.getElem?_map, he]; rfl)
    rw [hu] at hu'
    obtain rfl := Option.some.inj hu'
    rw [e1] at ru'
    exact ⟨q', ru', e2⟩
  refine wpAny_bind (wpAny_newList ?_ (by rw [hal]; exact hz))
  generalize hh2 : h'.push (seqObj "list" acc.toList.toArray 0) = h2
  have hoL : h2.get? h'.objs.size = some (seqObj "list" acc.toList.toArray 0) := by rw [← hh2]; exact Heap.get?_push_size _ rfl
  have k2 : ∀ b o, h'.get? b = some o → h2.get? b = some o := fun b o e => by rw [← hh2]; exact Heap.get?_push_of_some _ e
  show wpAny _ _ _ _ _ { s with heap := h2, toks := tk }
  have ez := each_zip pr
  have el : (gs.zip acc.toList).length = es.size := by rw [List.length_zip]; omega
  have srt : (gs.zip acc.toList).mergeSort (PySem.W.dataLe false fun b : List Str × Value => .list (b.1.map .str)) = gs.zip acc.toList := by
    refine List.mergeSort_of_pairwise ?_
    rw [PySem.W.dataLe_eq]
    have hf : (gs.zip acc.toList).map (·.1) = gs := List.map_fst_zip (by omega)
    have ho' : ((gs.zip acc.toList).map (·.1)).Pairwise fun g h => ∃ x r y s, g = x :: r ∧ h = y :: s ∧ sLt x y := by rw [hf]; exact ho
    rw [List.pairwise_map] at ho'
    refine ho'.imp fun {b b'} e => ?_
    show (!PySem.W.dataLt _ _) = true
    rw [firsts_lt e]
    rfl
  refine wpAny_bind (wpAny_holding (PySem.W.list_sort_data (s := { s with heap := h2, toks := tk }) (enc := fun b : List Str × Value => .list (b.1.map .str)) (bs := gs.zip acc.toList) (R := fun v b => v = b.2) hoL (each_imp (fun _ _ e => e.1) ez) (each_imp (fun u b e => ?_) ez) (.of fun b b' => ?_) (.others fun b => ⟨(fun z => nomatch z), (fun _ z => nomatch z)⟩) (by rw [el]; exact hz) (fun b _ => ?_) fun out hl eo => ?_))
  · obtain ⟨_, q', e1, e2⟩ := e
    subst e1
    obtain ⟨_, its, n, rv, hob⟩ := (show ObjOk X.prog X.w H _ q' (.lst (b.1.map V.str)) from I1.hok q' _ e2)
    refine ⟨_, Reads.list (k2 _ _ hob) rfl rfl (by simpa using strs_reads (prog := X.prog) (w := X.w) (h := h2) rv), ?_⟩
    rw [List.mem_singleton]
    exact (Nat.ne_of_lt (Heap.lt_size hob)).symm
  · show PySem.W.alike (.list _) (.list _) = true
    rw [PySem.W.alike]
    exact alike_strs _ _
  · show X.A.in1.units + 1 + PyData.depth (.list _) < cLine
    rw [PyData.depth, depth_strs]
    show X.A.units + 1 + 1 + _ < cLine
    omega
  · rw [srt] at eo
    have eout : out = acc.toList := by
      rw [each_snd eo]
      exact List.map_snd_zip (by omega)
    subst eout
    obtain ⟨e', he'⟩ := PyProof.Rows.sortedHeap_at (vs := acc.toList) (out := acc.toList.toArray) hoL
    have hlen : (xs.map (·.2.2)).length ≤ sizeLine := by rw [List.length_map, sizeLine_eq]; omega
    refine wpAny_pure ⟨_, rfl, .ref h'.objs.size, upd H h'.objs.size (.lst (xs.map (·.2.2))), I1.laid (t' := tk) (fun b u e => ?_) (Nat.le_refl _)
      (show ObjOk X.prog X.w _ _ _ (.lst (xs.map (·.2.2))) from ⟨hlen, acc.toList, e', rvs, he'⟩), rfl, q _ (I1.hok.fresh (Nat.le_refl _))⟩
    have hb : b < h'.objs.size := Heap.lt_size e
    rw [PyProof.Rows.sortedHeap_old (Nat.ne_of_lt hb) (by rw [← hh2, size_push']; exact Nat.lt_succ_of_lt hb)]
    exact k2 _ _ e
end ndc
abbrev sWalk___init__ : Stmt := inClass c_Walk 0
abbrev sWalk_meet : Stmt := inClass c_Walk 1
theorem scWi : FnScope ["self", "first"] ["self", "first"] (defScope sWalk___init__) := ⟨rfl, rfl, rfl, by decide +kernel, rfl, by decide +kernel, by decide +kernel⟩
theorem scWm : FnScope ["self", "thing", "ahead", "bits"] ["self", "thing", "ahead", "bits"] (defScope sWalk_meet) := ⟨rfl, rfl, rfl, by decide +kernel, rfl, by decide +kernel, by decide +kernel⟩
theorem w_mn : ¬ ("met" : Str) = "numbers" := by decide +kernel
theorem w_mw : ¬ ("met" : Str) = "ways" := by decide +kernel
theorem w_nw : ¬ ("numbers" : Str) = "ways" := by decide +kernel
def wF (M N W : Addr) : List (Str × V) := putF "ways" (.ref W) (putF "numbers" (.ref N) (putF "met" (.ref M) []))
theorem wF_met (M N W : Addr) : (wF M N W).lookup ("met" : Str) = some (.ref M) := by
  unfold wF
  rw [lookup_putF, if_neg w_mw, lookup_putF, if_neg w_mn, lookup_putF, if_pos rfl]
theorem wF_num (M N W : Addr) : (wF M N W).lookup ("numbers" : Str) = some (.ref N) := by
  unfold wF
  rw [lookup_putF, if_neg w_nw, lookup_putF, if_pos rfl]
theorem wF_ways (M N W : Addr) : (wF M N W).lookup ("ways" : Str) = some (.ref W) := by
  unfold wF
  rw [lookup_putF, if_pos rfl]
theorem wF_no (M N W : Addr) {m : Str} (h1 : ¬ m = "ways") (h2 : ¬ m = "numbers") (h3 : ¬ m = "met") : (wF M N W).lookup m = none := by
  unfold wF
  rw [lookup_putF, if_neg h1, lookup_putF, if_neg h2, lookup_putF, if_neg h3]
  rfl
theorem wF_meet (M N W : Addr) : (wF M N W).lookup ("meet" : Str) = none := wF_no M N W (by decide +kernel) (by decide +kernel) (by decide +kernel)
structure WCls (K : PySem.W.Frag) (mg : Str → Option Value) (C : Addr) : Prop where
  cl : Cls K C
  nM : NoAttr K C "met"
  nN : NoAttr K C "numbers"
  nW : NoAttr K C "ways"
  mgC : mg "Walk" = some (.ref C)
abbrev WT := NestedKey × Addr
def numE (ts : List WT) : List NE := ts.mapIdx fun i t => (t.1, t.2, .int (i : Nat))
theorem numE_snoc (ts : List WT) (t : WT) : numE (ts ++ [t]) = numE ts ++ [(t.1, t.2, .int (ts.length : Nat))] := by
  unfold numE
  rw [List.mapIdx_append]
  simp
theorem numE_len (ts : List WT) : (numE ts).length = ts.length := List.length_mapIdx ..
theorem numE_mem {ts : List WT} {e : NE} (h : e ∈ numE ts) : ∃ i t, ts[i]? = some t ∧ e = (t.1, t.2, .int (i : Nat)) := by
  obtain ⟨i, hi, rfl⟩ := List.mem_mapIdx.mp h
  exact ⟨i, ts[i], List.getElem?_eq_getElem hi, rfl⟩
theorem numE_some {ts : List WT} {i : Nat} {k : NestedKey} {b : Addr} (nd : (ts.map (·.1)).Nodup) (h : ts[i]? = some (k, b)) : getN (numE ts) k = some (.int (i : Nat)) := by
  cases e : getN (numE ts) k with
  | none =>
    exfalso
    have hi := (List.getElem?_eq_some_iff.mp h).1
    have := getN_none.mp e (k, b, .int (i : Nat)) (List.mem_mapIdx.mpr ⟨i, hi, by rw [List.getElem?_eq_getElem hi] at h; rw [Option.some.inj h]⟩)
    exact this rfl
  | some v =>
    obtain ⟨c, hc⟩ := getN_some e
    obtain ⟨j, t, ht, he⟩ := numE_mem hc
    have e1 : t.1 = k := (Prod.mk.inj he).1.symm
    have e2 : v = .int (j : Nat) := (Prod.mk.inj (Prod.mk.inj he).2).2
    have ij : i = j := by
      have a1 : (ts.map (·.1))[i]? = some k := by rw [List.getElem?_map, h]; rfl
      have a2 : (ts.map (·.1))[j]? = some k := by rw [List.getElem?_map, ht, ← e1]; rfl
      exact (List.getElem?_inj (List.getElem?_eq_some_iff.mp a1).1 nd).mp (a1.trans a2.symm)
    rw [e2, ij]
abbrev WayAt (H : Hp) : List Addr → List (Int × List Int) → Prop := Paired fun q e => ∃ bb, H q = some (.tup [.int e.1, .ref bb]) ∧ H bb = some (.tup (e.2.map V.int))
structure WalkAt (P : Program) (w : World) (C : Addr) (H : Hp) (p M N W : Addr) (ts : List WT) (wy : List (Int × List Int)) : Prop where
  ob : ∃ dx, H p = some (.ins C dx (wF M N W))
  met : H M = some (.lst (ts.map fun t => V.ref t.2))
  num : ND P w H N (numE ts)
  ways : ∃ ws, H W = some (.lst (ws.map V.ref)) ∧ WayAt H ws wy
  nd : (ts.map (·.1)).Nodup
  keys : ∀ t ∈ ts, KeyN H (.ref t.2) t.1
  len : wy.length = ts.length
  nMW : M ≠ W
theorem keyn_stay {H H' : Hp} (t : TupsStay H H') {y : V} {k : NestedKey} (h : KeyN H y k) : KeyN H' y k := ⟨nk_stay t _ _ h.1, h.2⟩
theorem WalkAt.stay {C : Addr} {H H' : Hp} {p M N W : Addr} {ts : List WT} {wy : List (Int × List Int)} (h : WalkAt P w C H p M N W ts wy) (t : TupsStay H H') (k : ∀ c o, (c = p ∨ c = M ∨ c = N ∨ c = W) → H c = some o → H' c = some o) : WalkAt P w C H' p M N W ts wy := by
  obtain ⟨⟨dx, ob⟩, met, num, ⟨ws, e1, e2⟩, nd, keys, len, ne⟩ := h
  exact ⟨⟨dx, k _ _ (.inl rfl) ob⟩, k _ _ (.inr (.inl rfl)) met, nd_stay num (k _ _ (.inr (.inr (.inl rfl))) num.ob) t, ⟨ws, k _ _ (.inr (.inr (.inr rfl))) e1, awMap (fun q e z => z.elim fun bb y => ⟨bb, t _ _ y.1, t _ _ y.2⟩) e2⟩, nd, fun x hx => keyn_stay t (keys x hx), len, ne⟩
theorem WalkAt.same {C : Addr} {H H' : Hp} {p M N W : Addr} {ts : List WT} {wy : List (Int × List Int)} (h : WalkAt P w C H p M N W ts wy) (s : Same H H') : WalkAt P w C H' p M N W ts wy := h.stay (Same.tups s) fun c o _ e => s c o e
def spWi (P : Program) (w : World) (C : Addr) : Sp := fun vs H Q _ => ∃ (p dx b : Addr) (k : NestedKey), vs = [.ref p, .ref b] ∧ H p = some (.ins C dx []) ∧ KeyN H (.ref b) k ∧
  ∀ H' M N W, WalkAt P w C H' p M N W [(k, b)] [(0, [])] → H M = none → H N = none → H W = none → (∀ c o, c ≠ p → H c = some o → H' c = some o) → Q .non H'
theorem ok_wi {f C : Addr} {fd : FuncData} {k : Nat} (F : Fun K "__init__" "Walk.__init__" sWalk___init__ f fd) (T : WCls K mg C) : FnOk P w K mg base CX0 (k + 1) f fd ["self", "first"] (spWi P w C) := by
  refine F.ok scWi (fun vs H Q E h => ?_) (fun cdv A outer s H vs Q E hr h => ?_)
  · obtain ⟨p, dx, b, k, rfl, _⟩ := h
    rfl
  · obtain ⟨p, dx, b, key, rfl, hp, hk, q⟩ := h
    refine ⟨_, pss_cons (ps_fld (pv 0) (pe_lst (pa_cons (pv 1) pa_nil)) rfl)
      (pss_cons (ps_fld (pv 0) (pe_ndisp (P := P) (w := w) rfl rfl hr.units (pv 1) pe_int) rfl)
      (pss_one (ps_fld (pv 0) (pe_lst (pa_cons (pe_tup (pa_cons pe_int (pa_cons (pe_tup pa_nil) pa_nil))) pa_nil)) rfl))), ?_⟩
    refine ⟨.ref b, rfl, by show 1 ≤ sizeLine; decide, fun M hM => ?_⟩
    have sM := same_new (o := .lst [.ref b]) hM
    have npM : p ≠ M := ne_of_none hp hM
    refine ⟨.ref p, rfl, p, C, dx, [], rfl, sM _ _ hp, T.cl, T.nM, (by show 0 < 1000; decide), ?_⟩
    -- the heap with met
    have t1 : TupsStay H (upd (upd H M (.lst [.ref b])) p (.ins C dx (putF "met" (.ref M) []))) := fun c xs e => by
      rw [upd_ne (ne_of e hp (fun z => nomatch z))]
      exact sM _ _ e
    have k1 : ∀ c o, c ≠ p → H c = some o → upd (upd H M (.lst [.ref b])) p (.ins C dx (putF "met" (.ref M) [])) c = some o := fun c o n e => by
      rw [upd_ne n]
      exact sM _ _ e
    have ep1 : upd (upd H M (.lst [.ref b])) p (.ins C dx (putF "met" (.ref M) [])) p = some (.ins C dx (putF "met" (.ref M) [])) := upd_same
    have eM1 : upd (upd H M (.lst [.ref b])) p (.ins C dx (putF "met" (.ref M) [])) M = some (.lst [.ref b]) := by
      rw [upd_ne npM.symm]
      exact upd_same
    generalize upd (upd H M (.lst [.ref b])) p (.ins C dx (putF "met" (.ref M) [])) = H1 at t1 k1 ep1 eM1
    intro N hN
    have sN := same_new (o := NDO P w N []) hN
    have npN : p ≠ N := ne_of_none ep1 hN
    have nMN : M ≠ N := ne_of_none eM1 hN
    refine ⟨.ref b, rfl, b, key, rfl, keyn_stay (t1.trans (Same.tups sN)) hk, upd_same, ?_⟩
    rw [upd_upd]
    have sN2 := same_new (o := NDO P w N [(key, b, .int 0)]) hN
    refine ⟨.ref p, rfl, p, C, dx, _, rfl, sN2 _ _ ep1, T.cl, T.nN, (by show 1 < 1000; decide), ?_⟩
    have k2 : ∀ c o, c ≠ p → H1 c = some o → upd (upd H1 N (NDO P w N [(key, b, .int 0)])) p (.ins C dx (putF "numbers" (.ref N) (putF "met" (.ref M) []))) c = some o := fun c o n e => by
      rw [upd_ne n]
      exact sN2 _ _ e
    have t2 : TupsStay H1 (upd (upd H1 N (NDO P w N [(key, b, .int 0)])) p (.ins C dx (putF "numbers" (.ref N) (putF "met" (.ref M) [])))) := fun c xs e => k2 c _ (ne_of e ep1 (fun z => nomatch z)) e
    have ep2 : upd (upd H1 N (NDO P w N [(key, b, .int 0)])) p (.ins C dx (putF "numbers" (.ref N) (putF "met" (.ref M) []))) p = some (.ins C dx (putF "numbers" (.ref N) (putF "met" (.ref M) []))) := upd_same
    have eN2 : upd (upd H1 N (NDO P w N [(key, b, .int 0)])) p (.ins C dx (putF "numbers" (.ref N) (putF "met" (.ref M) []))) N = some (NDO P w N [(key, b, .int 0)]) := by
      rw [upd_ne npN.symm]
      exact upd_same
    generalize upd (upd H1 N (NDO P w N [(key, b, .int 0)])) p (.ins C dx (putF "numbers" (.ref N) (putF "met" (.ref M) []))) = H2 at k2 t2 ep2 eN2
    have eM2 := k2 _ _ npM.symm eM1
    refine ⟨by show 0 ≤ sizeLine; decide, fun E0 hE0 => ⟨by show 2 ≤ sizeLine; decide, fun T0 hT0 => ⟨by show 1 ≤ sizeLine; decide, fun W hW => ?_⟩⟩⟩
    have s1 := same_new (o := .tup []) hE0
    have s2 := same_new (o := .tup [.int 0, .ref E0]) hT0
    have s3 := same_new (o := .lst [.ref T0]) hW
    have s123 := (s1.trans s2).trans s3
    have npW : p ≠ W := ne_of_none ((s1.trans s2) _ _ ep2) hW
    have nMW : M ≠ W := ne_of_none ((s1.trans s2) _ _ eM2) hW
    have nNW : N ≠ W := ne_of_none ((s1.trans s2) _ _ eN2) hW
    refine ⟨.ref p, rfl, p, C, dx, _, rfl, s123 _ _ ep2, T.cl, T.nW, (by show 2 < 1000; decide), ?_⟩
    have k3 : ∀ c o, c ≠ p → H2 c = some o → upd (upd (upd (upd H2 E0 (.tup [])) T0 (.tup [.int 0, .ref E0])) W (.lst [.ref T0])) p (.ins C dx (putF "ways" (.ref W) (putF "numbers" (.ref N) (putF "met" (.ref M) [])))) c = some o := fun c o n e => by
      rw [upd_ne n]
      exact s123 _ _ e
    have t3 : TupsStay H2 (upd (upd (upd (upd H2 E0 (.tup [])) T0 (.tup [.int 0, .ref E0])) W (.lst [.ref T0])) p (.ins C dx (putF "ways" (.ref W) (putF "numbers" (.ref N) (putF "met" (.ref M) []))))) := fun c xs e => k3 c _ (ne_of e ep2 (fun z => nomatch z)) e
    have tA := (t1.trans t2).trans t3
    refine q _ M N W ⟨⟨dx, upd_same⟩, k3 _ _ npM.symm eM2, ⟨k3 _ _ npN.symm eN2, fun e he => ?_⟩, ⟨[T0], ?_, .cons ⟨E0, ?_, ?_⟩ .nil⟩, by simp, fun x hx => ?_, rfl, nMW⟩ hM ?_ ?_ fun c o n e => k3 c o n (k2 c o n (k1 c o n e))
    · rw [List.mem_singleton.mp he]
      exact ⟨nk_stay tA _ _ hk.1, hk.2.1⟩
    · rw [upd_ne npW.symm]
      exact upd_same
    · have : T0 ≠ p := fun z => by rw [z] at hT0; rw [s1 _ _ ep2] at hT0; cases hT0
      rw [upd_ne this]
      exact s3 _ _ upd_same
    · have : E0 ≠ p := fun z => by rw [z, ep2] at hE0; cases hE0
      rw [upd_ne this]
      exact s3 _ _ (s2 _ _ upd_same)
    · rw [List.mem_singleton.mp hx]
      exact keyn_stay tA hk
    · cases e : H N with
      | none => rfl
      | some o =>
        by_cases z : N = p
        · exact absurd z npN.symm
        · rw [k1 _ _ z e] at hN
          cases hN
    · cases e : H W with
      | none => rfl
      | some o =>
        by_cases z : W = p
        · exact absurd z npW.symm
        · rw [(s1.trans s2) _ _ (k2 _ _ z (k1 _ _ z e))] at hW
          cases hW
def spWm (P : Program) (w : World) (C : Addr) : Sp := fun vs H Q _ => ∃ (p M N W b bb : Addr) (ts : List WT) (wy : List (Int × List Int)) (k : NestedKey) (ah : Int) (bs : List Int), vs = [.ref p, .ref b, .int ah, .ref bb] ∧ WalkAt P w C H p M N W ts wy ∧ KeyN H (.ref b) k ∧ H bb = some (.tup (bs.map V.int)) ∧ ts.length ≤ 1000000 ∧
  ∀ H' ts' wy' i, WalkAt P w C H' p M N W ts' wy' → (∃ b', ts'[i]? = some (k, b')) → ((ts' = ts ∧ wy' = wy) ∨ (ts' = ts ++ [(k, b)] ∧ wy' = wy ++ [(ah, bs)] ∧ i = ts.length ∧ ∀ t ∈ ts, t.1 ≠ k)) → (∀ c o, c ≠ M → c ≠ N → c ≠ W → H c = some o → H' c = some o) → Q (.int (i : Nat)) H'
theorem ok_wm {f C : Addr} {fd : FuncData} {k : Nat} (F : Fun K "meet" "Walk.meet" sWalk_meet f fd) (T : WCls K mg C) (mn : mg "len" = none) : FnOk P w K mg base CX0 (k + 1) f fd ["self", "thing", "ahead", "bits"] (spWm P w C) := by
  refine F.ok scWm (fun vs H Q E h => ?_) (fun cdv A outer s H vs Q E hr h => ?_)
  · obtain ⟨p, M, N, W, b, bb, ts, wy, k, ah, bs, rfl, _⟩ := h
    rfl
  · obtain ⟨p, M, N, W, b, bb, ts, wy, key, ah, bs, rfl, hw, hk, hbb, hl, q⟩ := h
    refine ⟨_, pss_mid (ps_if (pt_cmp (pc_ndnotin (P := P) (w := w) rfl rfl hr.units (pv 1) (pe_fld (pv 0) rfl)))
        (pss_cons (ps_ndput (P := P) (w := w) rfl rfl hr.units (pe_fld (pv 0) rfl) (pv 1) (pe_callB call_len_seq (by rfl) mn PySem.boot_len (pa_cons (pe_fld (pv 0) rfl) pa_nil)) rfl)
        (pss_cons (ps_expr (pe_bm PySem.F.plainAttrs_list PySem.F.slot_list_append PySem.F.type_list_append mt_append (pe_fld (pv 0) rfl) (pa_cons (pv 1) pa_nil)))
        (pss_one (ps_expr (pe_bm PySem.F.plainAttrs_list PySem.F.slot_list_append PySem.F.type_list_append mt_append (pe_fld (pv 0) rfl) (pa_cons (pe_tup (pa_cons (pv 2) (pa_cons (pv 3) pa_nil))) pa_nil)))))) pss_nil)
      (pss_one (ps_ret (pe_ndget (P := P) (w := w) rfl rfl hr.units (pe_fld (pv 0) rfl) (pv 1) (fun _ _ => rfl)))), ?_⟩
    obtain ⟨⟨dx, ob⟩, met, num, ⟨ws, ways, wat⟩, nd, keys, len, nMW⟩ := id hw
    have npM : p ≠ M := ne_of ob met (fun z => nomatch z)
    have npN : p ≠ N := ne_of ob num.ob (fun z => nomatch z)
    have npW : p ≠ W := ne_of ob ways (fun z => nomatch z)
    have nMN : M ≠ N := ne_of met num.ob (fun z => nomatch z)
    have nNW : N ≠ W := ne_of num.ob ways (fun z => nomatch z)
    have sl : (1000000 : Nat) < sizeLine := by rw [sizeLine_eq]; decide
    refine ⟨fun σ2 H2 => ∃ ts' wy' i, σ2 = [some (.ref p), some (.ref b), some (.int ah), some (.ref bb)] ∧ WalkAt P w C H2 p M N W ts' wy' ∧ (∃ b', ts'[i]? = some (key, b')) ∧ ((ts' = ts ∧ wy' = wy) ∨ (ts' = ts ++ [(key, b)] ∧ wy' = wy ++ [(ah, bs)] ∧ i = ts.length ∧ ∀ t ∈ ts, t.1 ≠ key)) ∧ (∀ c o, c ≠ M → c ≠ N → c ≠ W → H c = some o → H2 c = some o), ?_, ?_⟩
    · refine ⟨.ref b, rfl, .ref p, rfl, p, C, dx, _, _, rfl, ob, T.cl, T.nN, wF_num _ _ _, N, _, key, rfl, num, hk, _, rfl, ?_⟩
      cases e : getN (numE ts) key with
      | some v =>
        refine iteF ?_
        obtain ⟨c, hc⟩ := getN_some e
        obtain ⟨i, t, ht, he⟩ := numE_mem hc
        have e1 : t.1 = key := (Prod.mk.inj he).1.symm
        exact ⟨ts, wy, i, rfl, hw, ⟨t.2, by rw [ht, ← e1]⟩, .inl ⟨rfl, rfl⟩, fun c o _ _ _ z => z⟩
      | none =>
        refine iteT ?_
        have fresh : ∀ t ∈ ts, t.1 ≠ key := fun t ht z => by
          obtain ⟨i, hi⟩ := List.mem_iff_getElem?.mp ht
          have : ts[i]? = some (key, t.2) := by rw [hi, ← z]
          rw [numE_some nd this] at e
          cases e
        have nl : (numE ts).length < sizeLine := by rw [numE_len]; omega
        refine ⟨.ref p, rfl, p, C, dx, _, _, rfl, ob, T.cl, T.nM, wF_met _ _ _, M, _, rfl, .inl (.inl (.inl met)), .ref p, rfl, p, C, dx, _, _, rfl, ob, T.cl, T.nN, wF_num _ _ _, .ref b, rfl, N, _, key, b, rfl, num, rfl, hk, e, nl, ?_⟩
        have ml : ((ts.map fun t => V.ref t.2).length : Int) = ((ts.length : Nat) : Int) := by rw [List.length_map]
        rw [ml]
        have num1 := nd_put (v := .int ((ts.length : Nat) : Int)) num hk
        rw [← numE_snoc ts (key, b)] at num1 ⊢
        have k1 : ∀ c o, c ≠ N → H c = some o → upd H N (NDO P w N (numE (ts ++ [(key, b)]))) c = some o := fun c o n z => by
          rw [upd_ne n]
          exact z
        have t1 : TupsStay H (upd H N (NDO P w N (numE (ts ++ [(key, b)])))) := fun c xs z => k1 c _ (ne_of z num.ob (fun y => nomatch y)) z
        generalize upd H N (NDO P w N (numE (ts ++ [(key, b)]))) = H1 at num1 k1 t1
        have ob1 := k1 _ _ npN ob
        have met1 := k1 _ _ nMN met
        refine ⟨.ref p, rfl, p, C, dx, _, _, rfl, ob1, T.cl, T.nM, wF_met _ _ _, .inl ⟨rfl, _, .inl (.inl met1)⟩, .ref b, rfl, M, _, _, rfl, rfl, met1, ?_, ?_⟩
        · rw [List.length_map]
          omega
        have e2 : (ts.map fun t => V.ref t.2) ++ [V.ref b] = (ts ++ [(key, b)]).map fun t => V.ref t.2 := by rw [List.map_append]; rfl
        rw [e2]
        have k2 : ∀ c o, c ≠ M → H1 c = some o → upd H1 M (.lst ((ts ++ [(key, b)]).map fun t => V.ref t.2)) c = some o := fun c o n z => by
          rw [upd_ne n]
          exact z
        have t2 : TupsStay H1 (upd H1 M (.lst ((ts ++ [(key, b)]).map fun t => V.ref t.2))) := fun c xs z => k2 c _ (ne_of z met1 (fun y => nomatch y)) z
        have met2 : upd H1 M (.lst ((ts ++ [(key, b)]).map fun t => V.ref t.2)) M = some (.lst ((ts ++ [(key, b)]).map fun t => V.ref t.2)) := upd_same
        generalize upd H1 M (.lst ((ts ++ [(key, b)]).map fun t => V.ref t.2)) = H2 at k2 t2 met2
        have ob2 := k2 _ _ npM ob1
        have ways2 := k2 _ _ nMW.symm (k1 _ _ nNW.symm ways)
        refine ⟨.ref p, rfl, p, C, dx, _, _, rfl, ob2, T.cl, T.nW, wF_ways _ _ _, .inl ⟨rfl, _, .inl (.inl ways2)⟩, .int ah, rfl, .ref bb, rfl, by show 2 ≤ sizeLine; decide, fun U hU => ?_⟩
        have sU := same_new (o := .tup [.int ah, .ref bb]) hU
        have wl := awLen wat
        refine ⟨W, _, _, rfl, rfl, sU _ _ ways2, ?_, ?_⟩
        · rw [List.length_map]
          omega
        have e3 : ws.map V.ref ++ [V.ref U] = (ws ++ [U]).map V.ref := by rw [List.map_append]; rfl
        rw [e3]
        have k3 : ∀ c o, c ≠ W → H2 c = some o → upd (upd H2 U (.tup [.int ah, .ref bb])) W (.lst ((ws ++ [U]).map V.ref)) c = some o := fun c o n z => by
          rw [upd_ne n]
          exact sU _ _ z
        have t3 : TupsStay H2 (upd (upd H2 U (.tup [.int ah, .ref bb])) W (.lst ((ws ++ [U]).map V.ref))) := fun c xs z => k3 c _ (ne_of z ways2 (fun y => nomatch y)) z
        have tA := (t1.trans t2).trans t3
        have nUW : U ≠ W := fun z => by rw [z, ways2] at hU; cases hU
        have eU3 : upd (upd H2 U (.tup [.int ah, .ref bb])) W (.lst ((ws ++ [U]).map V.ref)) U = some (.tup [.int ah, .ref bb]) := by
          rw [upd_ne nUW]
          exact upd_same
        have eW3 : upd (upd H2 U (.tup [.int ah, .ref bb])) W (.lst ((ws ++ [U]).map V.ref)) W = some (.lst ((ws ++ [U]).map V.ref)) := upd_same
        generalize upd (upd H2 U (.tup [.int ah, .ref bb])) W (.lst ((ws ++ [U]).map V.ref)) = H3 at k3 t3 tA eU3 eW3
        refine ⟨ts ++ [(key, b)], wy ++ [(ah, bs)], ts.length, rfl, ⟨⟨dx, k3 _ _ npW ob2⟩, k3 _ _ nMW met2, nd_stay num1 (k3 _ _ nNW (k2 _ _ nMN.symm num1.ob)) (t2.trans t3), ⟨ws ++ [U], eW3, ?_⟩, ?_, fun x hx => ?_, ?_, nMW⟩, ⟨b, ?_⟩, .inr ⟨rfl, rfl, rfl, fresh⟩, fun c o n1 n2 n3 z => k3 _ _ n3 (k2 _ _ n1 (k1 _ _ n2 z))⟩
        · exact awSnoc (F := fun (q : Addr) (e : Int × List Int) => ∃ bb, H3 q = some (.tup [.int e.1, .ref bb]) ∧ H3 bb = some (.tup (e.2.map V.int))) ⟨bb, eU3, tA _ _ hbb⟩ (awMap (fun q e z => z.elim fun bb y => ⟨bb, tA _ _ y.1, tA _ _ y.2⟩) wat)
        · rw [List.map_append, List.nodup_append]
          refine ⟨nd, by simp, fun x hx y hy => ?_⟩
          obtain ⟨t, ht, rfl⟩ := List.mem_map.mp hx
          rw [List.mem_singleton.mp hy]
          exact fresh t ht
        · rcases List.mem_append.mp hx with hx | hx
          · exact keyn_stay tA (keys x hx)
          · rw [List.mem_singleton.mp hx]
            exact keyn_stay tA hk
        · rw [List.length_append, List.length_append, len]
          rfl
        · rw [List.getElem?_append_right (Nat.le_refl _), Nat.sub_self]
          rfl
    · rintro σ2 H2 ⟨ts', wy', i, rfl, hw2, ⟨b', hb'⟩, hcase, kp⟩
      obtain ⟨⟨dx2, ob2⟩, _, num2, _, nd2, _⟩ := id hw2
      have tS : TupsStay H H2 := fun c xs z => kp c _ (ne_of z met (fun y => nomatch y)) (ne_of z num.ob (fun y => nomatch y)) (ne_of z ways (fun y => nomatch y)) z
      exact ⟨.ref p, rfl, p, C, dx2, _, _, rfl, ob2, T.cl, T.nN, wF_num _ _ _, .ref b, rfl, N, _, key, .int (i : Nat), rfl, num2, keyn_stay tS hk, numE_some nd2 hb', q H2 ts' wy' i hw2 ⟨b', hb'⟩ hcase kp⟩
section lz
variable {A : Around} {E : Value → Shared → Prop} {s : Shared}
abbrev IsZ (h : Heap) (z TI TO : Addr) (f0 : Value) (b : Bool) : Prop := h.get? z = some { cls := .type "zip", dict := none, data := .fields #[f0, .bool b, .bool false, .ref TI, .ref TO], slots := #[] }
theorem z_free {z TI TO T : Addr} {f : Bool} {oT : Obj} {Q : Bool → Shared → Prop} (hz : IsZ s.heap z TI TO (rawInt T) f) (hT : s.heap.get? T = some oT) (q : ∀ h', IsZ h' z TI TO (rawInt T) true → Heap.SameBut z s.heap h' → Q false { s with heap := h' }) :
    wpAny (model P w) A (Builtin.SmallTypes.ownedTupleIsFree (.ref z)) Q E s := by
  unfold Builtin.SmallTypes.ownedTupleIsFree
  apply wpAny_bind
  refine wpAny_field hz rfl (x := rawInt T) rfl ?_
  show wpAny _ _ (loadIfAlive ((T : Int).toNat) >>= _) _ _ _
  rw [Int.toNat_natCast]
  apply wpAny_bind
  refine PySem.W.kdx_alive hT ?_
  simp only [Option.isNone_some, Bool.false_eq_true, if_false]
  apply wpAny_bind
  refine wpAny_field hz rfl (x := .bool f) rfl ?_
  cases f with
  | true =>
    rw [if_neg (show ¬ ((Value.bool true != Value.bool true) = true) from Bool.false_ne_true)]
    exact wpAny_pure (q s.heap hz (Heap.SameBut.refl _ _))
  | false =>
    rw [if_pos (show (Value.bool false != Value.bool true) = true from rfl)]
    apply wpAny_bind
    exact wpAny_setField_rec hz (by simp) fun h' hz' hs' => wpAny_pure (q h' hz' hs')
theorem z_next_out {z TI TO i1 i2 l1 l2 T : Addr} {k1 k2 : Nat} {xs ys : Array Value} {x y : Value} {f : Bool} {oT : Obj} {Q : Value → Shared → Prop} (D : ZipApart z TI TO i1 i2 l1 l2) (hz : IsZ s.heap z TI TO (rawInt T) f) (hT : s.heap.get? T = some oT)
    (hTI : IsPair s.heap TI (.ref i1) (.ref i2)) (h1 : s.heap.IsListIter i1 l1 k1) (h2 : s.heap.IsListIter i2 l2 k2) (hl1 : s.heap.IsList l1 xs) (hl2 : s.heap.IsList l2 ys) (hx : xs[k1]? = some x) (hy : ys[k2]? = some y)
    (q : ∀ h', IsZ h' z TI TO (rawInt T) true → h'.IsListIter i1 l1 (k1 + 1) → h'.IsListIter i2 l2 (k2 + 1) → IsPair h' s.heap.objs.size x y → h'.objs.size = s.heap.objs.size + 1 → (∀ c o, c ≠ z → c ≠ i1 → c ≠ i2 → s.heap.get? c = some o → h'.get? c = some o) → Q (.ref s.heap.objs.size) { s with heap := h' }) :
    wpAny (model P w) A (Builtin.«zip.__next__» ⟨[.ref z], []⟩) (fun fin s' => ∃ v, fin = .done (.ret v) ∧ Q v s') E s := by
  show wpAny _ _ (field (.ref z) 2 >>= _) _ _ _
  apply wpAny_bind
  refine wpAny_field hz rfl (x := .bool false) rfl ?_
  show wpAny _ _ (field (.ref z) 3 >>= _) _ _ _
  apply wpAny_bind
  refine wpAny_field hz rfl (x := .ref TI) rfl ?_
  apply wpAny_bind
  refine wpAny_seqItems hTI rfl ?_
  show wpAny _ _ (Builtin.SmallTypes.ownedTupleIsFree (.ref z) >>= _) _ _ _
  apply wpAny_bind
  refine z_free hz hT fun h₁ hz₁ hs₁ => ?_
  simp only [Bool.false_eq_true, if_false]
  apply wpAny_bind
  simp only [← Array.forIn_toList, List.forIn_cons, List.forIn_nil]
  apply wpAny_bind
  apply wpAny_bind
  apply wpAny_holding
  show wpAny _ _ (Builtin.SmallTypes.nextOf (.ref i1) >>= _) _ _ _
  apply wpAny_bind
  refine wpAny_nextOf_list_item (h1.extBut hs₁.extBut D.i1z) (hl1.extBut hs₁.extBut D.l1z) hx fun h₂ h1₂ hs₂ => wpAny_pure ?_
  refine wpAny_pure ?_
  apply wpAny_bind
  apply wpAny_bind
  apply wpAny_holding
  show wpAny _ _ (Builtin.SmallTypes.nextOf (.ref i2) >>= _) _ _ _
  apply wpAny_bind
  refine wpAny_nextOf_list_item ((h2.extBut hs₁.extBut D.i2z).extBut hs₂.extBut D.i12.symm) ((hl2.extBut hs₁.extBut D.l2z).extBut hs₂.extBut D.l2i1) hy fun h₃ h2₃ hs₃ => wpAny_pure ?_
  refine wpAny_pure (wpAny_pure ?_)
  have hsz : h₃.objs.size = s.heap.objs.size := by rw [hs₃.1, hs₂.1, hs₁.1]
  apply wpAny_bind
  refine wpAny_newTuple ?_ (by show 2 ≤ sizeLine; decide)
  have z3 : IsZ h₃ z TI TO (rawInt T) true := hs₃.extBut _ _ D.i2z.symm (hs₂.extBut _ _ D.i1z.symm hz₁)
  refine wpAny_pure ⟨_, rfl, ?_⟩
  show Q (.ref h₃.objs.size) _
  rw [hsz]
  refine q _ (Heap.get?_push_of_some _ z3) ((h1₂.extBut hs₃.extBut D.i12).at fun o e => Heap.get?_push_of_some _ e) (h2₃.at fun o e => Heap.get?_push_of_some _ e) ?_ ?_ fun c o c1 c2 c3 e => Heap.get?_push_of_some _ (hs₃.extBut _ _ c3 (hs₂.extBut _ _ c2 (hs₁.extBut _ _ c1 e)))
  · rw [← hsz]
    exact Heap.get?_push_size _ rfl
  · rw [Heap.size_push, hsz]
theorem z_pyNext_out {z TI TO i1 i2 l1 l2 T : Addr} {k1 k2 : Nat} {xs ys : Array Value} {x y : Value} {f : Bool} {oT : Obj} {Q : Option Value → Shared → Prop} (D : ZipApart z TI TO i1 i2 l1 l2) (hz : IsZ s.heap z TI TO (rawInt T) f) (hT : s.heap.get? T = some oT)
    (hTI : IsPair s.heap TI (.ref i1) (.ref i2)) (h1 : s.heap.IsListIter i1 l1 k1) (h2 : s.heap.IsListIter i2 l2 k2) (hl1 : s.heap.IsList l1 xs) (hl2 : s.heap.IsList l2 ys) (hx : xs[k1]? = some x) (hy : ys[k2]? = some y)
    (q : ∀ h', IsZ h' z TI TO (rawInt T) true → h'.IsListIter i1 l1 (k1 + 1) → h'.IsListIter i2 l2 (k2 + 1) → IsPair h' s.heap.objs.size x y → h'.objs.size = s.heap.objs.size + 1 → (∀ c o, c ≠ z → c ≠ i1 → c ≠ i2 → s.heap.get? c = some o → h'.get? c = some o) → Q (some (.ref s.heap.objs.size)) { s with heap := h' }) :
    wpAny (model P w) A (pyNext (.ref z)) Q E s := by
  have ty : s.TypeIs (.ref z) "zip" := ⟨_, hz, rfl⟩
  unfold pyNext
  apply wpAny_bind
  apply wpAny_attempt
  refine wpAny_callSpecial?_slot (name := Str.ofString "__next__") ty F.slot_zip_next ?_
  refine wpAny_call_entry F.slot_zip_next ty F.entry_zip_next ?_ (F.args_zip_next_1 _)
  exact z_next_out D hz hT hTI h1 h2 hl1 hl2 hx hy fun h' a1 a2 a3 a4 a5 a6 => wpAny_pure (q h' a1 a2 a3 a4 a5 a6)
theorem z_end_out {z TI TO i1 i2 l1 l2 T : Addr} {k1 : Nat} {xs : Array Value} {f : Bool} {oT : Obj} {Q : Option Value → Shared → Prop} (hh : A.handled = none) (D : ZipApart z TI TO i1 i2 l1 l2) (hz : IsZ s.heap z TI TO (rawInt T) f) (hT : s.heap.get? T = some oT)
    (hTI : IsPair s.heap TI (.ref i1) (.ref i2)) (h1 : s.heap.IsListIter i1 l1 k1) (hl1 : s.heap.IsList l1 xs) (hx : xs[k1]? = none)
    (q : ∀ h', (∀ c o, c ≠ z → c ≠ i1 → s.heap.get? c = some o → h'.get? c = some o) → Q none { s with heap := h' }) :
    wpAny (model P w) A (pyNext (.ref z)) Q E s := by
  have ty : s.TypeIs (.ref z) "zip" := ⟨_, hz, rfl⟩
  unfold pyNext
  apply wpAny_bind
  apply wpAny_attempt
  refine wpAny_callSpecial?_slot (name := Str.ofString "__next__") ty F.slot_zip_next ?_
  refine wpAny_call_entry F.slot_zip_next ty F.entry_zip_next ?_ (F.args_zip_next_1 _)
  show wpAny _ _ (field (.ref z) 2 >>= _) _ _ _
  apply wpAny_bind
  refine wpAny_field hz rfl (x := .bool false) rfl ?_
  show wpAny _ _ (field (.ref z) 3 >>= _) _ _ _
  apply wpAny_bind
  refine wpAny_field hz rfl (x := .ref TI) rfl ?_
  apply wpAny_bind
  refine wpAny_seqItems hTI rfl ?_
  show wpAny _ _ (Builtin.SmallTypes.ownedTupleIsFree (.ref z) >>= _) _ _ _
  apply wpAny_bind
  refine z_free hz hT fun h₁ hz₁ hs₁ => ?_
  simp only [Bool.false_eq_true, if_false]
  apply wpAny_bind
  simp only [← Array.forIn_toList, List.forIn_cons, List.forIn_nil]
  apply wpAny_bind
  apply wpAny_bind
  apply wpAny_holding
  show wpAny _ _ (Builtin.SmallTypes.nextOf (.ref i1) >>= _) _ _ _
  apply wpAny_bind
  refine wpAny_nextOf_list_end hh (h1.extBut hs₁.extBut D.i1z) (hl1.extBut hs₁.extBut D.l1z) hx fun h₂ e hs₂ he => ?_
  obtain ⟨o, ho, hc⟩ := he
  apply wpAny_bind
  refine wpAny_isInstance (T := "StopIteration") (b := true) ⟨o, ho, hc⟩ isSubtype_stop ?_
  exact wpAny_pure (q h₂ fun c o c1 c2 e => hs₂ c o c2 (hs₁.extBut c o c1 e))
/-- the pairs that were made -/
structure MadeZ (xs ys : Array Value) (lo : Addr) (h : Heap) (as : List Addr) : Prop where
  rise : as.Pairwise (· < ·)
  above : ∀ a ∈ as, lo < a
  pairs : ∀ (j : Nat) a, as[j]? = some a → ∃ x y, xs[j]? = some x ∧ ys[j]? = some y ∧ IsPair h a x y
/-- where the zip stands -/
def ZAt (h : Heap) (z TI TO i1 i2 : Addr) (l1 l2 : Addr) (i : Nat) (as : List Addr) : Prop := IsPair h TI (.ref i1) (.ref i2) ∧ (∃ a b, IsPair h TO a b) ∧ h.IsListIter i1 l1 i ∧ h.IsListIter i2 l2 i ∧
  ((i = 0 ∧ IsZ h z TI TO .none false) ∨ ∃ T f, T ∈ as ∧ IsZ h z TI TO (rawInt T) f)
theorem z_loop {S z TI TO i1 i2 l1 l2 : Addr} {xs ys : Array Value} (hh : A.handled = none) (D : ZipApart z TI TO i1 i2 l1 l2) (hxy : xs.size = ys.size) (hSz : S ≠ z) (hSI : S ≠ TI) (hSO : S ≠ TO) (hS1 : S ≠ i1) (hS2 : S ≠ i2) (hSa : S ≠ l1) (hSb : S ≠ l2)
    (lo : Addr) (hlo : z ≤ lo ∧ TI ≤ lo ∧ TO ≤ lo ∧ i1 ≤ lo ∧ i2 ≤ lo ∧ S ≤ lo) (hn : xs.size ≤ sizeLine) (res : Value) {h₁ : Heap} {R : Result → Shared → Prop}
    (hR : ∀ h' tk acc c as, (∀ b o, b ≠ S → b ≠ z → b ≠ TO → b ≠ i1 → b ≠ i2 → h₁.get? b = some o → h'.get? b = some o) → h'.get? S = some { cls := .type "list", dict := none, data := .seq acc c, slots := #[] } → as.length = xs.size → MadeZ xs ys lo h' as →
      acc.toList = as.map Value.ref → R (.ok (.ret res)) { s with heap := h', toks := tk }) :
    ∀ (k i : Nat) (h : Heap) (tk c : Nat) (acc : Array Value) (as : List Addr), xs.size - i = k → i ≤ xs.size → ZAt h z TI TO i1 i2 l1 l2 i as → h.IsList l1 xs → h.IsList l2 ys → (∀ b o, b ≠ S → b ≠ z → b ≠ TO → b ≠ i1 → b ≠ i2 → h₁.get? b = some o → h.get? b = some o) →
      h.get? S = some { cls := .type "list", dict := none, data := .seq acc c, slots := #[] } → acc.toList = as.map Value.ref → as.length = i → MadeZ xs ys lo h as → lo < h.objs.size →
      codeAny (model P w) A (.builtin "list.extend.loop" ⟨[.ref S, .ref z, res], []⟩) R { s with heap := h, toks := tk } := by
  have far : ∀ u : Addr, lo < u → u ≠ z ∧ u ≠ TO ∧ u ≠ i1 ∧ u ≠ i2 ∧ u ≠ S := fun u hu => ⟨Nat.ne_of_gt (Nat.lt_of_le_of_lt hlo.1 hu), Nat.ne_of_gt (Nat.lt_of_le_of_lt hlo.2.2.1 hu), Nat.ne_of_gt (Nat.lt_of_le_of_lt hlo.2.2.2.1 hu), Nat.ne_of_gt (Nat.lt_of_le_of_lt hlo.2.2.2.2.1 hu), Nat.ne_of_gt (Nat.lt_of_le_of_lt hlo.2.2.2.2.2 hu)⟩
  intro k
  induction k with
  | zero =>
    intro i h tk c acc as hk hi hz hl1 hl2 keep hS hacc hal hG hls
    obtain ⟨hTI, ⟨a, b, hTO⟩, g1, g2, st⟩ := hz
    have xe : xs[i]? = none := Array.getElem?_eq_none (by omega)
    have fin : ∀ h', (∀ c o, c ≠ z → c ≠ TO → c ≠ i1 → c ≠ i2 → h.get? c = some o → h'.get? c = some o) → R (.ok (.ret res)) { s with heap := h', toks := tk } := fun h' kp => by
      refine hR h' tk acc c as (fun b o n1 n2 n3 n4 n5 e => kp b o n2 n3 n4 n5 (keep b o n1 n2 n3 n4 n5 e)) (kp S _ hSz hSO hS1 hS2 hS) (by omega) ⟨hG.rise, hG.above, fun j a hj => ?_⟩ hacc
      obtain ⟨x, y, e1, e2, e3⟩ := hG.pairs j a hj
      obtain ⟨f1, f2, f3, f4, _⟩ := far a (hG.above a (List.mem_of_getElem? hj))
      exact ⟨x, y, e1, e2, kp a _ f1 f2 f3 f4 e3⟩
    refine codeAny_builtin F.entry_extend_loop ?_
    rw [Around.under_plainId F.plain_extend_loop _]
    show wpAny _ A.in1 (pyNext (.ref z) >>= _) _ _ _
    apply wpAny_bind
    rcases st with ⟨rfl, hz0⟩ | ⟨T, f, hT, hz1⟩
    · exact wpAny_pyNext_zip_end (s := { s with heap := h, toks := tk }) (A := A.in1) hh D hz0 hTI hTO g1 g2 hl1 hl2 (.inl xe) fun h' kp => wpAny_pure (fin h' kp)
    · obtain ⟨j, hj⟩ := List.mem_iff_getElem?.mp hT
      obtain ⟨x, y, _, _, e3⟩ := hG.pairs j T hj
      exact z_end_out (s := { s with heap := h, toks := tk }) (A := A.in1) hh D hz1 e3 hTI g1 hl1 xe fun h' kp => wpAny_pure (fin h' fun c o n1 _ n3 _ e => kp c o n1 n3 e)
  | succ k ih =>
    intro i h tk c acc as hk hi hz hl1 hl2 keep hS hacc hal hG hls
    obtain ⟨hTI, ⟨a, b, hTO⟩, g1, g2, st⟩ := hz
    have hlt : i < xs.size := by omega
    have hx := Array.getElem?_eq_getElem hlt
    have hy := Array.getElem?_eq_getElem (show i < ys.size by omega)
    have hsz : acc.size = i := by rw [← Array.length_toList, hacc, List.length_map, hal]
    have hSl : S < h.objs.size := Heap.lt_size hS
    refine codeAny_builtin F.entry_extend_loop ?_
    rw [Around.under_plainId F.plain_extend_loop _]
    show wpAny _ A.in1 (pyNext (.ref z) >>= _) _ _ _
    apply wpAny_bind
    -- one more pair
    have more : ∀ (h' : Heap) (f : Bool) (T : Addr), T ∈ as ++ [h.objs.size] → IsZ h' z TI TO (rawInt T) f → (∃ a b, IsPair h' TO a b) → h'.IsListIter i1 l1 (i + 1) → h'.IsListIter i2 l2 (i + 1) → IsPair h' h.objs.size xs[i] (ys[i]'(by omega)) → h'.objs.size = h.objs.size + 1 →
        (∀ c o, c ≠ z → c ≠ TO → c ≠ i1 → c ≠ i2 → h.get? c = some o → h'.get? c = some o) →
        wpAny (model P w) A.in1 (updateSeq S (·.push (Value.ref h.objs.size)) >>= fun _ => again (.builtin "list.extend.loop" ⟨[.ref S, .ref z, res], []⟩)) (fun fin s' => match fin with | .done f => R (.ok f) s' | .again c' => c'.quiet = true ∧ codeAny (model P w) A c' R s') (fun e s' => R (.error e) s') { s with heap := h', toks := tk } := by
      intro h' f T hT hz' hTO' g1' g2' hp hsz' kp
      have hS' := kp S _ hSz hSO hS1 hS2 hS
      have up : ∀ b o, b ≠ S → h'.get? b = some o → (h'.update S (Obj.mapSeq (·.push (Value.ref h.objs.size)))).get? b = some o := fun b o hb e => (Heap.get?_update_other _ _ (Ne.symm hb)).trans e
      apply wpAny_bind
      refine wpAny_updateSeq hS' rfl (wpAny_pure ⟨plainId_quiet F.plain_extend_loop _, ?_⟩) (by rw [hsz]; omega) (by show (acc.push (Value.ref h.objs.size)).size ≤ sizeLine + 1; rw [Array.size_push, hsz]; omega)
      refine ih (i + 1) _ tk _ (acc.push (Value.ref h.objs.size)) (as ++ [h.objs.size]) (by omega) hlt ?_ ?_ ?_ (fun b o n1 n2 n3 n4 n5 e => up b o n1 (kp b o n2 n3 n4 n5 (keep b o n1 n2 n3 n4 n5 e))) (Heap.get?_update_self _ hS' rfl) (by rw [Array.toList_push, hacc, List.map_append]; rfl) (by rw [List.length_append, hal]; rfl) ⟨?_, ?_, ?_⟩ ?_
      · obtain ⟨p, q, hpq⟩ := hTO'
        exact ⟨up _ _ hSI.symm (kp _ _ D.TIz D.TITO D.TIi1 D.TIi2 hTI), ⟨p, q, up _ _ hSO.symm hpq⟩, g1'.at fun o e => up _ o hS1.symm e, g2'.at fun o e => up _ o hS2.symm e, .inr ⟨T, f, hT, up _ _ hSz.symm hz'⟩⟩
      · exact hl1.at fun o e => up _ o hSa.symm (kp _ o D.l1z D.l1TO D.l1i1 D.l1i2 e)
      · exact hl2.at fun o e => up _ o hSb.symm (kp _ o D.l2z D.l2TO D.l2i1 D.l2i2 e)
      · refine List.pairwise_append.mpr ⟨hG.rise, List.pairwise_singleton _ _, fun u hu v hv => ?_⟩
        rw [List.mem_singleton.mp hv]
        obtain ⟨j, hj⟩ := List.mem_iff_getElem?.mp hu
        obtain ⟨_, _, _, _, e3⟩ := hG.pairs j u hj
        exact Heap.lt_size e3
      · intro u hu
        rcases List.mem_append.mp hu with hu | hu
        · exact hG.above u hu
        · rw [List.mem_singleton.mp hu]
          exact hls
      · intro j u hj
        by_cases hjl : j < as.length
        · rw [List.getElem?_append_left hjl] at hj
          obtain ⟨x, y, e1, e2, e3⟩ := hG.pairs j u hj
          obtain ⟨f1, f2, f3, f4, f5⟩ := far u (hG.above u (List.mem_of_getElem? hj))
          exact ⟨x, y, e1, e2, up u _ f5 (kp u _ f1 f2 f3 f4 e3)⟩
        · rw [List.getElem?_append_right (by omega)] at hj
          have hj2 := (List.getElem?_eq_some_iff.mp hj).1
          have ej : j = as.length := by
            simp only [List.length_cons, List.length_nil] at hj2
            omega
          subst ej
          rw [Nat.sub_self] at hj
          obtain rfl := Option.some.inj hj
          subst hal
          exact ⟨_, _, hx, hy, up _ _ (Nat.ne_of_gt hSl) hp⟩
      · have e := up _ _ (Nat.ne_of_gt hSl) hp
        exact Nat.lt_trans hls (Heap.lt_size e)
    rcases st with ⟨rfl, hz0⟩ | ⟨T, f, hT, hz1⟩
    · refine wpAny_pyNext_zip_item (s := { s with heap := h, toks := tk }) (A := A.in1) D hz0 hTI hTO g1 g2 hl1 hl2 hx hy fun h' b1 b2 b3 b4 b5 b6 b7 => ?_
      exact more h' false h.objs.size (List.mem_append_right _ List.mem_cons_self) b1 ⟨_, _, b2⟩ b3 b4 b5 b6 b7
    · obtain ⟨j, hj⟩ := List.mem_iff_getElem?.mp hT
      obtain ⟨x, y, _, _, e3⟩ := hG.pairs j T hj
      refine z_pyNext_out (s := { s with heap := h, toks := tk }) (A := A.in1) D hz1 e3 hTI g1 g2 hl1 hl2 hx hy fun h' b1 b2 b3 b4 b5 b6 => ?_
      exact more h' true T (List.mem_append_left _ hT) b1 ⟨_, _, b6 _ _ D.TOz D.TOi1 D.TOi2 hTO⟩ b2 b3 b4 b5 fun c o n1 _ n3 n4 e => b6 c o n1 n3 n4 e
theorem z_nolen : typeLookup (.type "zip") "__len__" = pure none := by
  rw [typeLookup_type, builtinLookup_eq_fast]
  kernel_rfl
theorem z_nohint : typeLookup (.type "zip") "__length_hint__" = pure none := by
  rw [typeLookup_type, builtinLookup_eq_fast]
  kernel_rfl
theorem z_hint {z : Addr} {Q : Bool → Shared → Prop} (hT : s.TypeIs (.ref z) "zip") (q : Q true s) : wpAny (model P w) A (Builtin.List.listLengthHint (.ref z)) Q E s := by
  unfold Builtin.List.listLengthHint
  apply wpAny_bind
  refine wpAny_specialOf hT z_nolen ?_
  refine wpAny_ite_split (fun h => absurd h (by decide)) (fun _ => ?_)
  refine wpAny_ite_split (fun h => absurd h (by decide)) (fun _ => ?_)
  apply wpAny_bind
  refine wpAny_specialOf hT z_nohint ?_
  exact wpAny_pure q
theorem z_extend {S z TI TO i1 i2 l1 l2 : Addr} {xs ys : Array Value} (hh : A.handled = none) (D : ZipApart z TI TO i1 i2 l1 l2) (hxy : xs.size = ys.size) (hSz : S ≠ z) (hSI : S ≠ TI) (hSO : S ≠ TO) (hS1 : S ≠ i1) (hS2 : S ≠ i2) (hSa : S ≠ l1) (hSb : S ≠ l2)
    (lo : Addr) (hlo : z ≤ lo ∧ TI ≤ lo ∧ TO ≤ lo ∧ i1 ≤ lo ∧ i2 ≤ lo ∧ S ≤ lo) (hls : lo < s.heap.objs.size) (hn : xs.size ≤ sizeLine) (res : Value) {R : Result → Shared → Prop} {c₀ : Nat}
    (hz : ZAt s.heap z TI TO i1 i2 l1 l2 0 []) (hz0 : IsZ s.heap z TI TO .none false) (hl1 : s.heap.IsList l1 xs) (hl2 : s.heap.IsList l2 ys) (hS : s.heap.get? S = some { cls := .type "list", data := .seq #[] c₀ })
    (hR : ∀ h' tk acc c as, (∀ b o, b ≠ S → b ≠ z → b ≠ TO → b ≠ i1 → b ≠ i2 → s.heap.get? b = some o → h'.get? b = some o) → h'.get? S = some { cls := .type "list", dict := none, data := .seq acc c, slots := #[] } → as.length = xs.size → MadeZ xs ys lo h' as →
      acc.toList = as.map Value.ref → R (.ok (.ret res)) { s with heap := h', toks := tk }) :
    wpAny (model P w) A.in1 (Builtin.List.listExtendWith (.ref S) (.ref z) res)
      (fun fin s' => match fin with | .done f => R (.ok f) s' | .again c' => c'.quiet = true ∧ codeAny (model P w) A c' R s') (fun e s' => R (.error e) s') s := by
  have ty : s.TypeIs (.ref z) "zip" := ⟨_, hz0, rfl⟩
  have go : ∀ (h : Heap) (c₁ tk : Nat), (∀ b o, b ≠ S → s.heap.get? b = some o → h.get? b = some o) → lo < h.objs.size → h.get? S = some { cls := .type "list", data := .seq #[] c₁ } →
      codeAny (model P w) A (.builtin "list.extend.loop" ⟨[.ref S, .ref z, res], []⟩) R { s with heap := h, toks := tk } := by
    intro h c₁ tk kp hl hS₁
    obtain ⟨hTI, ⟨a, b, hTO⟩, g1, g2, _⟩ := hz
    refine z_loop (s := s) (h₁ := s.heap) hh D hxy hSz hSI hSO hS1 hS2 hSa hSb lo hlo hn res hR xs.size 0 h tk c₁ #[] [] (Nat.sub_zero _) (Nat.zero_le _) ?_ (hl1.at fun o e => kp _ o hSa.symm e) (hl2.at fun o e => kp _ o hSb.symm e) (fun b o n1 _ _ _ _ e => kp b o n1 e) hS₁ rfl rfl ⟨List.Pairwise.nil, (fun _ z => nomatch z), (fun j a hj => by simp at hj)⟩ hl
    exact ⟨kp _ _ hSI.symm hTI, ⟨a, b, kp _ _ hSO.symm hTO⟩, g1.at fun o e => kp _ o hS1.symm e, g2.at fun o e => kp _ o hS2.symm e, .inl ⟨rfl, kp _ _ hSz.symm hz0⟩⟩
  unfold Builtin.List.listExtendWith
  apply wpAny_bind
  refine wpAny_typeOf (T := "zip") ty ?_
  have e1 : Builtin.List.listSameRef (.ref S) (.ref z) = false := by simp [Builtin.List.listSameRef, hSz]
  have e2 : (Value.type "zip" == Value.type "list") = false := by decide
  have e3 : (Value.type "zip" == Value.type "tuple") = false := by decide
  simp only [e1, e2, e3, Bool.or_false, Bool.false_eq_true, if_false]
  apply wpAny_bind
  refine wpAny_pyIter_slot ty F.slot_zip_iter ?_
  refine wpAny_call_entry F.slot_zip_iter ty F.entry_zip_iter ?_ (F.args_zip_iter_1 _)
  show wpAny _ _ (ret (.ref z)) _ _ s
  refine wpAny_pure ⟨_, rfl, "zip", _, ty, F.slot_zip_next.lookup, ?_⟩
  apply wpAny_bind
  apply wpAny_holding
  refine z_hint ty ?_
  refine wpAny_ite_split (fun _ => ?_) (fun _ => wpAny_pure ⟨plainId_quiet F.plain_extend_loop _, go _ c₀ _ (fun b o _ e => e) hls hS⟩)
  apply wpAny_bind
  apply wpAny_rule
  apply wpAny_bind
  show wpAny _ _ (updateSeq S (·.push .none) >>= fun _ => updateSeq S (·.pop)) _ _ _
  apply wpAny_bind
  refine wpAny_updateSeq hS rfl ?_
  have hS₂ := Heap.get?_update_self (Obj.mapSeq (·.push Value.none)) hS rfl
  refine wpAny_updateSeq (hz := by seq_fits) hS₂ rfl ?_
  have hS₃ := Heap.get?_update_self (Obj.mapSeq (·.pop)) hS₂ rfl
  refine wpAny_pure ⟨plainId_quiet F.plain_extend_loop _, go _ _ _ (fun b o hb e => ?_) ?_ hS₃⟩
  · exact (Heap.get?_update_other _ _ (Ne.symm hb)).trans ((Heap.get?_update_other _ _ (Ne.symm hb)).trans e)
  · rw [Heap.size_update, Heap.size_update]
    exact hls
theorem z_list {z TI TO i1 i2 l1 l2 : Addr} {xs ys : Array Value} (hh : A.handled = none) (D : ZipApart z TI TO i1 i2 l1 l2) (hxy : xs.size = ys.size) (hn : xs.size ≤ sizeLine) {Q : Value → Shared → Prop}
    (hz : ZAt s.heap z TI TO i1 i2 l1 l2 0 []) (hz0 : IsZ s.heap z TI TO .none false) (hl1 : s.heap.IsList l1 xs) (hl2 : s.heap.IsList l2 ys)
    (q : ∀ h' tk acc c as, (∀ b o, b ≠ z → b ≠ TO → b ≠ i1 → b ≠ i2 → s.heap.get? b = some o → h'.get? b = some o) → h'.get? s.heap.objs.size = some { cls := .type "list", dict := none, data := .seq acc c, slots := #[] } → as.length = xs.size → MadeZ xs ys s.heap.objs.size h' as →
      acc.toList = as.map Value.ref → Q (.ref s.heap.objs.size) { s with heap := h', toks := tk }) :
    wpAny (model P w) A (call (.type "list") [.ref z]) Q E s := by
  refine callType_codes (Q₁ := fun obj s₁ => obj = .ref s.heap.objs.size ∧ s₁ = { s with heap := s.heap.push { cls := .type "list", data := .seq #[] } }) F.called_list (F.typeCall_list_1 _) F.entry_list_init (code_list_new _ ⟨rfl, rfl⟩) ?_
  rintro obj s₁ ⟨rfl, rfl⟩
  have hS : (s.heap.push { cls := .type "list", data := .seq #[] }).get? s.heap.objs.size = some { cls := .type "list", data := .seq #[] } := Heap.get?_push_size _ rfl
  obtain ⟨hTI, ⟨a, b, hTO⟩, g1, g2, _⟩ := id hz
  have lt : ∀ {c : Addr} {o : Obj}, s.heap.get? c = some o → c < s.heap.objs.size := fun e => Heap.lt_size e
  have z1 : i1 < s.heap.objs.size := g1.elim fun o e => lt e.1
  have z2 : i2 < s.heap.objs.size := g2.elim fun o e => lt e.1
  have z3 : l1 < s.heap.objs.size := hl1.elim fun o e => lt e.1
  have z4 : l2 < s.heap.objs.size := hl2.elim fun o e => lt e.1
  refine ⟨⟨_, hS, rfl⟩, F.args_list_init_2 _ _, ?_⟩
  show wpAny _ _ (do let old ← Builtin.List.listItems (.ref s.heap.objs.size); Builtin.List.listUpdate (.ref s.heap.objs.size) (fun _ => #[]); letGo old.toList.reverse; Builtin.List.listExtendWith (.ref s.heap.objs.size) (.ref z) .none) _ _ _
  apply wpAny_bind
  unfold Builtin.List.listItems
  apply wpAny_bind
  refine wpAny_seqItems hS rfl (wpAny_pure ?_)
  show wpAny _ _ (updateSeq s.heap.objs.size (fun _ => #[]) >>= fun _ => letGo (#[] : Array Value).toList.reverse >>= fun _ => Builtin.List.listExtendWith (.ref s.heap.objs.size) (.ref z) .none) _ _ _
  apply wpAny_bind
  refine wpAny_updateSeq hS rfl ?_
  have hS₂ := Heap.get?_update_self (Obj.mapSeq (fun _ => (#[] : Array Value))) hS rfl
  have kp : ∀ b o, s.heap.get? b = some o → ((s.heap.push { cls := .type "list", data := .seq #[] }).update s.heap.objs.size (Obj.mapSeq (fun _ => (#[] : Array Value)))).get? b = some o := fun b o e => (Heap.get?_update_other _ _ (Nat.ne_of_gt (Heap.lt_size e))).trans (Heap.get?_push_of_some _ e)
  apply wpAny_bind
  apply wpAny_letGo
  refine z_extend (A := A.in1) (S := s.heap.objs.size) hh D hxy (Nat.ne_of_gt (lt hz0)) (Nat.ne_of_gt (lt hTI)) (Nat.ne_of_gt (lt hTO)) (Nat.ne_of_gt z1) (Nat.ne_of_gt z2) (Nat.ne_of_gt z3) (Nat.ne_of_gt z4) s.heap.objs.size ⟨Nat.le_of_lt (lt hz0), Nat.le_of_lt (lt hTI), Nat.le_of_lt (lt hTO), Nat.le_of_lt z1, Nat.le_of_lt z2, Nat.le_refl _⟩ ?_ hn .none ?_ (kp _ _ hz0) (hl1.at fun o e => kp _ o e) (hl2.at fun o e => kp _ o e) hS₂ ?_
  · show s.heap.objs.size < ((s.heap.push { cls := .type "list", data := .seq #[] }).update s.heap.objs.size (Obj.mapSeq (fun _ => (#[] : Array Value)))).objs.size
    rw [Heap.size_update, Heap.size_push]
    exact Nat.lt_succ_self _
  · exact ⟨kp _ _ hTI, ⟨a, b, kp _ _ hTO⟩, g1.at fun o e => kp _ o e, g2.at fun o e => kp _ o e, .inl ⟨rfl, kp _ _ hz0⟩⟩
  · intro h' tk acc c as k1 k2 k3 k4 k5
    exact ⟨rfl, q h' tk acc c as (fun b o n1 n2 n3 n4 e => k1 b o (Nat.ne_of_lt (Heap.lt_size e)) n1 n2 n3 n4 (kp b o e)) k2 k3 k4 k5⟩
end lz
theorem paired_of {α β : Type} {F : α → β → Prop} : ∀ {l : List α} {k : List β}, l.length = k.length → (∀ (j : Nat) x y, l[j]? = some x → k[j]? = some y → F x y) → Paired F l k
  | [], [], _, _ => .nil
  | [], _ :: _, h, _ => nomatch h
  | _ :: _, [], h, _ => nomatch h
  | x :: l, y :: k, h, f => .cons (f 0 x y rfl rfl) (paired_of (Nat.succ.inj h) fun j a b ha hb => f (j + 1) a b (by simpa using ha) (by simpa using hb))
section lzr
variable {X : Cx}
def tListZip (K : PySem.W.Frag) (ta : TA) : TE := fun σ H Q => ta σ H fun vs H1 => ∃ a b xs ys, vs = [.ref a, .ref b] ∧ SqL K H1 a xs ∧ SqL K H1 b ys ∧ xs.length = ys.length ∧
  ∀ H' p ts, Same H1 H' → H1 p = none → H' p = some (.lst (ts.map V.ref)) → Paired (fun (t : Addr) (e : V × V) => H' t = some (.tup [e.1, e.2])) ts (xs.zip ys) → Q (.ref p) H'
theorem pe_listZip {e e2 : Expr} {ta : TA} {p p2 pos pos2 : Pos} (hc : X.calm = true) (hg : Gl X "list") (hm : X.mg "list" = none) (hg2 : Gl X "zip") (hm2 : X.mg "zip" = none) (ha : PA X [e, e2] ta)
    (c1 : starEach [.Call (.Name "zip" p2) [e, e2] [] pos2] X.env = (false, eval (.Call (.Name "zip" p2) [e, e2] [] pos2) X.env) :: starEach [] X.env := by rfl)
    (c2 : starEach [e, e2] X.env = (false, eval e X.env) :: starEach [e2] X.env := by rfl) (c3 : (backTo pos2 (starEach [e2] X.env)).any (·.1) = false := by rfl) :
    PE X (.Call (.Name "list" p) [.Call (.Name "zip" p2) [e, e2] [] pos2] [] pos) (tListZip X.K ta) := by
  constructor
  intro pins s σ H Q I h
  refine wpAny_Call_Name_kw (ld_blt I hg hm (by decide +kernel : bootBuiltins "list" = some (.type "list")) ?_)
  refine PyProof.Rows.callWith_type1 ?_ c1 rfl
  rw [c1]
  show wpAny _ _ (spliced ((false, eval (.Call (.Name "zip" p2) [e, e2] [] pos2) X.env) :: backTo pos (starEach [] X.env))) _ _ s
  refine Calls.spliced_cons ?_
  refine Call_ (ld_blt I hg2 hm2 PyProof.Rows.boot_zip (PyProof.Rows.callWith_type1 (thn (ha.run pos2 pins s σ H _ I h) ?_) c2 c3))
  rintro us s1 ⟨vs, H1, I1, r1, a, b, xs, ys, rfl, hx, hy, hxy, q⟩
  obtain ⟨u1, u2, rfl, ra, rb⟩ := vals2 r1
  cases ra
  cases rb
  obtain ⟨it1, rv1, p1, z1⟩ := I1.list hx
  obtain ⟨it2, rv2, p2', z2⟩ := I1.list hy
  have n1 := rv1.length
  have n2 := rv2.length
  refine call_zip_2 p1.isList p2'.isList fun h' hz hTI hTO g1 g2 hsz hk => ?_
  refine Calls.spliced_nil ?_
  have la : a < s1.heap.objs.size := p1.lt
  have lb : b < s1.heap.objs.size := p2'.lt
  refine z_list (s := { s1 with heap := h' }) (I1.ok.hd hc) (PySem.W.ktu_apart s1.heap.objs.size a b la lb) (by simp; omega) (by simp; omega) ⟨hTI, ⟨_, _, hTO⟩, g1, g2, .inl ⟨rfl, hz⟩⟩ hz (p1.isList.at fun o e => hk _ o e) (p2'.isList.at fun o e => hk _ o e) fun h'' tk acc c as kp hS hal hG hacc => ?_
  have old : ∀ b o, s1.heap.get? b = some o → h''.get? b = some o := fun b o e => by
    have lt := Heap.lt_size e
    exact kp b o (Nat.ne_of_lt (Nat.lt_of_lt_of_le lt (Nat.le_add_right _ _))) (Nat.ne_of_lt (Nat.lt_of_lt_of_le lt (Nat.le_add_right _ _))) (Nat.ne_of_lt lt) (Nat.ne_of_lt (Nat.lt_of_lt_of_le lt (Nat.le_add_right _ _))) (hk b o e)
  have hS5 : s1.heap.objs.size ≤ h'.objs.size := by
    rw [hsz]
    exact Nat.le_add_right _ _
  have J0 : Inv X pins σ H1 { s1 with heap := h'', toks := tk } := I1.kept (t' := tk) old
  have nS : H1 h'.objs.size = none := I1.hok.fresh hS5
  have hl : as.length = xs.length := by
    rw [hal]
    simp
    omega
  have ok1 : ObjOk X.prog X.w (upd H1 h'.objs.size (.lst (as.map V.ref))) h'' h'.objs.size (.lst (as.map V.ref)) := by
    refine ⟨by rw [List.length_map, hl]; exact z1, acc.toList, c, ?_, ?_⟩
    · rw [hacc]
      exact LiI.vals_refs as
    · rw [Array.toArray_toList]
      exact hS
  have J1 : Inv X pins σ (upd H1 h'.objs.size (.lst (as.map V.ref))) { s1 with heap := h'', toks := tk } := J0.take (h' := h'') (t' := tk) (fun b ob _ e => e) (I1.fpOk hS5 nS) ok1
  have nd : as.Nodup := hG.rise.imp fun {a b} (h : a < b) => Nat.ne_of_lt h
  obtain ⟨H2, J2, s2, tp⟩ := L2.DX.takeT (P := fun t vs => ∃ (j : Nat) (e : V × V), as[j]? = some t ∧ (xs.zip ys)[j]? = some e ∧ vs = [e.1, e.2]) I1 as _ J1 nd fun t ht => by
    obtain ⟨j, hj⟩ := List.mem_iff_getElem?.mp ht
    obtain ⟨x, y, e1, e2, e3⟩ := hG.pairs j t hj
    have ab := hG.above t ht
    have hjx : j < xs.length := by
      have := (List.getElem?_eq_some_iff.mp hj).1
      omega
    have ex : it1[j]? = some x := by simpa using e1
    have ey : it2[j]? = some y := by simpa using e2
    obtain ⟨x', hx', rx⟩ := rv1.get (List.getElem?_eq_getElem hjx)
    obtain ⟨y', hy', ry⟩ := rv2.get (List.getElem?_eq_getElem (show j < ys.length by omega))
    rw [hx'] at ex
    rw [hy'] at ey
    obtain rfl := Option.some.inj ex
    obtain rfl := Option.some.inj ey
    refine ⟨Nat.le_trans hS5 (Nat.le_of_lt ab), ?_, [xs[j], ys[j]'(by omega)], ⟨j, (xs[j], ys[j]'(by omega)), hj, ?_, rfl⟩, fun H3 => ⟨by show 2 ≤ sizeLine; decide, [x', y'], .cons rx (.cons ry .nil), ⟨_, e3, rfl, _, rfl⟩⟩⟩
    · rw [upd_ne (Nat.ne_of_gt ab)]
      exact I1.hok.fresh (Nat.le_trans hS5 (Nat.le_of_lt ab))
    · rw [List.getElem?_zip_eq_some]
      exact ⟨List.getElem?_eq_getElem hjx, List.getElem?_eq_getElem (by omega)⟩
  refine ⟨.ref h'.objs.size, H2, J2, rfl, q H2 h'.objs.size as (fun b o e => s2 b o (by rw [upd_ne (ne_of_none e nS)]; exact e)) nS (s2 _ _ upd_same) ?_⟩
  refine paired_of (by rw [List.length_zip]; omega) fun j t e ht he => ?_
  obtain ⟨vs, ⟨j', e', h1, h2, rfl⟩, h3⟩ := tp t (List.mem_of_getElem? ht)
  have : j = j' := by
    have i1 := (List.getElem?_eq_some_iff.mp ht).1
    exact (List.getElem?_inj i1 nd).mp (ht.trans h1.symm)
  subst this
  rw [he] at h2
  obtain rfl := Option.some.inj h2
  exact h3
end lzr
def spFc : Sp := fun vs H Q _ => ∃ (R : Addr) (m o : Int) (ds : List Deed), vs = [.ref R] ∧ RowAt H R m ds o ∧ ds.length ≤ 100 ∧ ∀ H' p, Same H H' → H p = none → H' p = some (.tup ((ds.map fcD).map V.int)) → Q (.ref p) H'
theorem ok_fc {f : Addr} {fd : FuncData} {k : Nat} (F : Fun K "first_carry" "first_carry" s_first_carry f fd) (mt : mg "tuple" = none) : FnOk P w K mg base CX0 (k + 1) f fd ["row"] spFc := by
  refine F.ok sc_first_carry (fun vs H Q E h => ?_) (fun cdv A outer s H vs Q E hr h => ?_)
  · obtain ⟨R, m, o, ds, rfl, _⟩ := h
    rfl
  · obtain ⟨R, m, o, ds, rfl, hrow, hl, q⟩ := h
    obtain ⟨D, rs, eR, eD, hd⟩ := id hrow
    refine ⟨_, pss_one (ps_ret (pe_callTy call_tuple_of (by rfl) mt (by decide +kernel) (pa_cons
      (pe_lc (own := [("deed", 1)]) (g := gName 1) (by rfl) sc_first_carry.nd (pi_tup (pe_ix ix_tup (pv 0) pe_int (fun _ _ => rfl))) (blkOk_by (own := [("deed", 1)]) (N := N_first_carry) (sc := defScope s_first_carry) (by decide +kernel))
        (fun _ _ _ _ _ => pg_name (i := 1) sc_first_carry.nd rfl (Or.inl rfl)) (fun _ _ _ _ _ => pts_nil)
        (fun _ _ _ _ _ => pe_ifExp (pt_cmpR (r := rIn K false) op_in_seq (pe_ix (r := rIxT K) ix_tup (pv 1) pe_int (fun _ _ => rfl)) (pe_tup (pa_cons pe_str (pa_cons pe_str pa_nil))) (by rfl)) pe_int pe_int)) pa_nil))), ?_⟩
    refine ⟨.ref R, rfl, R, _, 1, .ref D, rfl, rfl, SqT.of eR, rfl, D, rfl, ⟨_, SqT.of eD⟩, fun L hL => ?_⟩
    refine lc_tup (K := K) (a := D) (xs := rs.map V.ref) (fun i H4 => H4 L = some (.lst (((ds.take i).map fcD).map V.int)) ∧ Same H H4) ⟨upd_same, same_new hL⟩ (fun i H4 _ hp => SqT.of (hp.2 _ _ eD)) (fun i x H4 hx hp => ?_) (fun H4 hp => ?_)
    · obtain ⟨eL, sm⟩ := hp
      have hi : i < rs.length := by
        have := (List.getElem?_eq_some_iff.mp hx).1
        rwa [List.length_map] at this
      have hx' : x = .ref rs[i] := by
        rw [List.getElem?_map, List.getElem?_eq_getElem hi] at hx
        exact (Option.some.inj hx).symm
      subst hx'
      obtain ⟨d, hd1, hd2⟩ := awGet hd (List.getElem?_eq_getElem hi)
      refine ⟨rfl, .ref rs[i], rfl, rs[i], _, 0, .str d.1, rfl, rfl, SqT.of (sm _ _ hd2), dv0 d, by show 2 ≤ sizeLine; decide, fun T hT => ?_⟩
      have sT := same_new (o := .tup [.str "neg", .str "one"]) hT
      have eL2 := sT _ _ eL
      have old : ∀ o, Same H (upd (upd H4 T (.tup [.str "neg", .str "one"])) L o) := fun o b u e => by
        rw [upd_ne (ne_of_none e hL)]
        exact sT b u (sm b u e)
      have small : (((ds.take i).map fcD).map V.int).length < sizeLine := by
        rw [List.length_map, List.length_map, List.length_take]
        exact small1000 (by omega)
      have hin := inS d.1 ["neg", "one"]
      refine ⟨T, _, rfl, .inr (SqT.of upd_same), rfl, rfl, _, rfl, ite2 (fun e => ?_) (fun e => ?_)⟩
      · have hm : d.1 ∈ (["neg", "one"] : List Str) := of_decide_eq_true (hin.symm.trans e)
        have e1 : fcD d = 1 := if_pos hm
        refine ⟨_, eL2, small, ?_, old _⟩
        rw [upd_same, List.take_add_one, hd1]
        simp [e1]
      · have hm : ¬ d.1 ∈ (["neg", "one"] : List Str) := fun z => e (hin.trans (decide_eq_true z))
        have e1 : fcD d = 0 := if_neg hm
        refine ⟨_, eL2, small, ?_, old _⟩
        rw [upd_same, List.take_add_one, hd1]
        simp [e1]
    · obtain ⟨eL, sm⟩ := hp
      rw [List.length_map, awLen hd, List.take_length] at eL
      refine ⟨L, _, rfl, .inl ⟨.inl (.inl eL), fun p hp => ?_⟩⟩
      exact q _ p (sm.trans (same_new hp)) (sm.free hp) upd_same
def spDb (K : PySem.W.Frag) : Sp := fun vs H Q _ => ∃ (r L : Addr) (d : Deed) (told : List Int) (c : Int), vs = [.ref r, .int c, .ref L] ∧ H r = some (.tup (dV d)) ∧ SqL K H L (told.map V.int) ∧ DeedOk told.length d ∧ Q (.int (dbitAt d c told)) H
theorem ok_db {f : Addr} {fd : FuncData} {k : Nat} (F : Fun K "deed_bit" "deed_bit" s_deed_bit f fd) : FnOk P w K mg base CX0 (k + 1) f fd ["deed", "held", "told"] (spDb K) := by
  refine F.ok sc_deed_bit (fun vs H Q E h => ?_) (fun cdv A outer s H vs Q E hr h => ?_)
  · obtain ⟨r, L, d, told, c, rfl, _⟩ := h
    rfl
  · obtain ⟨r, L, d, told, c, rfl, er, eL, ok, q⟩ := h
    refine ⟨_, pss_cons (ps_set (i := 3) sc_deed_bit.nd rfl (.inl rfl) (pe_ix ix_tup (pv 0) pe_int (fun _ _ => rfl)))
      (pss_cons (ps_if (pt_cmpR op_eq (pv 3) pe_str (nomark _)) (pss_one (ps_ret pe_int)) pss_nil)
      (pss_cons (ps_if (pt_cmpR op_eq (pv 3) pe_str (nomark _)) (pss_one (ps_ret pe_int)) pss_nil)
      (pss_cons (ps_if (PW.pt (pw_or (pt_cmpR op_eq (pv 3) pe_str (nomark _)) (pw_or1 (pt_cmpR op_eq (pv 3) pe_str (nomark _))))) (pss_one (ps_ret (pv 1))) pss_nil)
      (pss_cons (ps_set (i := 4) sc_deed_bit.nd rfl (.inl rfl) (pe_ix ix_list (pv 2) (pe_ix ix_tup (pv 0) pe_int (fun _ _ => rfl)) (fun _ _ => rfl)))
      (pss_cons (ps_if (pt_cmpR op_eq (pv 3) pe_str (nomark _)) (pss_one (ps_ret (pe_op op_sub pe_int (pv 4)))) pss_nil)
      (pss_cons (ps_if (pt_cmpR op_eq (pv 3) pe_str (nomark _)) (pss_one (ps_ret (pe_op op_xor (pe_op op_sub pe_int (pv 4)) (pv 1)))) pss_nil)
      (pss_cons (ps_set (i := 5) sc_deed_bit.nd rfl (.inl rfl) (pe_ix ix_list (pv 2) (pe_ix ix_tup (pv 0) pe_int (fun _ _ => rfl)) (fun _ _ => rfl)))
      (pss_cons (ps_if (pt_cmpR op_eq (pv 3) pe_str (nomark _)) (pss_one (ps_ret (pe_op op_and (pv 4) (pv 5)))) pss_nil)
      (pss_cons (ps_if (pt_cmpR op_eq (pv 3) pe_str (nomark _)) (pss_one (ps_ret (pe_op op_or (pv 4) (pv 5)))) pss_nil)
      (pss_cons (ps_if (pt_cmpR op_eq (pv 3) pe_str (nomark _)) (pss_one (ps_ret (pe_op op_xor (pv 4) (pv 5)))) pss_nil)
      (pss_one (ps_ret (pe_op op_xor (pe_op op_xor (pv 4) (pv 5)) (pv 1)))))))))))))), ?_⟩
    unfold dbitAt dbit at q
    refine ⟨.ref r, rfl, r, _, 0, .str d.1, rfl, rfl, SqT.of er, dv0 d, ?_⟩
    refine ⟨.str d.1, rfl, rfl, _, rfl, ite2 (fun e => ?_) (fun n1 => ?_)⟩
    · rw [if_pos (strEq e)] at q
      exact q
    rw [if_neg (strNe n1)] at q
    refine ⟨.str d.1, rfl, rfl, _, rfl, ite2 (fun e => ?_) (fun n2 => ?_)⟩
    · rw [if_pos (strEq e)] at q
      exact q
    rw [if_neg (strNe n2)] at q
    refine ⟨.str d.1, rfl, rfl, _, rfl, ite2 (fun e => ?_) (fun n3 => ?_)⟩
    · rw [if_pos (strEq e)] at q
      exact ⟨.int c, rfl, q⟩
    rw [if_neg (strNe n3)] at q
    refine ⟨.str d.1, rfl, rfl, _, rfl, ite2 (fun e => ?_) (fun n4 => ?_)⟩
    · rw [if_pos (strEq e)] at q
      exact ⟨.int c, rfl, q⟩
    rw [if_neg (strNe n4)] at q
    obtain ⟨i, hi, ai, ei⟩ := arg1 ok (strNe n1) (strNe n3) (strNe n2)
    refine ⟨.ref L, rfl, .ref r, rfl, r, _, 1, .int i, rfl, rfl, SqT.of er, dvN (k := 0) hi, L, _, i, .int (argAt d told 0), rfl, rfl, eL, ei, ?_⟩
    refine ⟨.str d.1, rfl, rfl, _, rfl, ite2 (fun e => ?_) (fun n5 => ?_)⟩
    · rw [if_pos (strEq e)] at q
      exact ⟨.int _, rfl, 1, _, rfl, rfl, q⟩
    rw [if_neg (strNe n5)] at q
    refine ⟨.str d.1, rfl, rfl, _, rfl, ite2 (fun e => ?_) (fun n6 => ?_)⟩
    · rw [if_pos (strEq e)] at q
      exact ⟨.int _, rfl, 1, _, rfl, rfl, .int c, rfl, _, _, rfl, rfl, q⟩
    rw [if_neg (strNe n6)] at q
    obtain ⟨j, hj, aj, ej⟩ := arg2 ok (strNe n1) (strNe n3) (strNe n2) (strNe n5) (strNe n6) (strNe n4)
    refine ⟨.ref L, rfl, .ref r, rfl, r, _, 2, .int j, rfl, rfl, SqT.of er, dvN (k := 1) hj, L, _, j, .int (argAt d told 1), rfl, rfl, eL, ej, ?_⟩
    refine ⟨.str d.1, rfl, rfl, _, rfl, ite2 (fun e => ?_) (fun n7 => ?_)⟩
    · rw [if_pos (strEq e)] at q
      exact ⟨.int _, rfl, .int _, rfl, _, _, rfl, rfl, q⟩
    rw [if_neg (strNe n7)] at q
    refine ⟨.str d.1, rfl, rfl, _, rfl, ite2 (fun e => ?_) (fun n8 => ?_)⟩
    · rw [if_pos (strEq e)] at q
      exact ⟨.int _, rfl, .int _, rfl, _, _, rfl, rfl, q⟩
    rw [if_neg (strNe n8)] at q
    refine ⟨.str d.1, rfl, rfl, _, rfl, ite2 (fun e => ?_) (fun n9 => ?_)⟩
    · rw [if_pos (strEq e)] at q
      exact ⟨.int _, rfl, .int _, rfl, _, _, rfl, rfl, q⟩
    rw [if_neg (strNe n9)] at q
    exact ⟨.int _, rfl, .int _, rfl, _, _, rfl, rfl, .int c, rfl, _, _, rfl, rfl, q⟩
def spBo : Sp := fun vs H Q _ => ∃ (R C B : Addr) (m o : Int) (ds : List Deed) (cs bs : List Int), vs = [.ref R, .ref C, .ref B] ∧ RowAt H R m ds o ∧ DsOk m ds ∧ ds.length ≤ 100 ∧ H C = some (.tup (cs.map V.int)) ∧ cs.length = ds.length ∧ H B = some (.tup (bs.map V.int)) ∧ (bs.length : Int) = m ∧ bs.length ≤ 100 ∧
  ∀ H' p, Same H H' → H p = none → H' p = some (.tup ((bts ds cs bs).map V.int)) → Q (.ref p) H'
theorem ok_bo {f fB : Addr} {fd fdB : FuncData} {k : Nat} (F : Fun K "bits_of" "bits_of" s_bits_of f fd) (GB : FnOk P w K mg base CX0 (k + 1) fB fdB ["deed", "held", "told"] (spDb K)) (kB : PySem.W.keepIn K (.ref fB) = true) (bB : Binds K fdB ["deed", "held", "told"] []) (gB : mg "deed_bit" = some (.ref fB))
    (ml : mg "list" = none) (mt : mg "tuple" = none) (mz : mg "zip" = none) : FnOk P w K mg base CX0 (k + 2) f fd ["row", "carry", "bits"] spBo := by
  refine F.ok sc_bits_of (fun vs H Q E h => ?_) (fun cdv A outer s H vs Q E hr h => ?_)
  · obtain ⟨R, C, B, m, o, ds, cs, bs, rfl, _⟩ := h
    rfl
  · obtain ⟨R, C, B, m, o, ds, cs, bs, rfl, hrow, hok, hds, eC, hcl, eB, hm, hbl, q⟩ := h
    obtain ⟨D, rs, eR, eD, hd⟩ := id hrow
    refine ⟨_, pss_cons (ps_set (i := 3) sc_bits_of.nd rfl (.inl rfl) (pe_callTy call_list_of (by rfl) ml (by decide +kernel) (pa_cons (pv 2) pa_nil)))
      (pss_cons (ps_for PassesOwn.never rfl (RZ.pi_zipA (by rfl) mz (pa_cons (pe_ix ix_tup (pv 0) pe_int (fun _ _ => rfl)) (pa_cons (pv 1) pa_nil))) (pg_tup rfl (pgs_cons (pg_name (i := 4) sc_bits_of.nd rfl (.inl rfl)) (pgs_cons (pg_name (i := 5) sc_bits_of.nd rfl (.inl rfl)) pgs_nil)))
        (pss_one (ps_expr (pe_bm PySem.F.plainAttrs_list PySem.F.slot_list_append PySem.F.type_list_append mt_append (pv 3) (pa_cons (pe_call GB hr (by rfl) gB kB bB .nil pass0 (pa_cons (pv 4) (pa_cons (pv 5) (pa_cons (pv 3) pa_nil)))) pa_nil)))))
      (pss_one (ps_ret (pe_callTy call_tuple_of (by rfl) mt (by decide +kernel) (pa_cons (pv 3) pa_nil))))), ?_⟩
    refine ⟨.ref B, rfl, B, _, rfl, .inr (SqT.of eB), fun L hL => ?_⟩
    have sL := same_new (o := .lst (bs.map V.int)) hL
    have lrs : (rs.map V.ref).length = ds.length := by rw [List.length_map, awLen hd]
    have lcs : (cs.map V.int).length = ds.length := by rw [List.length_map, hcl]
    refine ⟨.ref R, rfl, R, _, 1, .ref D, rfl, rfl, SqT.of (sL _ _ eR), rfl, .ref C, rfl, D, C, _, _, rfl, .inr ⟨SqT.of (sL _ _ eD), SqT.of (sL _ _ eC), RZ.for_zipT (K := K) (xs := rs.map V.ref) (ys := cs.map V.int) (lrs.trans lcs.symm) (fun i σ H3 => ∃ y4 y5, σ = [some (.ref R), some (.ref C), some (.ref B), some (.ref L), y4, y5] ∧ H3 L = some (.lst ((bts (ds.take i) (cs.take i) bs).map V.int)) ∧ Same H H3) ⟨none, none, rfl, by rw [upd_same]; cases ds <;> rfl, sL⟩ (fun i σ H3 hp => ?_) (fun i x y T σ H3 hx hy hp hT => ?_) (fun σ H3 hp => ?_)⟩⟩
    · obtain ⟨_, _, _, _, sm⟩ := hp
      exact ⟨SqT.of (sm _ _ eD), SqT.of (sm _ _ eC)⟩
    · obtain ⟨y4, y5, rfl, e3, sm⟩ := hp
      have hi : i < rs.length := by
        have := (List.getElem?_eq_some_iff.mp hx).1
        rwa [List.length_map] at this
      have hx' : x = .ref rs[i] := by
        rw [List.getElem?_map, List.getElem?_eq_getElem hi] at hx
        exact (Option.some.inj hx).symm
      subst hx'
      obtain ⟨d, hd1, hd2⟩ := awGet hd (List.getElem?_eq_getElem hi)
      obtain ⟨c, hc, rfl⟩ : ∃ c, cs[i]? = some c ∧ y = .int c := by
        rw [List.getElem?_map] at hy
        cases e : cs[i]? with
        | none => rw [e] at hy; cases hy
        | some c => rw [e] at hy; exact ⟨c, rfl, (Option.some.inj hy).symm⟩
      have h2 : i < ds.length := by
        rw [← awLen hd]
        exact hi
      have hlen : (bts (ds.take i) (cs.take i) bs).length = bs.length + i := by
        rw [bts_len (by rw [List.length_take, List.length_take, hcl]), List.length_take, Nat.min_eq_left (Nat.le_of_lt h2)]
      have okd : DeedOk (bts (ds.take i) (cs.take i) bs).length d := by
        rw [hlen]
        have := hok.each i d hd1
        rw [← hm] at this
        exact this
      have sT := same_new (o := .tup [.ref rs[i], .int c]) hT
      have e4 := sT _ _ e3
      refine ⟨T, [.ref rs[i], .int c], rfl, .inl (.inl upd_same), rfl, .ref rs[i], [.int c], rfl, .int c, [], rfl, rfl, ?_⟩
      refine ⟨.ref L, rfl, .inl ⟨rfl, _, .inl (.inl e4)⟩, .ref rs[i], rfl, .int c, rfl, .ref L, rfl, rs[i], L, d, _, c, rfl, sT _ _ (sm _ _ hd2), .inl (.inl e4), okd, L, _, _, rfl, rfl, e4, ?_, some (.ref rs[i]), some (.int c), rfl, ?_, ?_⟩
      · rw [List.length_map, hlen]
        exact small1000 (by omega)
      · rw [upd_same, bts_next hd1 hc, List.map_append]
        rfl
      · intro b u e
        rw [upd_ne (ne_of_none e hL)]
        exact sT b u (sm b u e)
    · obtain ⟨y4, y5, rfl, e3, sm⟩ := hp
      rw [lrs, List.take_length, ← hcl, List.take_length] at e3
      refine ⟨.ref L, rfl, L, _, rfl, .inl ⟨.inl (.inl e3), fun p hp => ?_⟩⟩
      exact q _ p (sm.trans (same_new hp)) (sm.free hp) upd_same
def spTm : Sp := fun vs H Q _ => ∃ a b c : Int, vs = [.int a, .int b, .int c] ∧ Q (.int ((a + b + c) / 2)) H
theorem ok_tm {f : Addr} {fd : FuncData} {k : Nat} (F : Fun K "two_or_more" "two_or_more" s_two_or_more f fd) : FnOk P w K mg base CX0 (k + 1) f fd ["one", "other", "third"] spTm := by
  refine F.ok sc_two_or_more (fun vs H Q E h => ?_) (fun cdv A outer s H vs Q E hr h => ?_)
  · obtain ⟨a, b, c, rfl, _⟩ := h
    rfl
  · obtain ⟨a, b, c, rfl, q⟩ := h
    refine ⟨_, pss_one (ps_ret (pe_op op_fdiv (pe_op op_add (pe_op op_add (pv 0) (pv 1)) (pv 2)) pe_int)), ?_⟩
    exact ⟨.int a, rfl, .int b, rfl, a, b, rfl, rfl, .int c, rfl, _, c, rfl, rfl, _, 2, rfl, rfl, ⟨by decide, by decide⟩, q⟩
def spDc : Sp := fun vs H Q _ => ∃ (r L : Addr) (d : Deed) (told : List Int) (c : Int), vs = [.ref r, .int c, .ref L] ∧ H r = some (.tup (dV d)) ∧ H L = some (.tup (told.map V.int)) ∧ DeedOk told.length d ∧ Q (.int (dcarAt d c told)) H
theorem ok_dc {f fT : Addr} {fd fdT : FuncData} {k : Nat} (F : Fun K "deed_carry" "deed_carry" s_deed_carry f fd) (GT : FnOk P w K mg base CX0 (k + 1) fT fdT ["one", "other", "third"] spTm) (kT : PySem.W.keepIn K (.ref fT) = true) (bT : Binds K fdT ["one", "other", "third"] []) (gT : mg "two_or_more" = some (.ref fT)) :
    FnOk P w K mg base CX0 (k + 2) f fd ["deed", "held", "told"] spDc := by
  refine F.ok sc_deed_carry (fun vs H Q E h => ?_) (fun cdv A outer s H vs Q E hr h => ?_)
  · obtain ⟨r, L, d, told, c, rfl, _⟩ := h
    rfl
  · obtain ⟨r, L, d, told, c, rfl, er, eL, ok, q⟩ := h
    refine ⟨_, pss_cons (ps_set (i := 3) sc_deed_carry.nd rfl (.inl rfl) (pe_ix ix_tup (pv 0) pe_int (fun _ _ => rfl)))
      (pss_cons (ps_if (pt_cmpR op_eq (pv 3) pe_str (nomark _)) (pss_one (ps_ret (pe_op op_and (pe_op op_sub pe_int (pe_ix ix_tup (pv 2) (pe_ix ix_tup (pv 0) pe_int (fun _ _ => rfl)) (fun _ _ => rfl))) (pv 1)))) pss_nil)
      (pss_cons (ps_if (pt_cmpR op_eq (pv 3) pe_str (nomark _)) (pss_one (ps_ret (pe_ix ix_tup (pv 2) (pe_ix ix_tup (pv 0) pe_int (fun _ _ => rfl)) (fun _ _ => rfl)))) pss_nil)
      (pss_cons (ps_if (pt_cmpR op_eq (pv 3) pe_str (nomark _)) (pss_one (ps_ret (pe_call GT hr (by rfl) gT kT bT .nil pass0 (pa_cons (pe_ix ix_tup (pv 2) (pe_ix ix_tup (pv 0) pe_int (fun _ _ => rfl)) (fun _ _ => rfl)) (pa_cons (pe_ix ix_tup (pv 2) (pe_ix ix_tup (pv 0) pe_int (fun _ _ => rfl)) (fun _ _ => rfl)) (pa_cons (pv 1) pa_nil)))))) pss_nil)
      (pss_cons (ps_if (pt_cmpR op_eq (pv 3) pe_str (nomark _)) (pss_one (ps_ret (pe_call GT hr (by rfl) gT kT bT .nil pass0 (pa_cons (pe_op op_sub pe_int (pe_ix ix_tup (pv 2) (pe_ix ix_tup (pv 0) pe_int (fun _ _ => rfl)) (fun _ _ => rfl))) (pa_cons (pe_ix ix_tup (pv 2) (pe_ix ix_tup (pv 0) pe_int (fun _ _ => rfl)) (fun _ _ => rfl)) (pa_cons (pv 1) pa_nil)))))) pss_nil)
      (pss_one (ps_ret pe_int)))))), ?_⟩
    unfold dcarAt dcar at q
    have lL : SqT K H L (told.map V.int) := SqT.of eL
    refine ⟨.ref r, rfl, r, _, 0, .str d.1, rfl, rfl, SqT.of er, dv0 d, ?_⟩
    refine ⟨.str d.1, rfl, rfl, _, rfl, ite2 (fun e => ?_) (fun n1 => ?_)⟩
    · rw [if_pos (strEq e)] at q
      have e2 := strEq e
      obtain ⟨i, hi, ai, ei⟩ := arg1 ok (by rw [e2]; decide +kernel) (by rw [e2]; decide +kernel) (by rw [e2]; decide +kernel)
      exact ⟨.ref L, rfl, .ref r, rfl, r, _, 1, .int i, rfl, rfl, SqT.of er, dvN (k := 0) hi, L, _, i, _, rfl, rfl, lL, ei, 1, _, rfl, rfl, .int c, rfl, _, _, rfl, rfl, q⟩
    rw [if_neg (strNe n1)] at q
    refine ⟨.str d.1, rfl, rfl, _, rfl, ite2 (fun e => ?_) (fun n2 => ?_)⟩
    · rw [if_pos (strEq e)] at q
      have e2 := strEq e
      obtain ⟨i, hi, ai, ei⟩ := arg1 ok (by rw [e2]; decide +kernel) (by rw [e2]; decide +kernel) (by rw [e2]; decide +kernel)
      exact ⟨.ref L, rfl, .ref r, rfl, r, _, 1, .int i, rfl, rfl, SqT.of er, dvN (k := 0) hi, L, _, i, _, rfl, rfl, lL, ei, q⟩
    rw [if_neg (strNe n2)] at q
    refine ⟨.str d.1, rfl, rfl, _, rfl, ite2 (fun e => ?_) (fun n3 => ?_)⟩
    · rw [if_pos (strEq e)] at q
      have e2 := strEq e
      obtain ⟨i, hi, ai, ei⟩ := arg1 ok (by rw [e2]; decide +kernel) (by rw [e2]; decide +kernel) (by rw [e2]; decide +kernel)
      obtain ⟨j, hj, aj, ej⟩ := arg2 ok (by rw [e2]; decide +kernel) (by rw [e2]; decide +kernel) (by rw [e2]; decide +kernel) (by rw [e2]; decide +kernel) (by rw [e2]; decide +kernel) (by rw [e2]; decide +kernel)
      exact ⟨.ref L, rfl, .ref r, rfl, r, _, 1, .int i, rfl, rfl, SqT.of er, dvN (k := 0) hi, L, _, i, _, rfl, rfl, lL, ei, .ref L, rfl, .ref r, rfl, r, _, 2, .int j, rfl, rfl, SqT.of er, dvN (k := 1) hj, L, _, j, _, rfl, rfl, lL, ej, .int c, rfl, _, _, c, rfl, q⟩
    rw [if_neg (strNe n3)] at q
    refine ⟨.str d.1, rfl, rfl, _, rfl, ite2 (fun e => ?_) (fun n4 => ?_)⟩
    · rw [if_pos (strEq e)] at q
      have e2 := strEq e
      obtain ⟨i, hi, ai, ei⟩ := arg1 ok (by rw [e2]; decide +kernel) (by rw [e2]; decide +kernel) (by rw [e2]; decide +kernel)
      obtain ⟨j, hj, aj, ej⟩ := arg2 ok (by rw [e2]; decide +kernel) (by rw [e2]; decide +kernel) (by rw [e2]; decide +kernel) (by rw [e2]; decide +kernel) (by rw [e2]; decide +kernel) (by rw [e2]; decide +kernel)
      exact ⟨.ref L, rfl, .ref r, rfl, r, _, 1, .int i, rfl, rfl, SqT.of er, dvN (k := 0) hi, L, _, i, _, rfl, rfl, lL, ei, 1, _, rfl, rfl, .ref L, rfl, .ref r, rfl, r, _, 2, .int j, rfl, rfl, SqT.of er, dvN (k := 1) hj, L, _, j, _, rfl, rfl, lL, ej, .int c, rfl, _, _, c, rfl, q⟩
    rw [if_neg (strNe n4)] at q
    exact q
theorem okd_more {m : Int} {i n : Nat} {d : Deed} (h : DeedOk (m + i) d) (hn : m + i ≤ n) : DeedOk n d := ⟨h.word, fun z hz => ⟨(h.ahead z hz).1, by have := (h.ahead z hz).2; omega⟩⟩
/-- bits, none where nothing carries -/
def Shp : List Deed → List Int → Prop
  | [], [] => True
  | d :: ds, c :: cs => Bit c ∧ (d.1 ∉ twC → c = 0) ∧ Shp ds cs
  | _, _ => False
theorem Shp.len : ∀ {ds : List Deed} {cs : List Int}, Shp ds cs → cs.length = ds.length
  | [], [], _ => rfl
  | [], _ :: _, h => h.elim
  | _ :: _, [], h => h.elim
  | _ :: _, _ :: _, h => congrArg (· + 1) (Shp.len h.2.2)
theorem Shp.bits : ∀ {ds : List Deed} {cs : List Int}, Shp ds cs → ∀ c ∈ cs, Bit c
  | [], [], _ => (fun _ z => nomatch z)
  | [], _ :: _, h => h.elim
  | _ :: _, [], h => h.elim
  | _ :: _, _ :: _, h => fun c hc => by
    rcases List.mem_cons.mp hc with rfl | hc
    · exact h.1
    · exact Shp.bits h.2.2 c hc
theorem calm_first {d : Deed} (h : d.1 ∉ twC) : fcD d = 0 := by
  unfold fcD
  rw [if_neg]
  intro z
  simp only [List.mem_cons, List.not_mem_nil, or_false] at z
  simp only [twC, List.mem_cons, List.not_mem_nil, or_false, not_or] at h
  rcases z with z | z
  · exact h.2.2.2.1 z
  · exact h.2.2.2.2 z
theorem shp_first : ∀ ds : List Deed, Shp ds (ds.map fcD)
  | [] => trivial
  | d :: ds => ⟨(by unfold fcD; split; exact bit1; exact bit0), calm_first, shp_first ds⟩
theorem pigeon {α : Type} [DecidableEq α] : ∀ (l D : List α), l.Nodup → (∀ x ∈ l, x ∈ D) → l.length ≤ D.length
  | [], _, _, _ => Nat.zero_le _
  | x :: l, D, nd, h => by
    rw [List.nodup_cons] at nd
    have hx := h x List.mem_cons_self
    have ih := pigeon l (D.erase x) nd.2 fun y hy => (List.mem_erase_of_ne (fun e : y = x => nd.1 (by rw [← e]; exact hy))).mpr (h y (List.mem_cons_of_mem _ hy))
    rw [List.length_erase_of_mem hx] at ih
    have := List.length_pos_of_mem hx
    rw [List.length_cons]
    omega
theorem walk_gen {J : It} {n : Nat} {G : Hp → Prop} {Y : Nat → Hp → V → Hp → Prop} (w : Walk J n G Y) {g : TG} {σ0 : L2.St} {B : (Hp → Prop) → L2.St → Hp → Prop} {H0 : Hp} {Qd : Hp → Prop} (Pv : Nat → Hp → Prop) (h0 : Pv 0 H0)
    (hG : ∀ i H, i ≤ n → Pv i H → G H) (hs : ∀ i x H H', i < n → Pv i H → Y i H x H' → g x σ0 H' fun σ2 H2 => B (Pv (i + 1)) σ2 H2) (hd : ∀ H, Pv n H → Qd H) :
    ∃ W : Nat → Nat → Hp → Prop, (∃ m, W 0 m H0) ∧ ∀ i m H, W i m H → (J.stop i H ∧ Qd H) ∨ (J.go i H ∧ ∃ Nx : Hp → Prop, (∀ H', Nx H' → ∃ m', m' < m ∧ W (i + 1) m' H') ∧ ∀ x H', J.yld i H x H' → g x σ0 H' fun σ2 H2 => B Nx σ2 H2) := by
  refine ⟨fun i m H => m = n - i ∧ i ≤ n ∧ Pv i H, ⟨n, by simp, Nat.zero_le _, h0⟩, ?_⟩
  rintro i m H ⟨rfl, hi, q⟩
  by_cases lt : i < n
  · exact .inr ⟨w.goes i H lt (hG i H hi q), Pv (i + 1), fun H' z => ⟨n - (i + 1), by omega, rfl, lt, z⟩, fun x H' y => hs i x H H' lt q (w.yields i H x H' lt (hG i H hi q) y)⟩
  · obtain rfl : i = n := by omega
    exact .inl ⟨w.stops H (hG i H hi q), hd H q⟩
def ext2 (l : List (List Int)) : List (List Int) := l.flatMap fun b => [b ++ [0], b ++ [1]]
def allB : Nat → List (List Int)
  | 0 => [[]]
  | m + 1 => ext2 (allB m)
theorem ext2_len (l : List (List Int)) : (ext2 l).length = 2 * l.length := by
  unfold ext2
  induction l with
  | nil => rfl
  | cons b l ih => rw [List.flatMap_cons, List.length_append, ih, List.length_cons]; simp; omega
theorem allB_len : ∀ m, (allB m).length = 2 ^ m
  | 0 => rfl
  | m + 1 => by
    show (ext2 (allB m)).length = _
    rw [ext2_len, allB_len m, Nat.pow_succ]
    omega
theorem allB_ok : ∀ m, ∀ bs ∈ allB m, bs.length = m ∧ ∀ x ∈ bs, Bit x
  | 0, bs, h => by
    rw [List.mem_singleton.mp h]
    exact ⟨rfl, (fun _ z => nomatch z)⟩
  | m + 1, bs, h => by
    obtain ⟨b, hb, h2⟩ := List.mem_flatMap.mp h
    obtain ⟨h3, h4⟩ := allB_ok m b hb
    simp only [List.mem_cons, List.not_mem_nil, or_false] at h2
    rcases h2 with rfl | rfl
    · refine ⟨by rw [List.length_append, h3]; rfl, fun x hx => ?_⟩
      rcases List.mem_append.mp hx with hx | hx
      · exact h4 x hx
      · rw [List.mem_singleton.mp hx]
        exact bit0
    · refine ⟨by rw [List.length_append, h3]; rfl, fun x hx => ?_⟩
      rcases List.mem_append.mp hx with hx | hx
      · exact h4 x hx
      · rw [List.mem_singleton.mp hx]
        exact bit1
theorem allB_all : ∀ m, ∀ bs : List Int, bs.length = m → (∀ x ∈ bs, Bit x) → bs ∈ allB m
  | 0, bs, h, _ => by
    rw [List.eq_nil_of_length_eq_zero h]
    exact List.mem_cons_self
  | m + 1, bs, h, hb => by
    have hne : bs ≠ [] := fun e => by rw [e] at h; simp at h
    have e := List.dropLast_concat_getLast hne
    have h1 : bs.dropLast ∈ allB m := allB_all m _ (by rw [List.length_dropLast, h]; rfl) fun x hx => hb x ((List.dropLast_sublist bs).subset hx)
    refine List.mem_flatMap.mpr ⟨_, h1, ?_⟩
    rcases hb _ (List.getLast_mem hne) with z | z
    · rw [z] at e
      exact List.mem_cons.mpr (.inl e.symm)
    · rw [z] at e
      exact List.mem_cons.mpr (.inr (List.mem_singleton.mpr e.symm))
/-- tuples of ints -/
abbrev TAt (H : Hp) : List Addr → List (List Int) → Prop := Paired fun f bs => H f = some (.tup (bs.map V.int))
theorem tat_stay {H H' : Hp} (t : TupsStay H H') {fs : List Addr} {l : List (List Int)} (h : TAt H fs l) : TAt H' fs l := awMap (fun f b e => t f _ e) h
def spAll : Sp := fun vs H Q _ => ∃ m : Nat, vs = [.int (m : Int)] ∧ m ≤ 3 ∧ ∀ H' p fs, Same H H' → H p = none → H' p = some (.lst (fs.map V.ref)) → TAt H' fs (allB m) → Q (.ref p) H'
theorem ok_all {f : Addr} {fd : FuncData} {k : Nat} (F : Fun K "all_bits" "all_bits" s_all_bits f fd) (mr : mg "range" = none) : FnOk P w K mg base CX0 (k + 1) f fd ["many"] spAll := by
  refine F.ok sc_all_bits (fun vs H Q E h => ?_) (fun cdv A outer s H vs Q E hr h => ?_)
  · obtain ⟨m, rfl, _⟩ := h
    rfl
  · obtain ⟨m, rfl, m3, q⟩ := h
    refine ⟨_, pss_cons (ps_set (i := 1) sc_all_bits.nd rfl (.inl rfl) (pe_lst (pa_cons (pe_tup pa_nil) pa_nil)))
      (pss_cons (ps_for PassesOwn.never rfl (pi_range1 (by rfl) mr (pa_cons (pv 0) pa_nil)) (pg_name (i := 2) sc_all_bits.nd rfl (.inl rfl))
        (pss_one (ps_setLc2 (i := 1) (own := [("bits", 3), ("bit", 4)]) (vs1 := [4]) (g := gName 3) (g1 := gName 4) (wi1 := iTup K (tTup (tCons (tC (.int 0)) (tCons (tC (.int 1)) tNil)))) (by rfl) sc_all_bits.nd rfl rfl (sw_true rfl rfl rfl (by decide +kernel)) (pi_list (pv 1)) (blkOk_by (own := [("bits", 3), ("bit", 4)]) (N := N_all_bits) (sc := defScope s_all_bits) (by decide +kernel)) (by decide)
          (fun _ _ _ _ _ => pg_name (i := 3) sc_all_bits.nd rfl (Or.inl rfl)) (fun _ _ _ _ _ => pts_nil) (fun _ _ _ _ _ => pi_tup (pe_tup (pa_cons pe_int (pa_cons pe_int pa_nil))))
          (fun _ _ _ _ _ => pg_name (i := 4) sc_all_bits.nd rfl (Or.inl rfl)) (fun _ _ _ _ _ => pts_nil) (fun _ _ _ _ _ => pe_op op_catZ (pv 3) (pe_tup (pa_cons (pv 4) pa_nil))))))
      (pss_one (ps_ret (pv 1)))), ?_⟩
    refine ⟨by show 0 ≤ sizeLine; decide, fun T hT => ⟨by show 1 ≤ sizeLine; decide, fun L hL => ?_⟩⟩
    have s1 := same_new (o := .tup []) hT
    have s2 := same_new (o := .lst [.ref T]) hL
    refine ⟨.int m, rfl, m, rfl, by omega, by omega, for_range (lo := 0) (n := m) (fun i σ H3 => ∃ y2 F1 fs, σ = [some (.int (m : Int)), some (.ref F1), y2, none, none] ∧ H F1 = none ∧ H3 F1 = some (.lst (fs.map V.ref)) ∧ TAt H3 fs (allB i) ∧ Same H H3) ⟨none, L, [T], rfl, s1.free hL, upd_same, .cons (s2 _ _ upd_same) .nil, s1.trans s2⟩ (fun i σ H3 hi hp => ?_) (fun σ H3 hp => ?_)⟩
    · obtain ⟨y2, F1, fs, rfl, nF, eF, hf, sm⟩ := hp
      have fl : fs.length ≤ 8 := by
        rw [awLen hf, allB_len]
        exact Nat.le_trans (Nat.pow_le_pow_right (by decide) (show i ≤ 3 by omega)) (by decide)
      refine ⟨.ref F1, rfl, F1, rfl, ⟨_, .inl (.inl eF)⟩, fun M hM => ?_⟩
      refine walk_gen (walk_list (K := K) (a := F1) (xs := fs.map V.ref)) (fun j H4 => ∃ gs, H4 M = some (.lst (gs.map V.ref)) ∧ TAt H4 gs (ext2 ((allB i).take j)) ∧ Same H3 H4) ⟨[], upd_same, .nil, same_new hM⟩ (fun j H4 _ hp => ?_) (fun j x H4 H5 hj hp hy => ?_) (fun H4 hp => ?_)
      · obtain ⟨_, _, _, s4⟩ := hp
        exact .inl (.inl (s4 _ _ eF))
      · obtain ⟨gs, eM, hg, s4⟩ := hp
        obtain ⟨rfl, hx⟩ := hy
        have hj2 : j < fs.length := by rwa [List.length_map] at hj
        have hx' : x = .ref fs[j] := by
          rw [List.getElem?_map, List.getElem?_eq_getElem hj2] at hx
          exact (Option.some.inj hx).symm
        subst hx'
        obtain ⟨b, hb1, hb2⟩ := awGet hf (List.getElem?_eq_getElem hj2)
        have bl : b.length = i := (allB_ok i b (List.mem_of_getElem? hb1)).1
        refine ⟨rfl, by show 2 ≤ sizeLine; decide, fun U hU => ?_⟩
        have sU := same_new (o := .tup [.int 0, .int 1]) hU
        refine ⟨U, rfl, ⟨_, SqT.of upd_same⟩, ?_⟩
        refine walk_gen (walk_tup (K := K) (a := U) (xs := [.int 0, .int 1])) (fun t H6 => ∃ gs, H6 M = some (.lst (gs.map V.ref)) ∧ TAt H6 gs (ext2 ((allB i).take j) ++ [b ++ [0], b ++ [1]].take t) ∧ TupsStay (upd H5 U (.tup [.int 0, .int 1])) H6 ∧ Same H3 H6) ⟨gs, sU _ _ eM, (by rw [List.take_zero, List.append_nil]; exact tat_stay (Same.tups sU) hg), (fun _ _ e => e), s4.trans sU⟩ (fun t H6 _ hp => ?_) (fun t x H6 H7 ht hp hy => ?_) (fun H6 hp => ?_)
        · obtain ⟨_, _, _, t6, _⟩ := hp
          exact SqT.of (t6 _ _ upd_same)
        · obtain ⟨gs, eM6, hg6, t6, s6⟩ := hp
          obtain ⟨rfl, hx⟩ := hy
          obtain ⟨z, rfl, hz⟩ : ∃ z : Int, x = .int z ∧ [b ++ [0], b ++ [1]].take (t + 1) = [b ++ [0], b ++ [1]].take t ++ [b ++ [z]] := by
            have ht2 : t = 0 ∨ t = 1 := by
              have : t < 2 := ht
              omega
            rcases ht2 with rfl | rfl
            · exact ⟨0, (Option.some.inj hx).symm, rfl⟩
            · exact ⟨1, (Option.some.inj hx).symm, rfl⟩
          have eb := s6 _ _ (hb2)
          refine ⟨rfl, .ref fs[j], rfl, .int z, rfl, by show 1 ≤ sizeLine; decide, fun U2 hU2 => ?_⟩
          have sU2 := same_new (o := .tup [.int z]) hU2
          refine ⟨fs[j], U2, _, _, rfl, rfl, sU2 _ _ eb, upd_same, by rw [List.length_map]; exact Nat.le_of_lt (small1000 (by show b.length + 1 ≤ 1000; omega)), fun p H8 s8 ep => ?_⟩
          have s78 := sU2.trans s8
          have eM8 := s78 _ _ eM6
          have gl := awLen hg6
          have gl2 : gs.length ≤ 18 := by
            rw [gl, List.length_append, ext2_len, List.length_take]
            have e1 : (allB i).length = fs.length := (awLen hf).symm
            have e2 : ([b ++ [0], b ++ [1]].take t).length ≤ 2 := by
              rw [List.length_take]
              exact Nat.min_le_right _ _
            omega
          have tp := tups_put (o := .lst (gs.map V.ref ++ [V.ref p])) eM8
          refine ⟨_, eM8, by rw [List.length_map]; exact small1000 (by omega), gs ++ [p], ?_, ?_, ?_, ?_⟩
          · rw [upd_same, List.map_append]
            rfl
          · rw [hz, ← List.append_assoc]
            refine tat_stay tp (awSnoc (F := fun f (bs : List Int) => H8 f = some (.tup (bs.map V.int))) ?_ (tat_stay (Same.tups s78) hg6))
            rw [ep, List.map_append]
            rfl
          · exact (t6.trans (Same.tups s78)).trans tp
          · intro c u e
            rw [upd_ne (ne_of_none e hM)]
            exact s78 c u (s6 c u e)
        · obtain ⟨gs, eM6, hg6, t6, s6⟩ := hp
          refine ⟨gs, eM6, ?_, s6⟩
          have e1 : ext2 ((allB i).take (j + 1)) = ext2 ((allB i).take j) ++ [b ++ [0], b ++ [1]] := by
            rw [List.take_add_one, hb1]
            unfold ext2
            rw [List.flatMap_append]
            rfl
          rw [e1]
          exact hg6
      · obtain ⟨gs, eM, hg, s4⟩ := hp
        refine ⟨some (.int (0 + i)), M, gs, rfl, sm.free hM, eM, ?_, sm.trans s4⟩
        rw [List.length_map, awLen hf, List.take_length] at hg
        exact hg
    · obtain ⟨y2, F1, fs, rfl, nF, eF, hf, sm⟩ := hp
      exact ⟨.ref F1, rfl, q _ F1 fs sm nF eF hf⟩
def spCb : Sp := fun vs H Q _ => ∃ (R C T : Addr) (m o : Int) (ds : List Deed) (cs told : List Int), vs = [.ref R, .ref C, .ref T] ∧ RowAt H R m ds o ∧ DsOk m ds ∧ ds.length ≤ 100 ∧ H C = some (.tup (cs.map V.int)) ∧ cs.length = ds.length ∧ H T = some (.tup (told.map V.int)) ∧ (told.length : Int) = m + ds.length ∧
  ∀ H' p, Same H H' → H p = none → H' p = some (.tup ((nxt ds cs told).map V.int)) → Q (.ref p) H'
theorem ok_cb {f fC : Addr} {fd fdC : FuncData} {k : Nat} (F : Fun K "carry_behind" "carry_behind" s_carry_behind f fd)
    (GC : FnOk P w K mg base CX0 (k + 2) fC fdC ["deed", "held", "told"] spDc) (kC : PySem.W.keepIn K (.ref fC) = true) (bC : Binds K fdC ["deed", "held", "told"] []) (gC : mg "deed_carry" = some (.ref fC)) (mt : mg "tuple" = none) (mz : mg "zip" = none) : FnOk P w K mg base CX0 (k + 3) f fd ["row", "carry", "told"] spCb := by
  refine F.ok sc_carry_behind (fun vs H Q E h => ?_) (fun cdv A outer s H vs Q E hr h => ?_)
  · obtain ⟨R, C, T, m, o, ds, cs, told, rfl, _⟩ := h
    rfl
  · obtain ⟨R, C, T, m, o, ds, cs, told, rfl, hrow, hok, hds, eC, hcl, eT, htl, q⟩ := h
    obtain ⟨D, rs, eR, eD, hd⟩ := id hrow
    refine ⟨_, pss_one (ps_ret (pe_callTy call_tuple_of (by rfl) mt (by decide +kernel) (pa_cons
        (pe_lc (own := [("deed", 3), ("held", 4)]) (g := gTup K 2 (gCons (gName 3) (gCons (gName 4) gNil))) (by rfl) sc_carry_behind.nd (RZ.pi_zipA (by rfl) mz (pa_cons (pe_ix ix_tup (pv 0) pe_int (fun _ _ => rfl)) (pa_cons (pv 1) pa_nil))) (blkOk_by (own := [("deed", 3), ("held", 4)]) (N := N_carry_behind) (sc := defScope s_carry_behind) (by decide +kernel))
          (fun _ _ _ _ _ => pg_tup rfl (pgs_cons (pg_name (i := 3) sc_carry_behind.nd rfl (.inl rfl)) (pgs_cons (pg_name (i := 4) sc_carry_behind.nd rfl (.inl rfl)) pgs_nil))) (fun _ _ _ _ _ => pts_nil)
          (fun _ _ _ _ _ => pe_call GC hr (by rfl) gC kC bC .nil pass0 (pa_cons (pv 3) (pa_cons (pv 4) (pa_cons (pv 2) pa_nil))))) pa_nil))), ?_⟩
    have lrs : (rs.map V.ref).length = ds.length := by rw [List.length_map, awLen hd]
    have lcs : (cs.map V.int).length = ds.length := by rw [List.length_map, hcl]
    refine ⟨.ref R, rfl, R, _, 1, .ref D, rfl, rfl, SqT.of eR, rfl, .ref C, rfl, D, C, _, _, rfl, .inr ⟨SqT.of eD, SqT.of eC, fun L hL => ?_⟩⟩
    refine lc_it (walk_zipT (K := K) (a := D) (b := C) (xs := rs.map V.ref) (ys := cs.map V.int) (lrs.trans lcs.symm)) (fun i H4 => H4 L = some (.lst (((nxt ds cs told).take i).map V.int)) ∧ Same H H4) ⟨upd_same, same_new hL⟩ (fun i H4 _ hp => ⟨SqT.of (hp.2 _ _ eD), SqT.of (hp.2 _ _ eC)⟩) (fun i x H4 H5 hi hp hy => ?_) (fun H4 hp => ?_)
    · obtain ⟨eL, sm⟩ := hp
      obtain ⟨U, x1, x2, rfl, hU, rfl, g1, g2⟩ := hy
      have hi2 : i < rs.length := by rwa [List.length_map] at hi
      have hx' : x1 = .ref rs[i] := by
        have g1' : (rs.map V.ref)[i]? = some x1 := g1
        rw [List.getElem?_map, List.getElem?_eq_getElem hi2] at g1'
        exact (Option.some.inj g1').symm
      subst hx'
      obtain ⟨d, hd1, hd2⟩ := awGet hd (List.getElem?_eq_getElem hi2)
      obtain ⟨c, hc, rfl⟩ : ∃ c, cs[i]? = some c ∧ x2 = .int c := by
        have g2' : (cs.map V.int)[i]? = some x2 := g2
        rw [List.getElem?_map] at g2'
        cases e : cs[i]? with
        | none => rw [e] at g2'; cases g2'
        | some c => rw [e] at g2'; exact ⟨c, rfl, (Option.some.inj g2').symm⟩
      have h2 : i < ds.length := by
        rw [← awLen hd]
        exact hi2
      have okd : DeedOk told.length d := okd_more (hok.each i d hd1) (by omega)
      have sU := same_new (o := .tup [.ref rs[i], .int c]) hU
      refine ⟨U, [.ref rs[i], .int c], rfl, .inl (.inl upd_same), rfl, .ref rs[i], [.int c], rfl, .int c, [], rfl, rfl, rfl, ?_⟩
      refine ⟨.ref rs[i], rfl, .int c, rfl, .ref T, rfl, rs[i], T, d, _, c, rfl, sU _ _ (sm _ _ hd2), sU _ _ (sm _ _ eT), okd, _, sU _ _ eL, ?_, ?_, ?_⟩
      · rw [List.length_map, List.length_take, nxt_len hcl.symm]
        exact small1000 (by omega)
      · rw [upd_same, nxt_next hd1 hc, List.map_append]
        rfl
      · intro b u e
        rw [upd_ne (ne_of_none e hL)]
        exact sU b u (sm b u e)
    · obtain ⟨eL, sm⟩ := hp
      rw [lrs, ← nxt_len (t := told) hcl.symm, List.take_length] at eL
      refine ⟨L, _, rfl, .inl ⟨.inl (.inl eL), fun p hp => ?_⟩⟩
      exact q _ p (sm.trans (same_new hp)) (sm.free hp) upd_same
/-- the steps of a carry: for all bits the bit of out and the next carry -/
def stp (m : Nat) (ds : List Deed) (o : Int) (cs : List Int) : List (Int × List Int) := (allB m).map fun bs => ((bts ds cs bs).getD o.toNat 0, nxt ds cs (bts ds cs bs))
theorem stp_len (m : Nat) (ds : List Deed) (o : Int) (cs : List Int) : (stp m ds o cs).length = 2 ^ m := by
  unfold stp
  rw [List.length_map, allB_len]
abbrev StAt (H : Hp) : List Addr → List (Int × List Int) → Prop := Paired fun q e => ∃ c, H q = some (.tup [.int e.1, .ref c]) ∧ H c = some (.tup (e.2.map V.int))
theorem stat_stay {H H' : Hp} (t : TupsStay H H') {ps : List Addr} {l : List (Int × List Int)} (h : StAt H ps l) : StAt H' ps l := awMap (fun q e z => z.elim fun c y => ⟨c, t _ _ y.1, t _ _ y.2⟩) h
def spSt : Sp := fun vs H Q _ => ∃ (R C : Addr) (m : Nat) (o : Int) (ds : List Deed) (cs : List Int), vs = [.ref R, .ref C] ∧ RowAt H R m ds o ∧ RowOk m ds o ∧ H C = some (.tup (cs.map V.int)) ∧ cs.length = ds.length ∧
  ∀ H' p ps, Same H H' → H p = none → H' p = some (.lst (ps.map V.ref)) → StAt H' ps (stp m ds o cs) → Q (.ref p) H'
theorem ok_st {f fA fB fC : Addr} {fd fdA fdB fdC : FuncData} {k : Nat} (F : Fun K "steps" "steps" s_steps f fd)
    (GA : FnOk P w K mg base CX0 (k + 1) fA fdA ["many"] spAll) (kA : PySem.W.keepIn K (.ref fA) = true) (bA : Binds K fdA ["many"] []) (gA : mg "all_bits" = some (.ref fA))
    (GB : FnOk P w K mg base CX0 (k + 2) fB fdB ["row", "carry", "bits"] spBo) (kB : PySem.W.keepIn K (.ref fB) = true) (bB : Binds K fdB ["row", "carry", "bits"] []) (gB : mg "bits_of" = some (.ref fB))
    (GC : FnOk P w K mg base CX0 (k + 3) fC fdC ["row", "carry", "told"] spCb) (kC : PySem.W.keepIn K (.ref fC) = true) (bC : Binds K fdC ["row", "carry", "told"] []) (gC : mg "carry_behind" = some (.ref fC)) : FnOk P w K mg base CX0 (k + 4) f fd ["row", "carry"] spSt := by
  refine F.ok sc_steps (fun vs H Q E h => ?_) (fun cdv A outer s H vs Q E hr h => ?_)
  · obtain ⟨R, C, m, o, ds, cs, rfl, _⟩ := h
    rfl
  · obtain ⟨R, C, m, o, ds, cs, rfl, hrow, hok, eC, hcl, q⟩ := h
    obtain ⟨D, rs, eR, eD, hd⟩ := id hrow
    have r1 := hr.mono (show k + 1 ≤ k + 3 by omega)
    have r2 := hr.mono (show k + 2 ≤ k + 3 by omega)
    refine ⟨_, pss_cons (ps_set (i := 2) sc_steps.nd rfl (.inl rfl) (pe_lst pa_nil))
      (pss_cons (ps_for PassesOwn.never rfl (pi_list (pe_call GA r1 (by rfl) gA kA bA .nil pass0 (pa_cons (pe_ix ix_tup (pv 0) pe_int (fun _ _ => rfl)) pa_nil))) (pg_name (i := 3) sc_steps.nd rfl (.inl rfl))
        (pss_cons (ps_set (i := 4) sc_steps.nd rfl (.inl rfl) (pe_call GB r2 (by rfl) gB kB bB .nil pass0 (pa_cons (pv 0) (pa_cons (pv 1) (pa_cons (pv 3) pa_nil)))))
        (pss_one (ps_expr (pe_bm PySem.F.plainAttrs_list PySem.F.slot_list_append PySem.F.type_list_append mt_append (pv 2) (pa_cons (pe_tup (pa_cons (pe_ix ix_tup (pv 4) (pe_ix ix_tup (pv 0) pe_int (fun _ _ => rfl)) (fun _ _ => rfl)) (pa_cons (pe_call GC hr (by rfl) gC kC bC .nil pass0 (pa_cons (pv 0) (pa_cons (pv 1) (pa_cons (pv 4) pa_nil)))) pa_nil))) pa_nil))))))
      (pss_one (ps_ret (pv 2)))), ?_⟩
    have m1 := hok.m1
    have m3 := hok.m3
    have l8 := hok.len
    refine ⟨Nat.zero_le _, fun L hL => ?_⟩
    have sL := same_new (o := .lst []) hL
    refine ⟨.ref R, rfl, R, _, 0, .int m, rfl, rfl, SqT.of (sL _ _ eR), rfl, m, rfl, by omega, fun H1 B fs s1 nB eB hf => ?_⟩
    have nLB : B ≠ L := fun z => by rw [z, upd_same] at nB; cases nB
    have fl : fs.length = 2 ^ m := by rw [awLen hf, allB_len]
    have f8 : fs.length ≤ 8 := by
      rw [fl]
      exact Nat.le_trans (Nat.pow_le_pow_right (by decide) (show m ≤ 3 by omega)) (by decide)
    have old : ∀ H5 o, Same H H5 → Same H (upd H5 L o) := fun H5 o s5 b u e => by
      rw [upd_ne (ne_of_none e hL)]
      exact s5 b u e
    refine ⟨B, rfl, ⟨_, .inl (.inl eB)⟩, for_list (K := K) (a := B) (xs := fs.map V.ref) (fun i σ H3 => ∃ y3 y4 ps, σ = [some (.ref R), some (.ref C), some (.ref L), y3, y4] ∧ H3 L = some (.lst (ps.map V.ref)) ∧ StAt H3 ps ((stp m ds o cs).take i) ∧ H3 B = some (.lst (fs.map V.ref)) ∧ TAt H3 fs (allB m) ∧ Same H H3)
      ⟨none, none, [], rfl, s1 _ _ upd_same, .nil, eB, hf, sL.trans s1⟩ (fun i σ H3 _ hp => ?_) (fun i x σ H3 hx hp => ?_) (fun σ H3 hp => ?_)⟩
    · obtain ⟨_, _, _, _, _, _, e, _⟩ := hp
      exact .inl (.inl e)
    · obtain ⟨y3, y4, ps, rfl, eL, hs, eB3, hf3, s3⟩ := hp
      have hi : i < fs.length := by
        have := (List.getElem?_eq_some_iff.mp hx).1
        rwa [List.length_map] at this
      have hx' : x = .ref fs[i] := by
        rw [List.getElem?_map, List.getElem?_eq_getElem hi] at hx
        exact (Option.some.inj hx).symm
      subst hx'
      obtain ⟨bs, hb1, hb2⟩ := awGet hf3 (List.getElem?_eq_getElem hi)
      obtain ⟨bl, bb⟩ := allB_ok m bs (List.mem_of_getElem? hb1)
      refine ⟨.ref R, rfl, .ref C, rfl, .ref fs[i], rfl, R, C, fs[i], m, o, ds, cs, bs, rfl, (Same.tups s3).row hrow, hok.deeds, by omega, s3 _ _ eC, hcl, hb2, by rw [bl], by omega, fun H4 T s4 nT eT => ?_⟩
      have tl : (bts ds cs bs).length = m + ds.length := by rw [bts_len hcl.symm, bl]
      have o0 := hok.o0
      have o1 := hok.o1
      refine ⟨.ref L, rfl, .inl ⟨rfl, _, .inl (.inl (s4 _ _ eL))⟩, .ref T, rfl, .ref R, rfl, R, _, 2, .int o, rfl, rfl, SqT.of (s4 _ _ (s3 _ _ eR)), rfl, T, _, o, _, rfl, rfl, SqT.of eT, atI_ints o0 (by omega), ?_⟩
      refine ⟨.ref R, rfl, .ref C, rfl, .ref T, rfl, R, C, T, m, o, ds, cs, _, rfl, (Same.tups (s3.trans s4)).row hrow, hok.deeds, by omega, s4 _ _ (s3 _ _ eC), hcl, eT, by rw [tl]; omega, fun H5 N s5 nN eN => ?_⟩
      refine ⟨by show 2 ≤ sizeLine; decide, fun p hp => ?_⟩
      have sp := same_new (o := .tup [.int ((bts ds cs bs).getD o.toNat 0), .ref N]) hp
      have s46 := (s4.trans s5).trans sp
      have eL6 := s46 _ _ eL
      have e1 : (stp m ds o cs)[i]? = some ((bts ds cs bs).getD o.toNat 0, nxt ds cs (bts ds cs bs)) := by
        unfold stp
        rw [List.getElem?_map, hb1]
        rfl
      have pl := awLen hs
      rw [List.length_take] at pl
      have tp := tups_put (o := .lst (ps.map V.ref ++ [V.ref p])) eL6
      refine ⟨L, _, _, rfl, rfl, eL6, ?_, some (.ref fs[i]), some (.ref T), ps ++ [p], rfl, ?_, ?_, ?_, ?_, ?_⟩
      · rw [List.length_map]
        exact small1000 (by omega)
      · rw [upd_same, List.map_append]
        rfl
      · rw [List.take_add_one, e1]
        exact stat_stay tp (awSnoc (F := fun (q : Addr) (e : Int × List Int) => ∃ c, (upd H5 p (.tup [.int ((bts ds cs bs).getD o.toNat 0), .ref N])) q = some (.tup [.int e.1, .ref c]) ∧ (upd H5 p (.tup [.int ((bts ds cs bs).getD o.toNat 0), .ref N])) c = some (.tup (e.2.map V.int))) ⟨N, upd_same, sp _ _ eN⟩ (stat_stay (Same.tups s46) hs))
      · rw [upd_ne nLB]
        exact s46 _ _ eB3
      · exact tat_stay tp (tat_stay (Same.tups s46) hf3)
      · exact old _ _ (s3.trans s46)
    · obtain ⟨y3, y4, ps, rfl, eL, hs, eB3, hf3, s3⟩ := hp
      rw [List.length_map, fl, ← stp_len m ds o cs, List.take_length] at hs
      exact ⟨.ref L, rfl, q _ L ps s3 hL eL hs⟩
/-- things come in the order in which they are first met -/
def FOrd {L : Type} (nx : L → List (Int × L)) (cs : List L) : Prop := ∀ (k : Nat) (c : L), 0 < k → cs[k]? = some c → ∃ (p t : Nat) (a : L) (s : Int × L), p < k ∧ cs[p]? = some a ∧ (nx a)[t]? = some s ∧ s.2 = c ∧
  ∀ (p' t' : Nat) (a' : L) (s' : Int × L), (p' < p ∨ p' = p ∧ t' < t) → cs[p']? = some a' → (nx a')[t']? = some s' → ∃ j, j < k ∧ cs[j]? = some s'.2
theorem FOrd.one {L : Type} {nx : L → List (Int × L)} {c : L} : FOrd nx [c] := fun k c' h1 h2 => by
  have := (List.getElem?_eq_some_iff.mp h2).1
  simp only [List.length_cons, List.length_nil] at this
  omega
theorem FOrd.push {L : Type} {nx : L → List (Int × L)} {cs : List L} (h : FOrd nx cs) {p t : Nat} {a : L} {s : Int × L} (hp : cs[p]? = some a) (hs : (nx a)[t]? = some s)
    (all : ∀ (p' t' : Nat) (a' : L) (s' : Int × L), (p' < p ∨ p' = p ∧ t' < t) → cs[p']? = some a' → (nx a')[t']? = some s' → ∃ j : Nat, cs[j]? = some s'.2) : FOrd nx (cs ++ [s.2]) := by
  have pl := (List.getElem?_eq_some_iff.mp hp).1
  have up : ∀ (i : Nat) (x : L), cs[i]? = some x → (cs ++ [s.2])[i]? = some x := fun i x e => by rw [List.getElem?_append_left (List.getElem?_eq_some_iff.mp e).1]; exact e
  have dn : ∀ (i : Nat) (x : L), i < cs.length → (cs ++ [s.2])[i]? = some x → cs[i]? = some x := fun i x hi e => by rwa [List.getElem?_append_left hi] at e
  intro k c hk hc
  by_cases hl : k < cs.length
  · obtain ⟨p1, t1, a1, s1, e1, e2, e3, e4, e5⟩ := h k c hk (dn k c hl hc)
    refine ⟨p1, t1, a1, s1, e1, up _ _ e2, e3, e4, fun p' t' a' s' h1 h2 h3 => ?_⟩
    obtain ⟨j, g1, g2⟩ := e5 p' t' a' s' h1 (dn p' a' (by omega) h2) h3
    exact ⟨j, g1, up _ _ g2⟩
  · have kl := (List.getElem?_eq_some_iff.mp hc).1
    rw [List.length_append] at kl
    simp only [List.length_cons, List.length_nil] at kl
    have ek : k = cs.length := by omega
    subst ek
    rw [List.getElem?_append_right (Nat.le_refl _), Nat.sub_self] at hc
    refine ⟨p, t, a, s, pl, up _ _ hp, hs, Option.some.inj hc, fun p' t' a' s' h1 h2 h3 => ?_⟩
    obtain ⟨j, g⟩ := all p' t' a' s' h1 (dn p' a' (by omega) h2) h3
    exact ⟨j, (List.getElem?_eq_some_iff.mp g).1, up _ _ g⟩
theorem nd_idx {L : Type} {cs : List L} (nd : cs.Nodup) {i j : Nat} {x : L} (h1 : cs[i]? = some x) (h2 : cs[j]? = some x) : i = j := by
  have l1 := (List.getElem?_eq_some_iff.mp h1).1
  exact (List.getElem?_inj l1 nd).mp (h1.trans h2.symm)
/-- there is one such order only -/
theorem ford_pre {L : Type} {nx : L → List (Int × L)} {cs cs' : List L} (nd : cs.Nodup) (nd' : cs'.Nodup) (h0 : cs[0]? = cs'[0]?) (f : FOrd nx cs) (f' : FOrd nx cs') :
    ∀ (n k : Nat) (c c' : L), k < n → cs[k]? = some c → cs'[k]? = some c' → c = c'
  | 0, _, _, _, h, _, _ => absurd h (Nat.not_lt_zero _)
  | n + 1, k, c, c', hk, e, e' => by
    have ih := ford_pre nd nd' h0 f f' n
    by_cases hz : k = 0
    · subst hz
      rw [e, e'] at h0
      exact Option.some.inj h0
    have kl := (List.getElem?_eq_some_iff.mp e).1
    have kl' := (List.getElem?_eq_some_iff.mp e').1
    have to : ∀ (j : Nat) (x : L), j < k → cs[j]? = some x → cs'[j]? = some x := fun j x hj ex => by
      have e2 : cs'[j]? = some cs'[j] := List.getElem?_eq_getElem (by omega)
      rw [e2, ih j x _ (by omega) ex e2]
    have fro : ∀ (j : Nat) (x : L), j < k → cs'[j]? = some x → cs[j]? = some x := fun j x hj ex => by
      have e2 : cs[j]? = some cs[j] := List.getElem?_eq_getElem (by omega)
      rw [e2, ih j _ x (by omega) e2 ex]
    obtain ⟨p, t, a, s, a1, a2, a3, a4, a5⟩ := f k c (by omega) e
    obtain ⟨q, u, b, r, b1, b2, b3, b4, b5⟩ := f' k c' (by omega) e'
    rcases Nat.lt_trichotomy p q with h | h | h
    · obtain ⟨j, g1, g2⟩ := b5 p t a s (.inl h) (to p a a1 a2) a3
      rw [a4] at g2
      have := nd_idx nd (fro j c g1 g2) e
      omega
    · subst h
      have hab := to p a a1 a2
      rw [b2] at hab
      obtain rfl := Option.some.inj hab
      rcases Nat.lt_trichotomy t u with h | h | h
      · obtain ⟨j, g1, g2⟩ := b5 p t b s (.inr ⟨rfl, h⟩) b2 a3
        rw [a4] at g2
        have := nd_idx nd (fro j c g1 g2) e
        omega
      · subst h
        rw [a3] at b3
        rw [← a4, ← b4, Option.some.inj b3]
      · obtain ⟨j, g1, g2⟩ := a5 p u b r (.inr ⟨rfl, h⟩) a2 b3
        rw [b4] at g2
        have := nd_idx nd' (to j c' g1 g2) e'
        omega
    · obtain ⟨j, g1, g2⟩ := a5 q u b r (.inl h) (fro q b b1 b2) b3
      rw [b4] at g2
      have := nd_idx nd' (to j c' g1 g2) e'
      omega
theorem ford_len {L : Type} {nx : L → List (Int × L)} {cs cs' : List L} (nd : cs.Nodup) (nd' : cs'.Nodup) (h0 : cs[0]? = cs'[0]?) (f : FOrd nx cs) (f' : FOrd nx cs') (cl : ∀ a ∈ cs, ∀ s ∈ nx a, s.2 ∈ cs) (pos : 0 < cs.length) : cs'.length ≤ cs.length := by
  apply Nat.le_of_not_lt
  intro hl
  have e' : cs'[cs.length]? = some cs'[cs.length] := List.getElem?_eq_getElem hl
  obtain ⟨p, t, a, s, a1, a2, a3, a4, _⟩ := f' _ _ pos e'
  have ep : cs[p]? = some cs[p] := List.getElem?_eq_getElem a1
  have := ford_pre nd nd' h0 f f' (p + 1) p _ _ (Nat.lt_succ_self _) ep a2
  have m1 := cl cs[p] (List.getElem_mem a1) s (by rw [this]; exact List.mem_of_getElem? a3)
  obtain ⟨j, hj⟩ := List.mem_iff_getElem?.mp m1
  have jl := (List.getElem?_eq_some_iff.mp hj).1
  have ej : cs'[j]? = some cs'[j] := List.getElem?_eq_getElem (by omega)
  have := ford_pre nd nd' h0 f f' (j + 1) j _ _ (Nat.lt_succ_self _) hj ej
  have h3 := nd_idx nd' (x := s.2) (by rw [ej, ← this]) (by rw [e', a4])
  omega
theorem ford_eq {L : Type} {nx : L → List (Int × L)} {cs cs' : List L} (nd : cs.Nodup) (nd' : cs'.Nodup) (h0 : cs[0]? = cs'[0]?) (f : FOrd nx cs) (f' : FOrd nx cs') (cl : ∀ a ∈ cs, ∀ s ∈ nx a, s.2 ∈ cs) (cl' : ∀ a ∈ cs', ∀ s ∈ nx a, s.2 ∈ cs') (pos : 0 < cs.length) (pos' : 0 < cs'.length) : cs = cs' := by
  have l1 := ford_len nd nd' h0 f f' cl pos
  have l2 := ford_len nd' nd h0.symm f' f cl' pos'
  refine List.ext_getElem (by omega) fun i h1 h2 => ?_
  exact ford_pre nd nd' h0 f f' (i + 1) i _ _ (Nat.lt_succ_self _) (List.getElem?_eq_getElem h1) (List.getElem?_eq_getElem h2)
abbrev MRow := List (Int × Int)
abbrev PrAt (H : Hp) : List Addr → MRow → Prop := Paired fun q e => H q = some (.tup [.int e.1, .int e.2])
theorem prat_stay {H H' : Hp} (t : TupsStay H H') {qs : List Addr} {r : MRow} (h : PrAt H qs r) : PrAt H' qs r := awMap (fun q e z => t _ _ z) h
def RowL (H : Hp) (l : Addr) (row : MRow) : Prop := ∃ qs, H l = some (.lst (qs.map V.ref)) ∧ PrAt H qs row
abbrev MacL (H : Hp) : List Addr → List MRow → Prop := Paired (RowL H)
theorem macl_stay {H H' : Hp} (t : TupsStay H H') : ∀ {ls : List Addr} {mac : List MRow}, (∀ l ∈ ls, ∀ xs, H l = some (.lst xs) → H' l = some (.lst xs)) → MacL H ls mac → MacL H' ls mac
  | _, _, _, .nil => .nil
  | _, _, k, .cons ⟨qs, h1, h2⟩ h => .cons ⟨qs, k _ List.mem_cons_self _ h1, prat_stay t h2⟩ (macl_stay t (fun l hl => k l (List.mem_cons_of_mem _ hl)) h)
def kC (c : List Int) : NestedKey := .tup (c.map .num)
theorem nums_inj : ∀ {a b : List Int}, a.map NestedKey.num = b.map NestedKey.num → a = b
  | [], [], _ => rfl
  | [], _ :: _, h => nomatch h
  | _ :: _, [], h => nomatch h
  | x :: a, y :: b, h => by
    rw [List.map_cons, List.map_cons, List.cons.injEq] at h
    rw [NestedKey.num.inj h.1, nums_inj h.2]
theorem kC_inj {a b : List Int} (h : kC a = kC b) : a = b := nums_inj (NestedKey.tup.inj h)
theorem nums_depth : ∀ c : List Int, NestedKey.depthAll (c.map .num) = 0
  | [] => by simp [NestedKey.depthAll]
  | x :: c => by simp [NestedKey.depthAll, NestedKey.depth, nums_depth c]
theorem kC_depth (c : List Int) : (kC c).depth ≤ 8 := by
  unfold kC
  simp [NestedKey.depth, nums_depth c]
theorem nks_ints (H : Hp) : ∀ c : List Int, NkAll H (c.map .num) (c.map V.int)
  | [] => .nil
  | x :: c => .cons (.num x) (nks_ints H c)
theorem nks_eq {H : Hp} : ∀ {c : List Int} {xs : List V}, NkAll H (c.map .num) xs → xs = c.map V.int
  | [], _, h => by
    cases h
    rfl
  | x :: c, _, h => by
    cases h with
    | cons h1 h2 =>
      cases h1
      rw [nks_eq h2]
      rfl
theorem keyC {H : Hp} {b : Addr} {c : List Int} (h : H b = some (.tup (c.map V.int))) : KeyN H (.ref b) (kC c) := ⟨.tup h (nks_ints H c), kC_depth c, b, rfl⟩
theorem keyC_tup {H : Hp} {b : Addr} {c : List Int} (h : KeyN H (.ref b) (kC c)) : H b = some (.tup (c.map V.int)) := by
  obtain ⟨h1, _⟩ := h
  unfold kC at h1
  cases h1 with
  | tup e hs =>
    rw [nks_eq hs] at e
    exact e
/-- a row of the machine of all carries -/
abbrev RowM (cs : List (List Int)) : MRow → List (Int × List Int) → Prop := Paired fun e s => e.1 = s.1 ∧ ∃ j : Nat, e.2 = (j : Int) ∧ cs[j]? = some s.2
structure WM (m : Nat) (ds : List Deed) (o : Int) (cs : List (List Int)) (mac : List MRow) : Prop where
  nd : cs.Nodup
  first : cs[0]? = some (ds.map fcD)
  bits : ∀ c ∈ cs, c.length = ds.length ∧ ∀ x ∈ c, Bit x
  each : ∀ (i : Nat) row, mac[i]? = some row → ∃ c, cs[i]? = some c ∧ RowM cs row (stp m ds o c)
  fo : FOrd (stp m ds o) cs
theorem few_cs {n : Nat} {cs : List (List Int)} (nd : cs.Nodup) (hb : ∀ c ∈ cs, c.length = n ∧ ∀ x ∈ c, Bit x) (hn : n ≤ 8) : cs.length ≤ 256 := by
  have h := pigeon cs (allB n) nd fun c hc => allB_all n _ (hb c hc).1 (hb c hc).2
  rw [allB_len] at h
  exact Nat.le_trans h (Nat.le_trans (Nat.pow_le_pow_right (by decide) hn) (by decide))
theorem keys_nd {cs : List (List Int)} {ts : List WT} (h : (ts.map (·.1)).Nodup) (e : ts.map (·.1) = cs.map kC) : cs.Nodup := by
  rw [e] at h
  exact List.Pairwise.imp (fun {a b} z y => z (congrArg kC y)) (List.pairwise_map.mp h)
theorem keys_at {cs : List (List Int)} {ts : List WT} (e : ts.map (·.1) = cs.map kC) {i : Nat} {t : WT} (h : ts[i]? = some t) : ∃ c, cs[i]? = some c ∧ t.1 = kC c := by
  have h1 : (ts.map (·.1))[i]? = some t.1 := by rw [List.getElem?_map, h]; rfl
  rw [e, List.getElem?_map] at h1
  cases hc : cs[i]? with
  | none => rw [hc] at h1; cases h1
  | some c => rw [hc] at h1; exact ⟨c, rfl, (Option.some.inj h1).symm⟩
theorem keys_len {cs : List (List Int)} {ts : List WT} (e : ts.map (·.1) = cs.map kC) : ts.length = cs.length := by
  have := congrArg List.length e
  rwa [List.length_map, List.length_map] at this
def spWh : Sp := fun vs H Q _ => ∃ (R : Addr) (m : Nat) (o : Int) (ds : List Deed), vs = [.ref R] ∧ RowAt H R m ds o ∧ RowOk m ds o ∧
  ∀ H' p ls cs mac, Same H H' → H p = none → H' p = some (.lst (ls.map V.ref)) → MacL H' ls mac → WM m ds o cs mac → mac.length = cs.length → Q (.ref p) H'
theorem ok_wh {f fA fF fS fI fM C : Addr} {fd fdA fdF fdS fdI fdM : FuncData} {k : Nat} (F : Fun K "whole_machine" "whole_machine" s_whole_machine f fd) (T : WCls K mg C)
    (GA : FnOk P w K mg base CX0 (k + 1) fA fdA ["many"] spAll) (kA : PySem.W.keepIn K (.ref fA) = true) (bA : Binds K fdA ["many"] []) (gA : mg "all_bits" = some (.ref fA))
    (GF : FnOk P w K mg base CX0 (k + 1) fF fdF ["row"] spFc) (kF : PySem.W.keepIn K (.ref fF) = true) (bF : Binds K fdF ["row"] []) (gF : mg "first_carry" = some (.ref fF))
    (GS : FnOk P w K mg base CX0 (k + 4) fS fdS ["row", "carry"] spSt) (kS : PySem.W.keepIn K (.ref fS) = true) (bS : Binds K fdS ["row", "carry"] []) (gS : mg "steps" = some (.ref fS))
    (MK : Mk K C fI) (GI : FnOk P w K mg base CX0 (k + 1) fI fdI ["self", "first"] (spWi P w C)) (bI : Binds K fdI ["self", "first"] [])
    (MM : Meth K C "meet" fM) (GM : FnOk P w K mg base CX0 (k + 1) fM fdM ["self", "thing", "ahead", "bits"] (spWm P w C)) (bM : Binds K fdM ["self", "thing", "ahead", "bits"] [])
    (mn : mg "len" = none) (mz : mg "zip" = none) : FnOk P w K mg base CX0 (k + 5) f fd ["row"] spWh := by
  refine F.ok sc_whole_machine (fun vs H Q E h => ?_) (fun cdv A outer s H vs Q E hr h => ?_)
  · obtain ⟨R, m, o, ds, rfl, _⟩ := h
    rfl
  · obtain ⟨R, m, o, ds, rfl, hrow, hok, q⟩ := h
    obtain ⟨D, rs, eR, eD, hd⟩ := id hrow
    have r1 := hr.mono (show k + 1 ≤ k + 4 by omega)
    have r2 := hr.mono (show k + 1 + 1 ≤ k + 4 by omega)
    refine ⟨_, pss_cons (ps_set (i := 1) sc_whole_machine.nd rfl (.inl rfl) (pe_call GA r1 (by rfl) gA kA bA .nil pass0 (pa_cons (pe_ix ix_tup (pv 0) pe_int (fun _ _ => rfl)) pa_nil)))
      (pss_cons (ps_set (i := 2) sc_whole_machine.nd rfl (.inl rfl) (pe_make MK GI r2 (by rfl) T.mgC bI .nil pass0 (pa_cons (pe_call GF r1 (by rfl) gF kF bF .nil pass0 (pa_cons (pv 0) pa_nil)) pa_nil)))
      (pss_cons (ps_set (i := 3) sc_whole_machine.nd rfl (.inl rfl) (pe_lst pa_nil))
      (pss_cons (ps_while PassesOwn.never (pt_cmpR op_lt (pe_callB call_len_seq (by rfl) mn PySem.boot_len (pa_cons (pv 3) pa_nil)) (pe_callB call_len_seq (by rfl) mn PySem.boot_len (pa_cons (pe_fld (pv 2) rfl) pa_nil)) (nomark _))
        (pss_cons (ps_set (i := 4) sc_whole_machine.nd rfl (.inl rfl) (pe_callB call_len_seq (by rfl) mn PySem.boot_len (pa_cons (pv 3) pa_nil)))
        (pss_cons (ps_set (i := 5) sc_whole_machine.nd rfl (.inl rfl) (pe_ix ix_list (pe_fld (pv 2) rfl) (pv 4) (fun _ _ => rfl)))
        (pss_cons (ps_set (i := 6) sc_whole_machine.nd rfl (.inl rfl) (pe_lst pa_nil))
        (pss_cons (ps_for PassesOwn.never rfl (pi_zip (by rfl) mz (pa_cons (pv 1) (pa_cons (pe_call GS hr (by rfl) gS kS bS .nil pass0 (pa_cons (pv 0) (pa_cons (pv 5) pa_nil))) pa_nil))) (pg_tup rfl (pgs_cons (pg_name (i := 7) sc_whole_machine.nd rfl (.inl rfl)) (pgs_cons (pg_tup rfl (pgs_cons (pg_name (i := 8) sc_whole_machine.nd rfl (.inl rfl)) (pgs_cons (pg_name (i := 9) sc_whole_machine.nd rfl (.inl rfl)) pgs_nil))) pgs_nil)))
          (pss_one (ps_expr (pe_bm PySem.F.plainAttrs_list PySem.F.slot_list_append PySem.F.type_list_append mt_append (pv 6) (pa_cons (pe_tup (pa_cons (pv 8) (pa_cons (pe_meth (pv 2) T.cl MM GM r1 bM .nil pass0 (pa_cons (pv 9) (pa_cons (pv 4) (pa_cons (pv 7) pa_nil)))) pa_nil))) pa_nil)))))
        (pss_one (ps_expr (pe_bm PySem.F.plainAttrs_list PySem.F.slot_list_append PySem.F.type_list_append mt_append (pv 3) (pa_cons (pv 6) pa_nil)))))))))
      (pss_one (ps_ret (pv 3)))))), ?_⟩
    have l8 := hok.len
    have m3 := hok.m3
    refine ⟨.ref R, rfl, R, _, 0, .int m, rfl, rfl, SqT.of eR, rfl, m, rfl, by omega, fun H1 Ch fs s1 nCh eCh hf => ?_⟩
    have fl : fs.length = 2 ^ m := by rw [awLen hf, allB_len]
    refine ⟨.ref R, rfl, R, m, o, ds, rfl, (Same.tups s1).row hrow, by omega, fun H2 Fi s2 nFi eFi => ?_⟩
    intro Wk dx nWk ndx nex
    have tW : TupsStay H2 (upd (upd H2 dx (.own Wk)) Wk (.ins C dx [])) := fun c xs e => by
      rw [upd_ne (ne_of_none e nWk), upd_ne (ne_of_none e ndx)]
      exact e
    have kW : ∀ c u, H2 c = some u → upd (upd H2 dx (.own Wk)) Wk (.ins C dx []) c = some u := fun c u e => by
      rw [upd_ne (ne_of_none e nWk), upd_ne (ne_of_none e ndx)]
      exact e
    refine ⟨Wk, dx, Fi, kC (ds.map fcD), rfl, upd_same, keyC (tW _ _ eFi), fun H3 M N W hw nM nN nW kp => ⟨rfl, ?_⟩⟩
    have s3 : Same H2 H3 := fun c u e => kp c u (ne_of_none e nWk) (kW c u e)
    have s13 := (s1.trans s2).trans s3
    have back : ∀ a : Addr, upd (upd H2 dx (.own Wk)) Wk (.ins C dx []) a = none → H2 a = none := fun a h => by
      cases e : H2 a with
      | none => rfl
      | some u => rw [kW a u e] at h; cases h
    have hM2 := back _ nM
    have hN2 := back _ nN
    have hW2 := back _ nW
    have hM0 : H M = none := (s1.trans s2).free hM2
    have hN0 : H N = none := (s1.trans s2).free hN2
    have hW0 : H W = none := (s1.trans s2).free hW2
    have eCh2 := s2 _ _ eCh
    have nChM : Ch ≠ M := ne_of_none eCh2 hM2
    have nChN : Ch ≠ N := ne_of_none eCh2 hN2
    have nChW : Ch ≠ W := ne_of_none eCh2 hW2
    refine ⟨Nat.zero_le _, fun Mc hMc => ?_⟩
    have sMc := same_new (o := .lst []) hMc
    have nMM : Mc ≠ M := fun z => by rw [z, hw.met] at hMc; cases hMc
    have nMN : Mc ≠ N := fun z => by rw [z, hw.num.ob] at hMc; cases hMc
    have nMW : Mc ≠ W := fun z => by obtain ⟨ws, e, _⟩ := hw.ways; rw [z, e] at hMc; cases hMc
    have nMCh : Mc ≠ Ch := fun z => by rw [z, s3 _ _ eCh2] at hMc; cases hMc
    have hMc0 : H Mc = none := s13.free hMc
    refine ⟨fun n σ H4 => ∃ y4 y5 y6 y7 y8 y9 cs ts wy ls mac, σ = [some (.ref R), some (.ref Ch), some (.ref Wk), some (.ref Mc), y4, y5, y6, y7, y8, y9] ∧ WalkAt P w C H4 Wk M N W ts wy ∧ ts.map (·.1) = cs.map kC ∧ WM m ds o cs mac ∧ mac.length ≤ cs.length ∧ H4 Mc = some (.lst (ls.map V.ref)) ∧ MacL H4 ls mac ∧ (∀ l ∈ ls, l ≠ M ∧ l ≠ N ∧ l ≠ W ∧ l ≠ Mc) ∧ H4 Ch = some (.lst (fs.map V.ref)) ∧ TAt H4 fs (allB m) ∧ Same H H4 ∧ n = 257 - mac.length,
      ⟨_, none, none, none, none, none, none, [ds.map fcD], [(kC (ds.map fcD), Fi)], [(0, [])], [], [], rfl, hw.same sMc, rfl, ⟨by simp, rfl, fun c hc => ?_, fun i row h => by simp at h, FOrd.one⟩, Nat.zero_le _, upd_same, .nil, (fun _ z => nomatch z), sMc _ _ (s3 _ _ eCh2), tat_stay (Same.tups ((s2.trans s3).trans sMc)) hf, s13.trans sMc, rfl⟩, fun n σ H4 hp => ?_⟩
    · rw [List.mem_singleton.mp hc]
      have sh := shp_first ds
      exact ⟨sh.len, sh.bits⟩
    obtain ⟨y4, y5, y6, y7, y8, y9, cs, ts, wy, ls, mac, rfl, hw4, ek, wm, ml, eMc, hmac, lsne, eCh4, hf4, s4, rfl⟩ := hp
    obtain ⟨dxw, ob4⟩ := hw4.ob
    have csl := keys_len ek
    have few := few_cs wm.nd wm.bits l8
    have mll := awLen hmac
    refine ⟨.ref Mc, rfl, Mc, _, rfl, .inl (.inl (.inl eMc)), .ref Wk, rfl, Wk, C, dxw, _, _, rfl, ob4, T.cl, T.nM, wF_met _ _ _, M, _, rfl, .inl (.inl (.inl hw4.met)), _, _, rfl, rfl, _, rfl, ite2 (fun e => ?_) (fun e => ?_)⟩
    · have lt : mac.length < cs.length := by
        have := of_decide_eq_true e
        rw [List.length_map, List.length_map] at this
        omega
      refine ⟨fun σ' H' => ∃ m', m' < 257 - mac.length ∧ (∃ y4 y5 y6 y7 y8 y9 cs ts wy ls mac, σ' = [some (.ref R), some (.ref Ch), some (.ref Wk), some (.ref Mc), y4, y5, y6, y7, y8, y9] ∧ WalkAt P w C H' Wk M N W ts wy ∧ ts.map (·.1) = cs.map kC ∧ WM m ds o cs mac ∧ mac.length ≤ cs.length ∧ H' Mc = some (.lst (ls.map V.ref)) ∧ MacL H' ls mac ∧ (∀ l ∈ ls, l ≠ M ∧ l ≠ N ∧ l ≠ W ∧ l ≠ Mc) ∧ H' Ch = some (.lst (fs.map V.ref)) ∧ TAt H' fs (allB m) ∧ Same H H' ∧ m' = 257 - mac.length), fun σ' H' z => z, ?_⟩
      have lenI : ((ls.map V.ref).length : Int) = ((mac.length : Nat) : Int) := by rw [List.length_map, mll]
      refine ⟨.ref Mc, rfl, Mc, _, rfl, .inl (.inl (.inl eMc)), ?_⟩
      rw [lenI]
      have hti : mac.length < ts.length := by omega
      obtain ⟨c0, hc0, ht1⟩ := keys_at ek (List.getElem?_eq_getElem hti)
      have hkey := hw4.keys _ (List.getElem_mem hti)
      rw [ht1] at hkey
      have ecb := keyC_tup hkey
      obtain ⟨c0l, c0b⟩ := wm.bits c0 (List.mem_of_getElem? hc0)
      refine ⟨.ref Wk, rfl, Wk, C, dxw, _, _, rfl, ob4, T.cl, T.nM, wF_met _ _ _, .int _, rfl, M, _, _, .ref (ts[mac.length]).2, rfl, rfl, .inl (.inl hw4.met), atI_nat (by rw [List.getElem?_map, List.getElem?_eq_getElem hti]; rfl), ?_⟩
      generalize (ts[mac.length]).2 = cb at ecb
      refine ⟨Nat.zero_le _, fun St hSt => ?_⟩
      have sSt := same_new (o := .lst []) hSt
      have nSM : St ≠ M := fun z => by rw [z, hw4.met] at hSt; cases hSt
      have nSN : St ≠ N := fun z => by rw [z, hw4.num.ob] at hSt; cases hSt
      have nSW : St ≠ W := fun z => by obtain ⟨ws, e, _⟩ := hw4.ways; rw [z, e] at hSt; cases hSt
      have nSMc : St ≠ Mc := fun z => by rw [z, eMc] at hSt; cases hSt
      have nSCh : St ≠ Ch := fun z => by rw [z, eCh4] at hSt; cases hSt
      have nSWk : St ≠ Wk := fun z => by rw [z, ob4] at hSt; cases hSt
      have nSls : ∀ l ∈ ls, l ≠ St := fun l hl z => by
        obtain ⟨i, hi⟩ := List.mem_iff_getElem?.mp hl
        obtain ⟨row, _, qs, h1, _⟩ := awGet hmac hi
        rw [z, hSt] at h1
        cases h1
      have hSt0 : H St = none := s4.free hSt
      refine ⟨.ref Ch, rfl, .ref R, rfl, .ref cb, rfl, R, cb, m, o, ds, c0, rfl, (Same.tups (s4.trans sSt)).row hrow, hok, sSt _ _ ecb, c0l, fun H5 Sp ps s5 nSp eSp hps => ?_⟩
      have s45 := sSt.trans s5
      have psl : ps.length = 2 ^ m := by rw [awLen hps, stp_len]
      have nSpM : Sp ≠ M := fun z => by rw [z, sSt _ _ hw4.met] at nSp; cases nSp
      have nSpN : Sp ≠ N := fun z => by rw [z, sSt _ _ hw4.num.ob] at nSp; cases nSp
      have nSpW : Sp ≠ W := fun z => by obtain ⟨ws, e, _⟩ := hw4.ways; rw [z, sSt _ _ e] at nSp; cases nSp
      have nSpS : Sp ≠ St := fun z => by rw [z, upd_same] at nSp; cases nSp
      have eCh5 := s45 _ _ eCh4
      have p8 : 2 ^ m ≤ 8 := Nat.le_trans (Nat.pow_le_pow_right (by decide) (show m ≤ 3 by omega)) (by decide)
      refine ⟨Ch, Sp, _, _, rfl, .inl (.inl eCh5), .inl (.inl eSp), for_it (walk_zip (K := K) (a := Ch) (b := Sp) (xs := fs.map V.ref) (ys := ps.map V.ref) (n := 2 ^ m) (by rw [List.length_map, List.length_map, fl, psl, Nat.min_self])) (fun j σ H6 => ∃ y7 y8 y9 cs' ts' wy' qs row, σ = [some (.ref R), some (.ref Ch), some (.ref Wk), some (.ref Mc), some (.int ((mac.length : Nat) : Int)), some (.ref cb), some (.ref St), y7, y8, y9] ∧ WalkAt P w C H6 Wk M N W ts' wy' ∧ ts'.map (·.1) = cs'.map kC ∧ (∀ (i : Nat) c, cs[i]? = some c → cs'[i]? = some c) ∧ (∀ c ∈ cs', c.length = ds.length ∧ ∀ x ∈ c, Bit x) ∧ FOrd (stp m ds o) cs' ∧ H6 St = some (.lst (qs.map V.ref)) ∧ PrAt H6 qs row ∧ RowM cs' row ((stp m ds o c0).take j) ∧ ∀ b u, b ≠ M → b ≠ N → b ≠ W → b ≠ St → H5 b = some u → H6 b = some u)
        ⟨y7, y8, y9, cs, ts, wy, [], [], rfl, hw4.same s45, ek, fun _ _ z => z, wm.bits, wm.fo, s5 _ _ upd_same, .nil, .nil, fun _ _ _ _ _ _ z => z⟩ (fun j σ H6 _ hp => ?_) (fun j x σ H6 H7 hj hp hy => ?_) (fun σ H6 hp => ?_)⟩
      · obtain ⟨_, _, _, _, _, _, _, _, _, _, _, _, _, _, _, _, _, st⟩ := hp
        exact ⟨.inl (.inl (st _ _ nChM nChN nChW nSCh.symm eCh5)), .inl (.inl (st _ _ nSpM nSpN nSpW nSpS eSp))⟩
      · obtain ⟨y7, y8, y9, cs', ts', wy', qs, row, rfl, hw6, ek6, pre, bit6, fo6, eSt6, hpr, hrm, st⟩ := hp
        obtain ⟨U, x1, x2, rfl, hU, rfl, g1, g2⟩ := hy
        have tup5 : ∀ b xs, H5 b = some (.tup xs) → H6 b = some (.tup xs) := fun b xs e => st b _ (ne_of e (s45 _ _ hw4.met) (fun y => nomatch y)) (ne_of e (s45 _ _ hw4.num.ob) (fun y => nomatch y)) (by obtain ⟨ws, e2, _⟩ := hw4.ways; exact ne_of e (s45 _ _ e2) (fun y => nomatch y)) (ne_of e (s5 _ _ upd_same) (fun y => nomatch y)) e
        have hjf : j < fs.length := by omega
        have hjp : j < ps.length := by omega
        have e1 : x1 = .ref fs[j] := by
          have g1' : (fs.map V.ref)[j]? = some x1 := g1
          rw [List.getElem?_map, List.getElem?_eq_getElem hjf] at g1'
          exact (Option.some.inj g1').symm
        have e2 : x2 = .ref ps[j] := by
          have g2' : (ps.map V.ref)[j]? = some x2 := g2
          rw [List.getElem?_map, List.getElem?_eq_getElem hjp] at g2'
          exact (Option.some.inj g2').symm
        subst e1 e2
        obtain ⟨bs, hb1, hb2⟩ := awGet hf4 (List.getElem?_eq_getElem hjf)
        obtain ⟨sb, hs1, ac, hs2, hs3⟩ := awGet hps (List.getElem?_eq_getElem hjp)
        have sU := same_new (o := .tup [.ref fs[j], .ref ps[j]]) hU
        have eb7 := sU _ _ (tup5 _ _ (s45 _ _ hb2))
        have e27 := sU _ _ (tup5 _ _ hs2)
        have e37 := sU _ _ (tup5 _ _ hs3)
        refine ⟨U, [.ref fs[j], .ref ps[j]], rfl, .inl (.inl upd_same), rfl, .ref fs[j], [.ref ps[j]], rfl, .ref ps[j], [], rfl, ps[j], [.int sb.1, .ref ac], rfl, .inl (.inl e27), rfl, .int sb.1, [.ref ac], rfl, .ref ac, [], rfl, rfl, rfl, ?_⟩
        have nUs : U ≠ St := fun z => by rw [z, eSt6] at hU; cases hU
        obtain ⟨dx6, ob6⟩ := hw6.ob
        have hw7 := hw6.same sU
        have l6 := keys_len ek6
        have few6 := few_cs (keys_nd hw6.nd ek6) bit6 l8
        refine ⟨.ref St, rfl, .inl ⟨rfl, _, .inl (.inl (sU _ _ eSt6))⟩, .int sb.1, rfl, .ref Wk, rfl, Wk, dx6, _, rfl, sU _ _ ob6, wF_meet _ _ _, .ref ac, rfl, .int ((mac.length : Nat) : Int), rfl, .ref fs[j], rfl, Wk, M, N, W, ac, fs[j], ts', wy', kC sb.2, ((mac.length : Nat) : Int), bs, rfl, hw7, keyC e37, eb7, by omega, fun H8 ts2 wy2 ix hw8 hix hcase kp8 => ?_⟩
        refine ⟨by show 2 ≤ sizeLine; decide, fun Pq hPq => ?_⟩
        have sP := same_new (o := .tup [.int sb.1, .int ((ix : Nat) : Int)]) hPq
        have eSt8 := kp8 _ _ nSM nSN nSW (sU _ _ eSt6)
        have hrl := awLen hpr
        have hrl2 := awLen hrm
        rw [List.length_take, stp_len] at hrl2
        have s8t : TupsStay H6 (upd H8 Pq (.tup [.int sb.1, .int ((ix : Nat) : Int)])) := fun b xs e => by
          have e7 := sU _ _ e
          obtain ⟨ws7, ew7, _⟩ := hw7.ways
          exact sP _ _ (kp8 b _ (ne_of e7 hw7.met (fun y => nomatch y)) (ne_of e7 hw7.num.ob (fun y => nomatch y)) (ne_of e7 ew7 (fun y => nomatch y)) e7)
        have nPS : Pq ≠ St := fun z => by rw [z, eSt8] at hPq; cases hPq
        have eSt9 := sP _ _ eSt8
        have tS := tups_put (o := .lst (qs.map V.ref ++ [V.ref Pq])) eSt9
        -- the carries so far
        obtain ⟨cs2, ek2, pre2, bit2, fo2, hcx⟩ : ∃ cs2 : List (List Int), ts2.map (·.1) = cs2.map kC ∧ (∀ (i : Nat) c, cs'[i]? = some c → cs2[i]? = some c) ∧ (∀ c ∈ cs2, c.length = ds.length ∧ ∀ x ∈ c, Bit x) ∧ FOrd (stp m ds o) cs2 ∧ cs2[ix]? = some sb.2 := by
          obtain ⟨b', hb'⟩ := hix
          rcases hcase with ⟨rfl, rfl⟩ | ⟨rfl, rfl, rfl, _⟩
          · obtain ⟨c, hc, ec⟩ := keys_at ek6 hb'
            exact ⟨cs', ek6, fun _ _ z => z, bit6, fo6, by rw [hc, kC_inj ec]⟩
          · refine ⟨cs' ++ [sb.2], by rw [List.map_append, List.map_append, ek6]; rfl, fun i c z => ?_, fun c hc => ?_, fo6.push (pre _ _ hc0) hs1 fun p' t' a' s' g1 g2 g3 => ?_, ?_⟩
            · rw [List.getElem?_append_left (List.getElem?_eq_some_iff.mp z).1]
              exact z
            · rcases List.mem_append.mp hc with hc | hc
              · exact bit6 c hc
              · rw [List.mem_singleton.mp hc]
                obtain ⟨bs', h1, e⟩ := List.mem_map.mp (List.mem_of_getElem? hs1)
                rw [← e]
                exact ⟨nxt_len c0l.symm, nxt_bits (bts_bits (allB_ok m bs' h1).2 c0b) c0b⟩
            · rcases g1 with g1 | ⟨rfl, g1⟩
              · obtain ⟨c, w1, w2⟩ := wm.each p' _ (List.getElem?_eq_getElem g1)
                have w3 := pre _ _ w1
                rw [g2] at w3
                obtain rfl := Option.some.inj w3
                obtain ⟨e, _, _, j', _, w6⟩ := awGet2 w2 g3
                exact ⟨j', pre _ _ w6⟩
              · have w3 := pre _ _ hc0
                rw [g2] at w3
                obtain rfl := Option.some.inj w3
                obtain ⟨e, _, _, j', _, w6⟩ := awGet2 hrm (show (List.take j (stp m ds o a'))[t']? = some s' by rw [List.getElem?_take_of_lt g1]; exact g3)
                exact ⟨j', w6⟩
            · rw [l6, List.getElem?_append_right (Nat.le_refl _), Nat.sub_self]
              rfl
        refine ⟨St, _, _, rfl, rfl, eSt9, ?_, _, _, _, cs2, ts2, wy2, qs ++ [Pq], row ++ [(sb.1, ((ix : Nat) : Int))], rfl, ?_, ek2, fun i c z => pre2 i c (pre i c z), bit2, fo2, ?_, ?_, ?_, ?_⟩
        · rw [List.length_map]
          exact small1000 (by omega)
        · refine (hw8.same sP).stay tS fun c u hc e => ?_
          rw [upd_ne ?_]
          · exact e
          · rcases hc with rfl | rfl | rfl | rfl
            · exact nSWk.symm
            · exact nSM.symm
            · exact nSN.symm
            · exact nSW.symm
        · rw [upd_same, List.map_append]
          rfl
        · exact awSnoc (F := fun (q : Addr) (e : Int × Int) => (upd (upd H8 Pq (.tup [.int sb.1, .int ((ix : Nat) : Int)])) St (.lst (qs.map V.ref ++ [V.ref Pq]))) q = some (.tup [.int e.1, .int e.2])) (tS _ _ upd_same) (prat_stay tS (prat_stay s8t hpr))
        · rw [List.take_add_one, hs1]
          exact awSnoc (F := fun (e : Int × Int) (s : Int × List Int) => e.1 = s.1 ∧ ∃ j : Nat, e.2 = (j : Int) ∧ cs2[j]? = some s.2) ⟨rfl, ix, rfl, hcx⟩ (awMap (fun e s z => ⟨z.1, z.2.elim fun i y => ⟨i, y.1, pre2 i _ y.2⟩⟩) hrm)
        · intro b u n1 n2 n3 n4 e
          rw [upd_ne n4]
          exact sP _ _ (kp8 b u n1 n2 n3 (sU _ _ (st b u n1 n2 n3 n4 e)))
      · obtain ⟨y7, y8, y9, cs', ts', wy', qs, row, rfl, hw6, ek6, pre, bit6, fo6, eSt6, hpr, hrm, st⟩ := hp
        rw [← stp_len m ds o c0, List.take_length] at hrm
        have eMc6 := st _ _ nMM nMN nMW nSMc.symm (s45 _ _ eMc)
        have tup5 : TupsStay H5 H6 := fun b xs e => st b _ (ne_of e (s45 _ _ hw4.met) (fun y => nomatch y)) (ne_of e (s45 _ _ hw4.num.ob) (fun y => nomatch y)) (by obtain ⟨ws, e2, _⟩ := hw4.ways; exact ne_of e (s45 _ _ e2) (fun y => nomatch y)) (ne_of e (s5 _ _ upd_same) (fun y => nomatch y)) e
        have t46 : TupsStay H4 H6 := (Same.tups s45).trans tup5
        have tM := tups_put (o := .lst (ls.map V.ref ++ [V.ref St])) eMc6
        refine ⟨.ref Mc, rfl, .inl ⟨rfl, _, .inl (.inl eMc6)⟩, .ref St, rfl, Mc, _, _, rfl, rfl, eMc6, ?_, _, ?_, _, _, _, _, _, _, cs', ts', wy', ls ++ [St], mac ++ [row], rfl, ?_, ek6, ⟨keys_nd hw6.nd ek6, pre _ _ wm.first, bit6, fun i r hi => ?_, fo6⟩, ?_, ?_, ?_, fun l hl => ?_, ?_, tat_stay tM (tat_stay t46 hf4), ?_, rfl⟩
        · rw [List.length_map]
          exact small1000 (by omega)
        · rw [List.length_append]
          show 257 - (mac.length + 1) < 257 - mac.length
          omega
        · refine hw6.stay tM fun c u hc e => ?_
          rw [upd_ne ?_]
          · exact e
          · obtain ⟨dx6, ob6⟩ := hw6.ob
            rcases hc with rfl | rfl | rfl | rfl
            · exact ne_of ob6 eMc6 (fun y => nomatch y)
            · exact nMM.symm
            · exact nMN.symm
            · exact nMW.symm
        · by_cases hil : i < mac.length
          · rw [List.getElem?_append_left hil] at hi
            obtain ⟨c, h1, h2⟩ := wm.each i r hi
            exact ⟨c, pre _ _ h1, awMap (fun e s z => ⟨z.1, z.2.elim fun i y => ⟨i, y.1, pre i _ y.2⟩⟩) h2⟩
          · rw [List.getElem?_append_right (by omega)] at hi
            have hi2 := (List.getElem?_eq_some_iff.mp hi).1
            simp only [List.length_cons, List.length_nil] at hi2
            have ei : i = mac.length := by omega
            subst ei
            rw [Nat.sub_self] at hi
            obtain rfl := Option.some.inj hi
            exact ⟨c0, pre _ _ hc0, hrm⟩
        · rw [List.length_append]
          have h1 := (List.getElem?_eq_some_iff.mp (pre _ _ hc0)).1
          show mac.length + 1 ≤ cs'.length
          omega
        · rw [upd_same, List.map_append]
          rfl
        · refine awSnoc (F := RowL (upd H6 Mc (.lst (ls.map V.ref ++ [V.ref St])))) ⟨qs, ?_, prat_stay tM hpr⟩ (macl_stay (t46.trans tM) (fun l hl xs e => ?_) hmac)
          · rw [upd_ne nSMc]
            exact eSt6
          · obtain ⟨l1, l2, l3, l4⟩ := lsne l hl
            rw [upd_ne l4]
            exact st _ _ l1 l2 l3 (nSls l hl) (s45 _ _ e)
        · rcases List.mem_append.mp hl with hl | hl
          · exact lsne l hl
          · rw [List.mem_singleton.mp hl]
            exact ⟨nSM, nSN, nSW, nSMc⟩
        · rw [upd_ne nMCh.symm]
          exact st _ _ nChM nChN nChW nSCh.symm eCh5
        · intro b u e
          have e5 := s45 _ _ (s4 b u e)
          rw [upd_ne (ne_of_none e hMc0)]
          exact st b u (ne_of_none e hM0) (ne_of_none e hN0) (ne_of_none e hW0) (ne_of_none e hSt0) e5
    · have nlt : ¬ mac.length < cs.length := fun z => e (by
        apply decide_eq_true
        rw [List.length_map, List.length_map]
        omega)
      exact ⟨.ref Mc, rfl, q H4 Mc ls cs mac s4 hMc0 eMc hmac wm (by omega)⟩
abbrev zs (ns : List Nat) : List Int := ns.map Int.ofNat
structure NumOf (ks : List NestedKey) (ns : List Nat) : Prop where
  len : ns.length = ks.length
  inj : ∀ (i j a : Nat) x y, ns[i]? = some a → ns[j]? = some a → ks[i]? = some x → ks[j]? = some y → x = y
  rg : ∀ i v : Nat, ns[i]? = some (v + 1) → ∃ j, j < i ∧ ns[j]? = some v
  same : ∀ (i j : Nat), ks[i]? = ks[j]? → ns[i]? = ns[j]?
structure FI (ks : List NestedKey) (i : Nat) (us : List NestedKey) : Prop where
  nd : us.Nodup
  all : ∀ (j : Nat) k, j < i → ks[j]? = some k → k ∈ us
  src : ∀ k ∈ us, ∃ j, j < i ∧ ks[j]? = some k
  rg : ∀ (v j : Nat) k, us[v + 1]? = some k → ks[j]? = some k → ∃ j' k', j' < j ∧ us[v]? = some k' ∧ ks[j']? = some k'
  len : us.length ≤ i
theorem FI.zero {ks : List NestedKey} : FI ks 0 [] := ⟨.nil, (fun j k h => absurd h (Nat.not_lt_zero _)), (fun _ z => nomatch z), (fun v j k h => by simp at h), Nat.le_refl _⟩
theorem FI.old {ks us : List NestedKey} {i : Nat} {k : NestedKey} (h : FI ks i us) (hk : ks[i]? = some k) (hm : k ∈ us) : FI ks (i + 1) us := by
  refine ⟨h.nd, fun j k' hj e => ?_, fun k' hk' => ?_, h.rg, Nat.le_succ_of_le h.len⟩
  · by_cases hji : j = i
    · rw [hji, hk] at e
      exact Option.some.inj e ▸ hm
    · exact h.all j k' (by omega) e
  · obtain ⟨j, h1, h2⟩ := h.src k' hk'
    exact ⟨j, by omega, h2⟩
theorem FI.new {ks us : List NestedKey} {i : Nat} {k : NestedKey} (h : FI ks i us) (hk : ks[i]? = some k) (hm : k ∉ us) : FI ks (i + 1) (us ++ [k]) := by
  refine ⟨?_, fun j k' hj e => ?_, fun k' hk' => ?_, fun v j k' hv e => ?_, by rw [List.length_append]; exact Nat.succ_le_succ h.len⟩
  · rw [List.nodup_append]
    refine ⟨h.nd, by simp, fun a ha b hb => ?_⟩
    rw [List.mem_singleton.mp hb]
    exact fun z => hm (z ▸ ha)
  · by_cases hji : j = i
    · rw [hji, hk] at e
      rw [← Option.some.inj e]
      simp
    · exact List.mem_append_left _ (h.all j k' (by omega) e)
  · rcases List.mem_append.mp hk' with h1 | h1
    · obtain ⟨j, h2, h3⟩ := h.src k' h1
      exact ⟨j, by omega, h3⟩
    · rw [List.mem_singleton.mp h1]
      exact ⟨i, by omega, hk⟩
  · by_cases hl : v + 1 < us.length
    · rw [List.getElem?_append_left hl] at hv
      obtain ⟨j', k2, h1, h2, h3⟩ := h.rg v j k' hv e
      exact ⟨j', k2, h1, by rw [List.getElem?_append_left (by omega)]; exact h2, h3⟩
    · rw [List.getElem?_append_right (by omega)] at hv
      have hv0 : v + 1 - us.length = 0 := by
        have := (List.getElem?_eq_some_iff.mp hv).1
        simp at this
        exact this
      rw [hv0] at hv
      have hkk : k = k' := by simpa using hv
      subst hkk
      have hlv : v < us.length := by omega
      obtain ⟨j', h1, h2⟩ := h.src us[v] (List.getElem_mem hlv)
      refine ⟨j', us[v], ?_, by rw [List.getElem?_append_left hlv, List.getElem?_eq_getElem hlv], h2⟩
      by_cases hji : j < i
      · exact absurd (h.all j k hji e) hm
      · omega
def idxN (us : List NestedKey) (k : NestedKey) : Nat := us.findIdx fun u => decide (u = k)
theorem idxN_at {us : List NestedKey} {k : NestedKey} (h : k ∈ us) : us[idxN us k]? = some k := by
  have hl : idxN us k < us.length := List.findIdx_lt_length_of_exists ⟨k, h, by simp⟩
  rw [List.getElem?_eq_getElem hl]
  exact congrArg some (of_decide_eq_true (List.findIdx_getElem (w := hl)))
theorem FI.done {ks us : List NestedKey} (h : FI ks ks.length us) : NumOf ks (ks.map (idxN us)) := by
  have key : ∀ (i a : Nat), (ks.map (idxN us))[i]? = some a → ∃ x, ks[i]? = some x ∧ us[a]? = some x := fun i a e => by
    rw [List.getElem?_map] at e
    cases hx : ks[i]? with
    | none => rw [hx] at e; cases e
    | some x =>
      rw [hx] at e
      have e' : idxN us x = a := Option.some.inj e
      exact ⟨x, rfl, e' ▸ idxN_at (h.all i x (List.getElem?_eq_some_iff.mp hx).1 hx)⟩
  refine ⟨List.length_map _, fun i j a x y h1 h2 h3 h4 => ?_, fun i v e => ?_, fun i j e => by rw [List.getElem?_map, List.getElem?_map, e]⟩
  · obtain ⟨x', e1, e2⟩ := key i a h1
    obtain ⟨y', e3, e4⟩ := key j a h2
    rw [h3] at e1
    rw [h4] at e3
    rw [Option.some.inj e1, Option.some.inj e3]
    exact Option.some.inj (e2.symm.trans e4)
  · obtain ⟨x, e1, e2⟩ := key i _ e
    obtain ⟨j', k', h1, h2, h3⟩ := h.rg v i x e2 e1
    refine ⟨j', h1, ?_⟩
    rw [List.getElem?_map, h3]
    have hk' := h.all j' k' (List.getElem?_eq_some_iff.mp h3).1 h3
    have := idxN_at hk'
    exact congrArg some ((List.getElem?_inj (List.getElem?_eq_some_iff.mp this).1 h.nd).mp (this.trans h2.symm))
abbrev KeysAt (H : Hp) : List Addr → List NestedKey → Prop := Paired fun b k => KeyN H (.ref b) k
def spNu : Sp := fun vs H Q _ => ∃ (L : Addr) (bs : List Addr) (ks : List NestedKey), vs = [.ref L] ∧ H L = some (.lst (bs.map V.ref)) ∧ KeysAt H bs ks ∧ bs.length ≤ 256 ∧
  ∀ H' p ns, Same H H' → H p = none → H' p = some (.lst ((zs ns).map V.int)) → NumOf ks ns → Q (.ref p) H'
theorem ok_nu {f : Addr} {fd : FuncData} {k : Nat} (F : Fun K "numbered" "numbered" s_numbered f fd) (mn : mg "len" = none) : FnOk P w K mg base CX0 (k + 1) f fd ["looks"] spNu := by
  refine F.ok sc_numbered (fun vs H Q E h => ?_) (fun cdv A outer s H vs Q E hr h => ?_)
  · obtain ⟨L, bs, ks, rfl, _⟩ := h
    rfl
  · obtain ⟨L, bs, ks, rfl, eL, hk, hl, q⟩ := h
    refine ⟨_, pss_cons (ps_set (i := 1) sc_numbered.nd rfl (.inr rfl) (pe_ndnew (P := P) (w := w) rfl rfl))
      (pss_cons (ps_for PassesOwn.never rfl (pi_list (pv 0)) (pg_name (i := 2) sc_numbered.nd rfl (.inl rfl))
        (pss_one (ps_expr (pe_nsetd (P := P) (w := w) rfl rfl hr.units (pv 1) (pa_cons (pv 2) (pa_cons (pe_callB (call_lenN (P := P) (w := w) rfl rfl) (by rfl) mn PySem.boot_len (pa_cons (pv 1) pa_nil)) pa_nil))))))
      (pss_one (ps_ret (pe_lc (own := [("look", 2)]) (g := gName 2) (by rfl) sc_numbered.nd (pi_list (pv 0)) (blkOk_by (own := [("look", 2)]) (N := N_numbered) (sc := defScope s_numbered) (by decide +kernel))
        (fun _ _ _ _ _ => pg_name (i := 2) sc_numbered.nd rfl (Or.inl rfl)) (fun _ _ _ _ _ => pts_nil) (fun _ _ _ _ _ => pe_ndget (P := P) (w := w) rfl rfl hr.units (pv 1) (pv 2) (fun _ _ => rfl)))))), ?_⟩
    intro N hN
    have sN := same_new (o := NDO P w N []) hN
    have nLN : L ≠ N := ne_of_none eL hN
    have kl := awLen hk
    refine ⟨.ref L, rfl, L, rfl, ⟨_, .inl (.inl (sN _ _ eL))⟩, for_list (K := K) (a := L) (xs := bs.map V.ref) (fun i σ H3 => ∃ y2 ts, σ = [some (.ref L), some (.ref N), y2] ∧ ND P w H3 N (numE ts) ∧ FI ks i (ts.map (·.1)) ∧ Same H H3)
      ⟨none, [], rfl, nd_nil, FI.zero, sN⟩ (fun i σ H3 _ hp => ?_) (fun i x σ H3 hx hp => ?_) (fun σ H3 hp => ?_)⟩
    · obtain ⟨_, _, _, _, _, s3⟩ := hp
      exact .inl (.inl (s3 _ _ eL))
    · obtain ⟨y2, ts, rfl, nd3, fi, s3⟩ := hp
      have hi : i < bs.length := by
        have := (List.getElem?_eq_some_iff.mp hx).1
        rwa [List.length_map] at this
      have hx' : x = .ref bs[i] := by
        rw [List.getElem?_map, List.getElem?_eq_getElem hi] at hx
        exact (Option.some.inj hx).symm
      subst hx'
      obtain ⟨key, hk1, hk2⟩ := awGet hk (List.getElem?_eq_getElem hi)
      have hk3 := keyn_stay (Same.tups s3) hk2
      have tl := fi.len
      rw [List.length_map] at tl
      refine ⟨.ref N, rfl, ⟨N, _, rfl, nd3⟩, .ref bs[i], rfl, .ref N, rfl, N, _, rfl, nd3, N, _, key, bs[i], _, rfl, rfl, nd3, hk3, ?_, fun y hy => ?_, fun hn => ?_⟩
      · rw [numE_len]
        exact small1000 (by omega)
      · obtain ⟨b, hb⟩ := getN_some hy
        obtain ⟨j, t, ht, he⟩ := numE_mem hb
        have : key ∈ ts.map (·.1) := List.mem_map.mpr ⟨t, List.mem_of_getElem? ht, (Prod.mk.inj he).1.symm⟩
        exact ⟨some (.ref bs[i]), ts, rfl, nd3, fi.old hk1 this, s3⟩
      · have nm : key ∉ ts.map (·.1) := fun z => by
          obtain ⟨t, h1, h2⟩ := List.mem_map.mp z
          obtain ⟨j, hj⟩ := List.mem_iff_getElem?.mp h1
          have := numE_some (k := key) (b := t.2) fi.nd (by rw [hj, ← h2])
          rw [hn] at this
          cases this
        refine ⟨some (.ref bs[i]), ts ++ [(key, bs[i])], rfl, ?_, ?_, fun b u e => ?_⟩
        · rw [numE_snoc, numE_len]
          exact nd_put nd3 hk3
        · rw [List.map_append]
          exact fi.new hk1 nm
        · rw [upd_ne (ne_of_none e hN)]
          exact s3 b u e
    · obtain ⟨y2, ts, rfl, nd3, fi, s3⟩ := hp
      rw [List.length_map, kl] at fi
      refine ⟨.ref L, rfl, L, rfl, ⟨_, .inl (.inl (s3 _ _ eL))⟩, fun D hD => ?_⟩
      refine lc_it (walk_list (K := K) (a := L) (xs := bs.map V.ref)) (fun i H4 => H4 D = some (.lst ((zs ((ks.map (idxN (ts.map (·.1)))).take i)).map V.int)) ∧ Same H3 H4) ⟨upd_same, same_new hD⟩ (fun i H4 _ hp => .inl (.inl (hp.2 _ _ (s3 _ _ eL)))) (fun i x H4 H5 hi hp hy => ?_) (fun H4 hp => ?_)
      · obtain ⟨eD, s4⟩ := hp
        obtain ⟨rfl, hx⟩ := hy
        have hi2 : i < bs.length := by rwa [List.length_map] at hi
        have hx' : x = .ref bs[i] := by
          rw [List.getElem?_map, List.getElem?_eq_getElem hi2] at hx
          exact (Option.some.inj hx).symm
        subst hx'
        obtain ⟨key, hk1, hk2⟩ := awGet hk (List.getElem?_eq_getElem hi2)
        have hm := fi.all i key (by omega) hk1
        have hat := idxN_at hm
        obtain ⟨t, ht1, ht2⟩ : ∃ t, ts[idxN (ts.map (·.1)) key]? = some t ∧ t.1 = key := by
          rw [List.getElem?_map] at hat
          cases ht : ts[idxN (ts.map (·.1)) key]? with
          | none => rw [ht] at hat; cases hat
          | some t => rw [ht] at hat; exact ⟨t, rfl, Option.some.inj hat⟩
        have hg := numE_some (k := key) (b := t.2) fi.nd (by rw [ht1, ← ht2])
        refine ⟨rfl, .ref N, rfl, .ref bs[i], rfl, N, _, key, _, rfl, nd_same nd3 s4, keyn_stay (Same.tups (s3.trans s4)) hk2, hg, _, eD, ?_, ?_, fun b u e => ?_⟩
        · rw [List.length_map, List.length_map, List.length_take]
          exact small1000 (by omega)
        · rw [upd_same, List.take_add_one, List.getElem?_map, hk1]
          simp [zs]
        · rw [upd_ne (ne_of_none e hD)]
          exact s4 b u e
      · obtain ⟨eD, s4⟩ := hp
        rw [List.length_map, kl, ← List.length_map (f := idxN (ts.map (·.1))), List.take_length] at eD
        exact q H4 D _ (s3.trans s4) (s3.free hD) eD fi.done
abbrev RG (ns : List Nat) : Prop := ∀ i v : Nat, ns[i]? = some (v + 1) → ∃ j, j < i ∧ ns[j]? = some v
abbrev Finer (ns ps : List Nat) : Prop := ∀ i j a x y : Nat, ns[i]? = some a → ns[j]? = some a → ps[i]? = some x → ps[j]? = some y → x = y
theorem rg_down {ps : List Nat} (rg : RG ps) : ∀ d v i : Nat, ps[i]? = some (v + d) → ∃ j : Nat, ps[j]? = some v
  | 0, v, i, h => ⟨i, h⟩
  | d + 1, v, i, h => by
    obtain ⟨j, _, h2⟩ := rg i (v + d) h
    exact rg_down rg d v j h2
theorem coarse {ps ns : List Nat} {M m : Nat} (hl : ps.length = ns.length) (rgp : RG ps) (hM : M ∈ ps) (hm : ∀ x ∈ ns, x ≤ m) (hle : m ≤ M) (ref : Finer ns ps) : Finer ps ns := by
  have at_ : ∀ v, v ≤ M → ∃ i : Nat, ps[i]? = some v := fun v hv => by
    obtain ⟨i, hi⟩ := List.mem_iff_getElem?.mp hM
    exact rg_down rgp (M - v) v i (by rw [hi]; congr 1; omega)
  let r : Nat → Nat := fun v => ps.findIdx fun u => decide (u = v)
  have hr : ∀ v, v ≤ M → ps[r v]? = some v := fun v hv => by
    obtain ⟨i, hi⟩ := at_ v hv
    have hlt : r v < ps.length := List.findIdx_lt_length_of_exists ⟨v, List.mem_of_getElem? hi, by simp⟩
    rw [List.getElem?_eq_getElem hlt]
    exact congrArg some (of_decide_eq_true (List.findIdx_getElem (w := hlt)))
  have hn : ∀ v, v ≤ M → ∃ a, ns[r v]? = some a ∧ ns.getD (r v) 0 = a := fun v hv => by
    have hlt : r v < ns.length := by
      rw [← hl]
      exact (List.getElem?_eq_some_iff.mp (hr v hv)).1
    exact ⟨ns[r v], List.getElem?_eq_getElem hlt, by simp [List.getD, List.getElem?_eq_getElem hlt]⟩
  have nd : ((List.range (M + 1)).map fun v => ns.getD (r v) 0).Nodup := by
    refine List.pairwise_map.mpr (List.Pairwise.imp_of_mem (fun {a b} ha hb hab z => hab ?_) List.nodup_range)
    rw [List.mem_range] at ha hb
    obtain ⟨x, h1, h2⟩ := hn a (by omega)
    obtain ⟨y, h3, h4⟩ := hn b (by omega)
    rw [h2, h4] at z
    subst z
    exact ref _ _ x a b h1 h3 (hr a (by omega)) (hr b (by omega))
  have cov : ∀ x, x ∈ ns → ∃ v, v ≤ M ∧ ns[r v]? = some x := fun x hx => by
    by_cases h : x ∈ (List.range (M + 1)).map fun v => ns.getD (r v) 0
    · obtain ⟨v, h1, h2⟩ := List.mem_map.mp h
      rw [List.mem_range] at h1
      obtain ⟨a, h3, h4⟩ := hn v (by omega)
      exact ⟨v, by omega, by rw [h3, ← h4, ← h2]⟩
    · exfalso
      have := pigeon (x :: (List.range (M + 1)).map fun v => ns.getD (r v) 0) (List.range (M + 1)) (List.nodup_cons.mpr ⟨h, nd⟩) fun y hy => by
        rw [List.mem_range]
        rcases List.mem_cons.mp hy with rfl | hy
        · have := hm _ hx
          omega
        · obtain ⟨v, h1, h2⟩ := List.mem_map.mp hy
          rw [List.mem_range] at h1
          obtain ⟨a, h3, h4⟩ := hn v (by omega)
          have := hm a (List.mem_of_getElem? h3)
          have h2' : ns.getD (r v) 0 = y := h2
          omega
      rw [List.length_cons, List.length_map, List.length_range] at this
      omega
  intro i j a x y h1 h2 h3 h4
  obtain ⟨v, v1, v2⟩ := cov x (List.mem_of_getElem? h3)
  obtain ⟨u, u1, u2⟩ := cov y (List.mem_of_getElem? h4)
  have e1 := ref i (r v) x a v h3 v2 h1 (hr v v1)
  have e2 := ref j (r u) y a u h4 u2 h2 (hr u u1)
  have : v = u := by omega
  subst this
  rw [v2] at u2
  exact Option.some.inj u2
abbrev beh (ns : List Nat) (row : MRow) : List Int := row.map fun e => ((ns.getD e.2.toNat 0 : Nat) : Int)
structure MacOk (mac : List MRow) : Prop where
  pos : 0 < mac.length
  few : mac.length ≤ 256
  rows : ∀ row ∈ mac, row.length ≤ 8
  ends : ∀ row ∈ mac, ∀ e ∈ row, ∃ j : Nat, e.2 = (j : Int) ∧ j < mac.length
/-- states that tell alike for ever -/
def Alk (mac : List MRow) (R : Nat → Nat → Prop) : Prop := ∀ i j, R i j → ∃ r s, mac[i]? = some r ∧ mac[j]? = some s ∧ Paired (fun (e e' : Int × Int) => e.1 = e'.1 ∧ R e.2.toNat e'.2.toNat) r s
theorem alk_bits {R : Nat → Nat → Prop} : ∀ {r s : MRow}, Paired (fun (e e' : Int × Int) => e.1 = e'.1 ∧ R e.2.toNat e'.2.toNat) r s → r.map (·.1) = s.map (·.1)
  | _, _, .nil => rfl
  | _, _, .cons h1 h2 => by rw [List.map_cons, List.map_cons, h1.1, alk_bits h2]
theorem alk_beh {ns : List Nat} {R : Nat → Nat → Prop} (h : ∀ i j, R i j → ns[i]? = ns[j]?) : ∀ {r s : MRow}, Paired (fun (e e' : Int × Int) => e.1 = e'.1 ∧ R e.2.toNat e'.2.toNat) r s → beh ns r = beh ns s
  | _, _, .nil => rfl
  | _, _, .cons h1 h2 => by
    have e := alk_beh h h2
    unfold beh at e ⊢
    rw [List.map_cons, List.map_cons, e, List.getD_eq_getElem?_getD, List.getD_eq_getElem?_getD, h _ _ h1.2]
structure KOk (mac : List MRow) (ns : List Nat) : Prop where
  len : ns.length = mac.length
  rg : RG ns
  bits : ∀ (i j a : Nat) r s, ns[i]? = some a → ns[j]? = some a → mac[i]? = some r → mac[j]? = some s → r.map (·.1) = s.map (·.1)
  next : ∀ (i j a : Nat) r s, ns[i]? = some a → ns[j]? = some a → mac[i]? = some r → mac[j]? = some s → beh ns r = beh ns s
  crs : ∀ R, Alk mac R → ∀ i j, R i j → ns[i]? = ns[j]?
structure KInv (mac : List MRow) (ns : List Nat) (many : Nat) : Prop where
  len : ns.length = mac.length
  rg : RG ns
  bits : ∀ (i j a : Nat) r s, ns[i]? = some a → ns[j]? = some a → mac[i]? = some r → mac[j]? = some s → r.map (·.1) = s.map (·.1)
  prev : many = 0 ∨ ∃ (ps : List Nat) (M : Nat), ps.length = mac.length ∧ RG ps ∧ M ∈ ps ∧ many = M + 1 ∧ Finer ns ps ∧ ∀ (i j a : Nat) r s, ns[i]? = some a → ns[j]? = some a → mac[i]? = some r → mac[j]? = some s → beh ps r = beh ps s
  crs : ∀ R, Alk mac R → ∀ i j, R i j → ns[i]? = ns[j]?
theorem rg_le {ns : List Nat} (rg : RG ns) : ∀ (v i : Nat), ns[i]? = some v → v ≤ i
  | 0, _, _ => Nat.zero_le _
  | v + 1, i, e => by
    obtain ⟨j, h1, h2⟩ := rg i v e
    have := rg_le rg v j h2
    omega
theorem KInv.done {mac : List MRow} {ns : List Nat} {many m : Nat} (h : KInv mac ns many) (ok : MacOk mac) (hm : ∀ x ∈ ns, x ≤ m) (hle : m + 1 ≤ many) : KOk mac ns := by
  refine ⟨h.len, h.rg, h.bits, fun i j a r s h1 h2 h3 h4 => ?_, h.crs⟩
  rcases h.prev with e | ⟨ps, M, lp, rgp, hM, rfl, fin, nx⟩
  · omega
  have co := coarse (lp.trans h.len.symm) rgp hM hm (by omega) fin
  have e1 := nx i j a r s h1 h2 h3 h4
  apply List.ext_getElem?
  intro t
  have lr := congrArg List.length (h.bits i j a r s h1 h2 h3 h4)
  rw [List.length_map, List.length_map] at lr
  have e2 := congrArg (fun l : List Int => l[t]?) e1
  rw [List.getElem?_map, List.getElem?_map]
  by_cases ht : t < r.length
  · have ht2 : t < s.length := by omega
    have e3 : (beh ps r)[t]? = (beh ps s)[t]? := e2
    rw [List.getElem?_map, List.getElem?_map, List.getElem?_eq_getElem ht, List.getElem?_eq_getElem ht2] at e3
    rw [List.getElem?_eq_getElem ht, List.getElem?_eq_getElem ht2]
    obtain ⟨x, hx, lx⟩ := ok.ends r (List.mem_of_getElem? h3) r[t] (List.getElem_mem ht)
    obtain ⟨y, hy, ly⟩ := ok.ends s (List.mem_of_getElem? h4) s[t] (List.getElem_mem ht2)
    have e4 : ((ps.getD r[t].2.toNat 0 : Nat) : Int) = ((ps.getD s[t].2.toNat 0 : Nat) : Int) := Option.some.inj e3
    show some ((ns.getD r[t].2.toNat 0 : Nat) : Int) = some ((ns.getD s[t].2.toNat 0 : Nat) : Int)
    rw [hx, hy, Int.toNat_natCast, Int.toNat_natCast] at e4 ⊢
    have hl := h.len
    have px : ps[x]? = some ps[x] := List.getElem?_eq_getElem (by omega)
    have py : ps[y]? = some ps[y] := List.getElem?_eq_getElem (by omega)
    have nx : ns[x]? = some ns[x] := List.getElem?_eq_getElem (by omega)
    have ny : ns[y]? = some ns[y] := List.getElem?_eq_getElem (by omega)
    rw [List.getD_eq_getElem?_getD, List.getD_eq_getElem?_getD, px, py] at e4
    rw [List.getD_eq_getElem?_getD, List.getD_eq_getElem?_getD, nx, ny]
    have e6 : ((ps[x] : Nat) : Int) = ((ps[y] : Nat) : Int) := by simpa using e4
    have e5 : ps[x] = ps[y] := by omega
    have := co x y _ _ _ px (e5 ▸ py) nx ny
    simp [this]
  · rw [List.getElem?_eq_none (by omega), List.getElem?_eq_none (by omega)]
theorem KInv.first {mac : List MRow} {ns : List Nat} (h : NumOf (mac.map fun row => kC (row.map (·.1))) ns) : KInv mac ns 0 := by
  refine ⟨by rw [h.len, List.length_map], h.rg, fun i j a r s h1 h2 h3 h4 => ?_, .inl rfl, fun R hR i j hij => ?_⟩
  · exact kC_inj (h.inj i j a _ _ h1 h2 (by rw [List.getElem?_map, h3]; rfl) (by rw [List.getElem?_map, h4]; rfl))
  · obtain ⟨r, s, h1, h2, h3⟩ := hR i j hij
    exact h.same i j (by rw [List.getElem?_map, List.getElem?_map, h1, h2, Option.map_some, Option.map_some, alk_bits h3])
def kZ (n : Nat) (c : List Int) : NestedKey := .tup [.num (n : Int), kC c]
theorem kZ_inj {n n' : Nat} {c c' : List Int} (h : kZ n c = kZ n' c') : n = n' ∧ c = c' := by
  unfold kZ at h
  have h1 := NestedKey.tup.inj h
  rw [List.cons.injEq, List.cons.injEq] at h1
  have h2 := NestedKey.num.inj h1.1
  exact ⟨by omega, kC_inj h1.2.1⟩
theorem kZ_depth (n : Nat) (c : List Int) : (kZ n c).depth ≤ 8 := by
  unfold kZ kC
  simp [NestedKey.depth, NestedKey.depthAll, nums_depth c]
theorem keyZ {H : Hp} {t b : Addr} {n : Nat} {c : List Int} (h1 : H t = some (.tup [.int (n : Int), .ref b])) (h2 : H b = some (.tup (c.map V.int))) : KeyN H (.ref t) (kZ n c) :=
  ⟨.tup h1 (.cons (.num _) (.cons (.tup h2 (nks_ints H c)) .nil)), kZ_depth n c, t, rfl⟩
theorem KInv.step {mac : List MRow} {ns ns' : List Nat} {many m : Nat} (h : KInv mac ns many) (hm : m ∈ ns) (hn : NumOf ((ns.zip mac).map fun e => kZ e.1 (beh ns e.2)) ns') : KInv mac ns' (m + 1) := by
  have zl : (ns.zip mac).length = mac.length := by rw [List.length_zip, h.len, Nat.min_self]
  have key : ∀ (i j a x y : Nat) r s, ns'[i]? = some a → ns'[j]? = some a → ns[i]? = some x → ns[j]? = some y → mac[i]? = some r → mac[j]? = some s → x = y ∧ beh ns r = beh ns s := fun i j a x y r s h1 h2 h3 h4 h5 h6 => by
    have z1 : (ns.zip mac)[i]? = some (x, r) := List.getElem?_zip_eq_some.mpr ⟨h3, h5⟩
    have z2 : (ns.zip mac)[j]? = some (y, s) := List.getElem?_zip_eq_some.mpr ⟨h4, h6⟩
    exact kZ_inj (hn.inj i j a _ _ h1 h2 (by rw [List.getElem?_map, z1]; rfl) (by rw [List.getElem?_map, z2]; rfl))
  have at_ : ∀ (i : Nat) r, mac[i]? = some r → ∃ x : Nat, ns[i]? = some x := fun i r e => by
    have := (List.getElem?_eq_some_iff.mp e).1
    have hl := h.len
    exact ⟨_, List.getElem?_eq_getElem (by omega)⟩
  refine ⟨by rw [hn.len, List.length_map, zl], hn.rg, fun i j a r s h1 h2 h3 h4 => ?_, .inr ⟨ns, m, h.len, h.rg, hm, rfl, fun i j a x y h1 h2 h3 h4 => ?_, fun i j a r s h1 h2 h3 h4 => ?_⟩, fun R hR i j hij => ?_⟩
  · obtain ⟨x, hx⟩ := at_ i r h3
    obtain ⟨y, hy⟩ := at_ j s h4
    obtain ⟨rfl, _⟩ := key i j a x y r s h1 h2 hx hy h3 h4
    exact h.bits i j x r s hx hy h3 h4
  · have l1 := (List.getElem?_eq_some_iff.mp h3).1
    have l2 := (List.getElem?_eq_some_iff.mp h4).1
    have hl := h.len
    exact (key i j a x y _ _ h1 h2 h3 h4 (List.getElem?_eq_getElem (by omega)) (List.getElem?_eq_getElem (by omega))).1
  · obtain ⟨x, hx⟩ := at_ i r h3
    obtain ⟨y, hy⟩ := at_ j s h4
    exact (key i j a x y r s h1 h2 hx hy h3 h4).2
  · obtain ⟨r, s, h1, h2, h3⟩ := hR i j hij
    obtain ⟨x, hx⟩ := at_ i r h1
    have hy : ns[j]? = some x := (h.crs R hR i j hij).symm.trans hx
    have z1 : (ns.zip mac)[i]? = some (x, r) := List.getElem?_zip_eq_some.mpr ⟨hx, h1⟩
    have z2 : (ns.zip mac)[j]? = some (x, s) := List.getElem?_zip_eq_some.mpr ⟨hy, h2⟩
    exact hn.same i j (by rw [List.getElem?_map, List.getElem?_map, z1, z2, Option.map_some, Option.map_some, alk_beh (h.crs R hR) h3])
def spKi : Sp := fun vs H Q _ => ∃ (p : Addr) (ls : List Addr) (mac : List MRow), vs = [.ref p] ∧ H p = some (.lst (ls.map V.ref)) ∧ MacL H ls mac ∧ MacOk mac ∧
  ∀ H' q ns, Same H H' → H q = none → H' q = some (.lst ((zs ns).map V.int)) → KOk mac ns → Q (.ref q) H'
def KSt (H : Hp) (p : Addr) (mac : List MRow) (n : Nat) (σ : L2.St) (H4 : Hp) : Prop := ∃ y3 y4 y5 y6 Kd ns many, σ = [some (.ref p), some (.ref Kd), some (.int ((many : Nat) : Int)), y3, y4, y5, y6] ∧ H4 Kd = some (.lst ((zs ns).map V.int)) ∧ KInv mac ns many ∧ Same H H4 ∧ H Kd = none ∧ n = 300 - many
theorem mem_zs {ns : List Nat} {m : Int} (h : m ∈ zs ns) : ∃ k : Nat, k ∈ ns ∧ m = (k : Int) := by
  obtain ⟨k, h1, h2⟩ := List.mem_map.mp h
  exact ⟨k, h1, h2.symm⟩
theorem macl_same {H H' : Hp} (s : Same H H') {ls : List Addr} {mac : List MRow} (h : MacL H ls mac) : MacL H' ls mac := macl_stay (Same.tups s) (fun l _ xs e => s _ _ e) h
abbrev TupsAt (H : Hp) : List Addr → List (List Int) → Prop := Paired fun b c => H b = some (.tup (c.map V.int))
abbrev rTupOf (K : PySem.W.Frag) : List V → Hp → VK → Prop := fun xs H Q => ∃ p ys, xs = [.ref p] ∧ ((SqL K H p ys ∧ ∀ l, H l = none → Q (.ref l) (upd H l (.tup ys))) ∨ (SqT K H p ys ∧ Q (.ref p) H))
abbrev scKa : Scope := ⟨.function, [(".0", .local), ("state", .local), ("tuple", .globalImplicit)], false, false, []⟩
abbrev scKb : Scope := ⟨.function, [(".0", .local), ("state", .local), ("tuple", .globalImplicit), ("kinds", .cell)], false, false, []⟩
abbrev scKc : Scope := ⟨.function, [(".0", .local), ("bit", .local), ("after", .local), ("kinds", .free)], false, false, []⟩
theorem ok_ki {f fN : Addr} {fd fdN : FuncData} {k : Nat} (F : Fun K "kinds_of_states" "kinds_of_states" s_kinds_of_states f fd)
    (GN : FnOk P w K mg base CX0 (k + 1) fN fdN ["looks"] spNu) (kN : PySem.W.keepIn K (.ref fN) = true) (bN : Binds K fdN ["looks"] []) (gN : mg "numbered" = some (.ref fN))
    (mx : mg "max" = none) (mt : mg "tuple" = none) (ml : mg "list" = none) (mz : mg "zip" = none) : FnOk P w K mg base CX0 (k + 2) f fd ["machine"] spKi := by
  refine F.ok sc_kinds_of_states (fun vs H Q E h => ?_) (fun cdv A outer s H vs Q E hr h => ?_)
  · obtain ⟨p, ls, mac, rfl, _⟩ := h
    rfl
  · obtain ⟨p, ls, mac, rfl, ep, hmac, ok, q⟩ := h
    refine ⟨_, pss_cons (ps_set (i := 1) sc_kinds_of_states.nd rfl (.inr rfl) (pe_call GN hr (by rfl) gN kN bN .nil pass0 (pa_cons
        (pe_lc (own := [("state", 6)]) (g := gName 6) (by rfl) sc_kinds_of_states.nd (pi_list (pv 0)) (blkOk_by (own := [("state", 6)]) (N := N_kinds_of_states) (sc := defScope s_kinds_of_states) (by decide +kernel))
          (fun _ _ _ _ _ => pg_name (i := 6) sc_kinds_of_states.nd rfl (Or.inl rfl)) (fun _ _ _ _ _ => pts_nil)
          (fun _ _ _ _ _ => pe_callTy (T := "tuple") (r := rTupOf K) call_tuple_of (by rfl) mt (by decide +kernel) (pa_cons
            (pe_lc (wi := iList K (tVar 6)) (own := [("bit", 4), ("after", 5)]) (g := gTup K 2 (gCons (gName 4) (gCons (gName 5) gNil))) (by rfl) sc_kinds_of_states.nd (pi_list (pv 6)) (blkOk_by (own := [("bit", 4), ("after", 5)]) (N := N_kinds_of_states) (sc := scKa) (by decide +kernel))
              (fun _ _ _ _ _ => pg_tup rfl (pgs_cons (pg_name (i := 4) sc_kinds_of_states.nd rfl (.inl rfl)) (pgs_cons (pg_name (i := 5) sc_kinds_of_states.nd rfl (.inl rfl)) pgs_nil))) (fun _ _ _ _ _ => pts_nil)
              (fun _ _ _ _ _ => pv 4)) pa_nil))) pa_nil)))
      (pss_cons (ps_set (i := 2) sc_kinds_of_states.nd rfl (.inl rfl) pe_int)
      (pss_cons (ps_while PassesOwn.never (pt_cmpR op_lt (pv 2) (pe_op op_add (pe_callB (cr_max rfl) (by rfl) mx (by decide +kernel) (pa_cons (pv 1) pa_nil)) pe_int) (nomark _))
        (pss_cons (ps_set (i := 2) sc_kinds_of_states.nd rfl (.inl rfl) (pe_op op_add (pe_callB (cr_max rfl) (by rfl) mx (by decide +kernel) (pa_cons (pv 1) pa_nil)) pe_int))
        (pss_cons (ps_setLc (i := 3) (own := [("state", 6)]) (g := gName 6) (by rfl) sc_kinds_of_states.nd rfl rfl (sw_true rfl rfl rfl (by decide +kernel)) (pi_list (pv 0)) (blkOk_by (own := [("state", 6)]) (N := N_kinds_of_states) (sc := defScope s_kinds_of_states) (by decide +kernel))
          (fun _ _ _ _ _ => pg_name (i := 6) sc_kinds_of_states.nd rfl (Or.inl rfl)) (fun _ _ _ _ _ => pts_nil)
          (fun _ _ _ _ _ => pe_callTy (T := "tuple") (r := rTupOf K) call_tuple_of (by rfl) mt (by decide +kernel) (pa_cons
            (pe_lc (wi := iList K (tVar 6)) (own := [("bit", 4), ("after", 5)]) (g := gTup K 2 (gCons (gName 4) (gCons (gName 5) gNil))) (by rfl) sc_kinds_of_states.nd (pi_list (pv 6)) (by exact blkOk_by (own := [("bit", 4), ("after", 5)]) (N := N_kinds_of_states) (sc := scKb) (scope := scKc) (by decide +kernel))
              (fun _ _ _ _ _ => pg_tup rfl (pgs_cons (pg_name (i := 4) sc_kinds_of_states.nd rfl (.inl rfl)) (pgs_cons (pg_name (i := 5) sc_kinds_of_states.nd rfl (.inl rfl)) pgs_nil))) (fun _ _ _ _ _ => pts_nil)
              (fun _ _ _ _ _ => pe_ix (r := rIxL K) ix_list (pv 1) (pv 5) (fun _ _ => rfl))) pa_nil)))
        (pss_one (ps_set (i := 1) sc_kinds_of_states.nd rfl (.inr rfl) (pe_call GN hr (by rfl) gN kN bN .nil pass0 (pa_cons (pe_listZip (by rfl) (by rfl) ml (by rfl) mz (pa_cons (pv 1) (pa_cons (pv 3) pa_nil))) pa_nil)))))))
      (pss_one (ps_ret (pv 1))))), ?_⟩
    have lml := awLen hmac
    have few := ok.few
    -- the bits of the states
    refine ⟨.ref p, rfl, p, rfl, ⟨_, .inl (.inl ep)⟩, fun D hD => ?_⟩
    refine lc_it (walk_list (K := K) (a := p) (xs := ls.map V.ref)) (fun i H4 => ∃ bs, H4 D = some (.lst (bs.map V.ref)) ∧ TupsAt H4 bs ((mac.map fun row => row.map (·.1)).take i) ∧ Same H H4) ⟨[], upd_same, .nil, same_new hD⟩ (fun i H4 _ hp => ?_) (fun i x H4 H5 hi hp hy => ?_) (fun H4 hp => ?_)
    · obtain ⟨_, _, _, s4⟩ := hp
      exact .inl (.inl (s4 _ _ ep))
    · obtain ⟨bs, eD, hb, s4⟩ := hp
      obtain ⟨rfl, hx⟩ := hy
      have hi2 : i < ls.length := by rwa [List.length_map] at hi
      have hx' : x = .ref ls[i] := by
        rw [List.getElem?_map, List.getElem?_eq_getElem hi2] at hx
        exact (Option.some.inj hx).symm
      subst hx'
      obtain ⟨row, hr1, hr2⟩ := awGet hmac (List.getElem?_eq_getElem hi2)
      obtain ⟨qs, eq, hq⟩ := hr2
      have rm := List.mem_of_getElem? hr1
      have r8 := ok.rows row rm
      have ql := awLen hq
      have bl := awLen hb
      rw [List.length_take] at bl
      refine ⟨rfl, .ref ls[i], rfl, ls[i], rfl, ⟨_, .inl (.inl (s4 _ _ eq))⟩, fun G hG => ?_⟩
      refine lc_it (walk_list (K := K) (a := ls[i]) (xs := qs.map V.ref)) (fun t H6 => H6 G = some (.lst (((row.take t).map (·.1)).map V.int)) ∧ Same H5 H6) ⟨upd_same, same_new hG⟩ (fun t H6 _ hp => .inl (.inl (hp.2 _ _ (s4 _ _ eq)))) (fun t x H6 H7 ht hp hy => ?_) (fun H6 hp => ?_)
      · obtain ⟨eG, s6⟩ := hp
        obtain ⟨rfl, hx⟩ := hy
        have ht2 : t < qs.length := by rwa [List.length_map] at ht
        have hx' : x = .ref qs[t] := by
          rw [List.getElem?_map, List.getElem?_eq_getElem ht2] at hx
          exact (Option.some.inj hx).symm
        subst hx'
        obtain ⟨e, he1, he2⟩ := awGet hq (List.getElem?_eq_getElem ht2)
        have gl : ((row.take t).map (·.1)).length < sizeLine := by
          rw [List.length_map, List.length_take]
          exact small1000 (by omega)
        refine ⟨qs[t], [.int e.1, .int e.2], rfl, .inl (.inl (s6 _ _ (s4 _ _ he2))), rfl, .int e.1, [.int e.2], rfl, .int e.2, [], rfl, rfl, rfl, .int e.1, rfl, _, eG, ?_, ?_, fun b u z => ?_⟩
        · rw [List.length_map]
          exact gl
        · rw [upd_same, List.take_add_one, he1]
          simp
        · rw [upd_ne (ne_of_none z hG)]
          exact s6 b u z
      · obtain ⟨eG, s6⟩ := hp
        rw [List.length_map, ql, List.take_length] at eG
        refine ⟨G, _, rfl, .inl ⟨.inl (.inl eG), fun T hT => ?_⟩⟩
        have sT := same_new (o := .tup ((row.map (·.1)).map V.int)) hT
        have eD2 := (s6.trans sT) _ _ eD
        have tp := tups_put (o := .lst (bs.map V.ref ++ [V.ref T])) eD2
        refine ⟨_, eD2, ?_, bs ++ [T], ?_, ?_, fun b u z => ?_⟩
        · rw [List.length_map]
          exact small1000 (by omega)
        · rw [upd_same, List.map_append]
          rfl
        · rw [List.take_add_one, List.getElem?_map, hr1]
          exact awMap (fun b c z => tp _ _ z) (awSnoc (F := fun (b : Addr) (c : List Int) => (upd H6 T (.tup ((row.map (·.1)).map V.int))) b = some (.tup (c.map V.int))) upd_same (awMap (fun b c z => sT _ _ (s6 _ _ z)) hb))
        · rw [upd_ne (ne_of_none z hD)]
          exact sT _ _ (s6 _ _ (s4 b u z))
    · obtain ⟨bs, eD, hb, s4⟩ := hp
      have hb' : TupsAt H4 bs (mac.map fun row => row.map (·.1)) := by
        rw [List.length_map, lml, ← List.length_map (as := mac) (f := fun row => row.map (·.1)), List.take_length] at hb
        exact hb
      have bl : bs.length = mac.length := by rw [awLen hb', List.length_map]
      have hks : KeysAt H4 bs (mac.map fun row => kC (row.map (·.1))) := paired_of (by rw [bl, List.length_map]) fun j b key h1 h2 => by
        obtain ⟨c, h3, h4⟩ := awGet hb' h1
        rw [List.getElem?_map] at h2 h3
        cases hj : mac[j]? with
        | none => rw [hj] at h2; cases h2
        | some row =>
          rw [hj] at h2 h3
          rw [← Option.some.inj h2]
          rw [← Option.some.inj h3] at h4
          exact keyC h4
      refine ⟨D, bs, _, rfl, eD, hks, by omega, fun H5 Kd ns s5 nK eK hn => ?_⟩
      have nK0 := s4.free nK
      refine ⟨KSt H p mac, ⟨_, none, none, none, none, Kd, ns, 0, rfl, eK, KInv.first hn, s4.trans s5, nK0, rfl⟩, fun n σ H6 hp => ?_⟩
      obtain ⟨y3, y4, y5, y6, Kd, ns, many, rfl, eK, ki, s6, nK0, rfl⟩ := hp
      have nl : 0 < ns.length := by
        rw [ki.len]
        exact ok.pos
      refine ⟨.int many, rfl, .ref Kd, rfl, Kd, zs ns, rfl, .inl (.inl eK), by rwa [List.length_map], fun mI hmI hxI => ?_⟩
      obtain ⟨m, hm, rfl⟩ := mem_zs hmI
      have hx : ∀ x ∈ ns, x ≤ m := fun x hx => by
        have := hxI (x : Int) (List.mem_map.mpr ⟨x, hx, rfl⟩)
        omega
      have m256 : m < 256 := by
        obtain ⟨i, hi⟩ := List.mem_iff_getElem?.mp hm
        have h1 := rg_le ki.rg m i hi
        have h2 := (List.getElem?_eq_some_iff.mp hi).1
        have h3 := ki.len
        omega
      refine ⟨_, _, rfl, rfl, _, _, rfl, rfl, _, rfl, ite2 (fun e => ?_) (fun e => ?_)⟩
      · have lt : many < m + 1 := by
          have := of_decide_eq_true e
          omega
        refine ⟨fun σ' H' => ∃ m', m' < 300 - many ∧ KSt H p mac m' σ' H', fun σ' H' z => z, ?_⟩
        refine ⟨.ref Kd, rfl, Kd, zs ns, rfl, .inl (.inl eK), by rwa [List.length_map], fun mJ hmJ hxJ => ?_⟩
        obtain rfl : mJ = (m : Int) := by
          have h1 := hxI mJ hmJ
          have h2 := hxJ _ hmI
          omega
        refine ⟨_, _, rfl, rfl, ?_⟩
        refine ⟨.ref p, rfl, p, rfl, ⟨_, .inl (.inl (s6 _ _ ep))⟩, fun D hD => ?_⟩
        have hmac' := macl_same s6 hmac
        refine lc_it (walk_list (K := K) (a := p) (xs := ls.map V.ref)) (fun i H7 => ∃ bs, H7 D = some (.lst (bs.map V.ref)) ∧ TupsAt H7 bs ((mac.map (beh ns)).take i) ∧ Same H6 H7) ⟨[], upd_same, .nil, same_new hD⟩ (fun i H7 _ hp => ?_) (fun i x H7 H8 hi hp hy => ?_) (fun H7 hp => ?_)
        · obtain ⟨_, _, _, s7⟩ := hp
          exact .inl (.inl (s7 _ _ (s6 _ _ ep)))
        · obtain ⟨bs, eD, hb, s7⟩ := hp
          obtain ⟨rfl, hx⟩ := hy
          have hi2 : i < ls.length := by rwa [List.length_map] at hi
          have hx' : x = .ref ls[i] := by
            rw [List.getElem?_map, List.getElem?_eq_getElem hi2] at hx
            exact (Option.some.inj hx).symm
          subst hx'
          obtain ⟨row, hr1, hr2⟩ := awGet hmac' (List.getElem?_eq_getElem hi2)
          obtain ⟨qs, eq, hq⟩ := hr2
          have rm := List.mem_of_getElem? hr1
          have r8 := ok.rows row rm
          have ql := awLen hq
          have bl := awLen hb
          rw [List.length_take] at bl
          refine ⟨rfl, .ref ls[i], rfl, ls[i], rfl, ⟨_, .inl (.inl (s7 _ _ eq))⟩, fun G hG => ?_⟩
          refine lc_it (walk_list (K := K) (a := ls[i]) (xs := qs.map V.ref)) (fun t H9 => H9 G = some (.lst ((beh ns (row.take t)).map V.int)) ∧ Same H8 H9) ⟨upd_same, same_new hG⟩ (fun t H9 _ hp => .inl (.inl (hp.2 _ _ (s7 _ _ eq)))) (fun t x H9 H10 ht hp hy => ?_) (fun H9 hp => ?_)
          · obtain ⟨eG, s9⟩ := hp
            obtain ⟨rfl, hx⟩ := hy
            have ht2 : t < qs.length := by rwa [List.length_map] at ht
            have hx' : x = .ref qs[t] := by
              rw [List.getElem?_map, List.getElem?_eq_getElem ht2] at hx
              exact (Option.some.inj hx).symm
            subst hx'
            obtain ⟨e, he1, he2⟩ := awGet hq (List.getElem?_eq_getElem ht2)
            obtain ⟨j, hj1, hj2⟩ := ok.ends row rm e (List.mem_of_getElem? he1)
            have jn : j < ns.length := by
              rw [ki.len]
              exact hj2
            have gd : ns.getD e.2.toNat 0 = ns[j] := by
              rw [hj1, Int.toNat_natCast]
              simp [List.getD, List.getElem?_eq_getElem jn]
            refine ⟨qs[t], [.int e.1, .int e.2], rfl, .inl (.inl (s9 _ _ (s7 _ _ he2))), rfl, .int e.1, [.int e.2], rfl, .int e.2, [], rfl, rfl, rfl, .ref Kd, rfl, .int e.2, rfl, Kd, _, e.2, .int ((ns[j] : Nat) : Int), rfl, rfl, .inl (.inl (s9 _ _ (s7 _ _ eK))), ?_, _, eG, ?_, ?_, fun b u z => ?_⟩
            · rw [hj1]
              exact atI_nat (by rw [List.getElem?_map, List.getElem?_map, List.getElem?_eq_getElem jn]; rfl)
            · rw [List.length_map, List.length_map, List.length_take]
              exact small1000 (by omega)
            · rw [upd_same, List.take_add_one, he1]
              simp [beh, ← gd]
            · rw [upd_ne (ne_of_none z hG)]
              exact s9 b u z
          · obtain ⟨eG, s9⟩ := hp
            rw [List.length_map, ql, List.take_length] at eG
            refine ⟨G, _, rfl, .inl ⟨.inl (.inl eG), fun T hT => ?_⟩⟩
            have sT := same_new (o := .tup ((beh ns row).map V.int)) hT
            have eD2 := (s9.trans sT) _ _ eD
            have tp := tups_put (o := .lst (bs.map V.ref ++ [V.ref T])) eD2
            refine ⟨_, eD2, ?_, bs ++ [T], ?_, ?_, fun b u z => ?_⟩
            · rw [List.length_map]
              exact small1000 (by omega)
            · rw [upd_same, List.map_append]
              rfl
            · rw [List.take_add_one, List.getElem?_map, hr1]
              exact awMap (fun b c z => tp _ _ z) (awSnoc (F := fun (b : Addr) (c : List Int) => (upd H9 T (.tup ((beh ns row).map V.int))) b = some (.tup (c.map V.int))) upd_same (awMap (fun b c z => sT _ _ (s9 _ _ z)) hb))
            · rw [upd_ne (ne_of_none z hD)]
              exact sT _ _ (s9 _ _ (s7 b u z))
        · obtain ⟨bs, eD, hb, s7⟩ := hp
          have hb' : TupsAt H7 bs (mac.map (beh ns)) := by
            rw [List.length_map, lml, ← List.length_map (as := mac) (f := beh ns), List.take_length] at hb
            exact hb
          have bl : bs.length = mac.length := by rw [awLen hb', List.length_map]
          have kl := ki.len
          refine ⟨.ref Kd, rfl, .ref D, rfl, Kd, D, _, _, rfl, .inl (.inl (s7 _ _ eK)), .inl (.inl eD), by rw [List.length_map, List.length_map, List.length_map]; omega, fun H8 Z ts s8 nZ eZ hz => ?_⟩
          have tl : ts.length = mac.length := by
            rw [awLen hz, List.length_zip, List.length_map, List.length_map, List.length_map]
            omega
          have hks : KeysAt H8 ts ((ns.zip mac).map fun e => kZ e.1 (beh ns e.2)) := paired_of (by rw [tl, List.length_map, List.length_zip]; omega) fun j t key h1 h2 => by
            obtain ⟨e, h3, h4⟩ := awGet hz h1
            rw [List.getElem?_map] at h2
            have hj : j < mac.length := by
              have := (List.getElem?_eq_some_iff.mp h1).1
              omega
            have n1 : ns[j]? = some ns[j] := List.getElem?_eq_getElem (by omega)
            have m1 : mac[j]? = some mac[j] := List.getElem?_eq_getElem hj
            have b1 : bs[j]? = some bs[j] := List.getElem?_eq_getElem (by omega)
            have z1 : (ns.zip mac)[j]? = some (ns[j], mac[j]) := List.getElem?_zip_eq_some.mpr ⟨n1, m1⟩
            rw [z1] at h2
            obtain rfl := Option.some.inj h2
            have z2 : (((zs ns).map V.int).zip (bs.map V.ref))[j]? = some (.int ((ns[j] : Nat) : Int), .ref bs[j]) := List.getElem?_zip_eq_some.mpr ⟨by rw [List.getElem?_map, List.getElem?_map, n1]; rfl, by rw [List.getElem?_map, b1]; rfl⟩
            rw [z2] at h3
            obtain rfl := Option.some.inj h3
            obtain ⟨c, h5, h6⟩ := awGet hb' b1
            rw [List.getElem?_map, m1] at h5
            obtain rfl := Option.some.inj h5
            exact keyZ h4 (s8 _ _ h6)
          refine ⟨Z, ts, _, rfl, eZ, hks, by omega, fun H9 Kd2 ns2 s9 nK2 eK2 hn2 => ?_⟩
          have s69 := (s7.trans s8).trans s9
          exact ⟨300 - (m + 1), by omega, some (.ref D), y4, y5, y6, Kd2, ns2, m + 1, rfl, eK2, ki.step hm hn2, s6.trans s69, (s6.trans (s7.trans s8)).free nK2, rfl⟩
      · have ge : m + 1 ≤ many := by
          have : ¬ ((many : Int) < (m : Int) + 1) := fun z => e (decide_eq_true z)
          omega
        exact ⟨.ref Kd, rfl, q H6 Kd ns s6 nK0 eK (ki.done ok hx ge)⟩
abbrev low (ns : List Nat) (row : MRow) : MRow := row.map fun e => (e.1, ((ns.getD e.2.toNat 0 : Nat) : Int))
theorem low_eq {ns : List Nat} : ∀ {r s : MRow}, r.map (·.1) = s.map (·.1) → beh ns r = beh ns s → low ns r = low ns s
  | [], [], _, _ => rfl
  | [], _ :: _, h, _ => nomatch h
  | _ :: _, [], h, _ => nomatch h
  | x :: r, y :: s, h1, h2 => by
    simp only [beh, List.map_cons, List.cons.injEq] at h1 h2
    simp only [low, List.map_cons, List.cons.injEq]
    exact ⟨Prod.ext h1.1 h2.1, low_eq h1.2 h2.2⟩
/-- a machine walks along with the carries of a row -/
def Sim (m : Nat) (ds : List Deed) (o : Int) (lm : List MRow) (S : List Int → Nat → Prop) : Prop :=
  S (ds.map fcD) 0 ∧ ∀ c k, S c k → ∃ row, lm[k]? = some row ∧ Paired (fun (e : Int × Int) (s : Int × List Int) => e.1 = s.1 ∧ ∃ j : Nat, e.2 = (j : Int) ∧ S s.2 j) row (stp m ds o c)
structure LInv (mac : List MRow) (ns : List Nat) (lm : List MRow) (i : Nat) : Prop where
  each : ∀ (k : Nat) row, lm[k]? = some row → ∃ (i0 : Nat) (r : MRow), ns[i0]? = some k ∧ mac[i0]? = some r ∧ row = low ns r
  all : ∀ j k : Nat, j < i → ns[j]? = some k → k < lm.length
  len : lm.length ≤ i
theorem LInv.new {mac lm : List MRow} {ns : List Nat} {i : Nat} {r : MRow} (h : LInv mac ns lm i) (hk : ns[i]? = some lm.length) (hr : mac[i]? = some r) : LInv mac ns (lm ++ [low ns r]) (i + 1) := by
  refine ⟨fun k row e => ?_, fun j k hj e => ?_, by rw [List.length_append]; exact Nat.succ_le_succ h.len⟩
  · by_cases hl : k < lm.length
    · rw [List.getElem?_append_left hl] at e
      exact h.each k row e
    · rw [List.getElem?_append_right (by omega)] at e
      have h2 := (List.getElem?_eq_some_iff.mp e).1
      simp only [List.length_cons, List.length_nil] at h2
      have ek : k = lm.length := by omega
      subst ek
      rw [Nat.sub_self] at e
      exact ⟨i, r, hk, hr, (Option.some.inj e).symm⟩
  · rw [List.length_append]
    show k < lm.length + 1
    by_cases hji : j = i
    · subst hji
      rw [hk] at e
      have := Option.some.inj e
      omega
    · have := h.all j k (by omega) e
      omega
theorem LInv.old {mac lm : List MRow} {ns : List Nat} {i k : Nat} (h : LInv mac ns lm i) (rg : RG ns) (hk : ns[i]? = some k) (hn : k ≠ lm.length) : LInv mac ns lm (i + 1) := by
  refine ⟨h.each, fun j k' hj e => ?_, Nat.le_succ_of_le h.len⟩
  by_cases hji : j = i
  · subst hji
    rw [hk] at e
    obtain rfl := Option.some.inj e
    cases k with
    | zero => omega
    | succ v =>
      obtain ⟨j', h1, h2⟩ := rg j v hk
      have := h.all j' v h1 h2
      omega
  · exact h.all j k' (by omega) e
theorem LInv.sim {mac lm : List MRow} {ns : List Nat} {m : Nat} {ds : List Deed} {o : Int} {cs : List (List Int)} (h : LInv mac ns lm ns.length) (kk : KOk mac ns) (wm : WM m ds o cs mac) (hl : mac.length = cs.length) (pos : 0 < mac.length) :
    Sim m ds o lm fun c k => ∃ i : Nat, cs[i]? = some c ∧ ns[i]? = some k := by
  have nl := kk.len
  refine ⟨⟨0, wm.first, ?_⟩, fun c k => ?_⟩
  · have h0 : ns[0]? = some ns[0] := List.getElem?_eq_getElem (by omega)
    have := rg_le kk.rg _ _ h0
    rw [h0]
    congr 1
    omega
  · rintro ⟨i, h1, h2⟩
    have il := (List.getElem?_eq_some_iff.mp h2).1
    have kl := h.all i k il h2
    obtain ⟨i0, r0, a1, a2, a3⟩ := h.each k lm[k] (List.getElem?_eq_getElem kl)
    have hr : mac[i]? = some mac[i] := List.getElem?_eq_getElem (by omega)
    obtain ⟨c', b1, b2⟩ := wm.each i _ hr
    rw [h1] at b1
    obtain rfl := Option.some.inj b1
    have e1 := kk.bits i0 i k r0 _ a1 h2 a2 hr
    have e2 := kk.next i0 i k r0 _ a1 h2 a2 hr
    refine ⟨_, List.getElem?_eq_getElem kl, ?_⟩
    rw [a3, low_eq e1 e2]
    refine paired_of (by rw [List.length_map, awLen b2]) fun t e s g1 g2 => ?_
    rw [List.getElem?_map] at g1
    cases hx : (mac[i]'(by omega))[t]? with
    | none => rw [hx] at g1; cases g1
    | some x =>
      rw [hx] at g1
      obtain ⟨s', g3, g4, j, g5, g6⟩ := awGet b2 hx
      rw [g2] at g3
      obtain rfl := Option.some.inj g3
      obtain rfl := Option.some.inj g1
      have jl := (List.getElem?_eq_some_iff.mp g6).1
      have nj : ns[j]? = some ns[j] := List.getElem?_eq_getElem (by omega)
      refine ⟨g4, ns.getD x.2.toNat 0, rfl, j, g6, ?_⟩
      rw [g5, Int.toNat_natCast, List.getD_eq_getElem?_getD, nj]
      rfl
theorem wm_ok {m : Nat} {ds : List Deed} {o : Int} {cs : List (List Int)} {mac : List MRow} (wm : WM m ds o cs mac) (hl : mac.length = cs.length) (hm : m ≤ 3) (hn : ds.length ≤ 8) : MacOk mac := by
  have pos : 0 < cs.length := (List.getElem?_eq_some_iff.mp wm.first).1
  refine ⟨by omega, by rw [hl]; exact few_cs wm.nd wm.bits hn, fun row hr => ?_, fun row hr e he => ?_⟩
  · obtain ⟨i, hi⟩ := List.mem_iff_getElem?.mp hr
    obtain ⟨c, _, h2⟩ := wm.each i row hi
    rw [awLen h2, stp_len]
    exact Nat.le_trans (Nat.pow_le_pow_right (by decide) hm) (by decide)
  · obtain ⟨i, hi⟩ := List.mem_iff_getElem?.mp hr
    obtain ⟨c, _, h2⟩ := wm.each i row hi
    obtain ⟨t, ht⟩ := List.mem_iff_getElem?.mp he
    obtain ⟨s, _, _, j, h3, h4⟩ := awGet h2 ht
    exact ⟨j, h3, by rw [hl]; exact (List.getElem?_eq_some_iff.mp h4).1⟩
structure LmOk (m : Nat) (ds : List Deed) (o : Int) (lm : List MRow) : Prop where
  sim : ∃ S, Sim m ds o lm S
  few : lm.length ≤ 256
  src : ∃ cs mac ns, WM m ds o cs mac ∧ mac.length = cs.length ∧ KOk mac ns ∧ LInv mac ns lm ns.length
def spLm : Sp := fun vs H Q _ => ∃ (R : Addr) (m : Nat) (o : Int) (ds : List Deed), vs = [.ref R] ∧ RowAt H R m ds o ∧ RowOk m ds o ∧
  ∀ H' p ls lm, Same H H' → H p = none → H' p = some (.lst (ls.map V.ref)) → MacL H' ls lm → LmOk m ds o lm → Q (.ref p) H'
theorem ok_lm {f fW fK : Addr} {fd fdW fdK : FuncData} {k : Nat} (F : Fun K "least_machine" "least_machine" s_least_machine f fd)
    (GW : FnOk P w K mg base CX0 (k + 5) fW fdW ["row"] spWh) (kW : PySem.W.keepIn K (.ref fW) = true) (bW : Binds K fdW ["row"] []) (gW : mg "whole_machine" = some (.ref fW))
    (GK : FnOk P w K mg base CX0 (k + 2) fK fdK ["machine"] spKi) (kK : PySem.W.keepIn K (.ref fK) = true) (bK : Binds K fdK ["machine"] []) (gK : mg "kinds_of_states" = some (.ref fK))
    (mn : mg "len" = none) (mz : mg "zip" = none) : FnOk P w K mg base CX0 (k + 6) f fd ["row"] spLm := by
  refine F.ok sc_least_machine (fun vs H Q E h => ?_) (fun cdv A outer s H vs Q E hr h => ?_)
  · obtain ⟨R, m, o, ds, rfl, _⟩ := h
    rfl
  · obtain ⟨R, m, o, ds, rfl, hrow, hok, q⟩ := h
    have r2 := hr.mono (show k + 2 ≤ k + 5 by omega)
    refine ⟨_, pss_cons (ps_set (i := 1) sc_least_machine.nd rfl (.inl rfl) (pe_call GW hr (by rfl) gW kW bW .nil pass0 (pa_cons (pv 0) pa_nil)))
      (pss_cons (ps_set (i := 2) sc_least_machine.nd rfl (.inr rfl) (pe_call GK r2 (by rfl) gK kK bK .nil pass0 (pa_cons (pv 1) pa_nil)))
      (pss_cons (ps_set (i := 3) sc_least_machine.nd rfl (.inl rfl) (pe_lst pa_nil))
      (pss_cons (ps_for PassesOwn.never rfl (pi_zip (by rfl) mz (pa_cons (pv 2) (pa_cons (pv 1) pa_nil))) (pg_tup rfl (pgs_cons (pg_name (i := 4) sc_least_machine.nd rfl (.inl rfl)) (pgs_cons (pg_name (i := 5) sc_least_machine.nd rfl (.inl rfl)) pgs_nil)))
        (pss_one (ps_if (pt_cmpR op_eq (pv 4) (pe_callB call_len_seq (by rfl) mn PySem.boot_len (pa_cons (pv 3) pa_nil)) (nomark _))
          (pss_one (ps_expr (pe_bm PySem.F.plainAttrs_list PySem.F.slot_list_append PySem.F.type_list_append mt_append (pv 3) (pa_cons
            (pe_lc (own := [("bit", 6), ("after", 7)]) (g := gTup K 2 (gCons (gName 6) (gCons (gName 7) gNil))) (by rfl) sc_least_machine.nd (pi_list (pv 5)) (blkOk_by (own := [("bit", 6), ("after", 7)]) (N := N_least_machine) (sc := defScope s_least_machine) (by decide +kernel))
              (fun _ _ _ _ _ => pg_tup rfl (pgs_cons (pg_name (i := 6) sc_least_machine.nd rfl (.inl rfl)) (pgs_cons (pg_name (i := 7) sc_least_machine.nd rfl (.inl rfl)) pgs_nil))) (fun _ _ _ _ _ => pts_nil)
              (fun _ _ _ _ _ => pe_tup (pa_cons (pv 6) (pa_cons (pe_ix (r := rIxL K) ix_list (pv 2) (pv 7) (fun _ _ => rfl)) pa_nil)))) pa_nil)))) pss_nil)))
      (pss_one (ps_ret (pv 3)))))), ?_⟩
    refine ⟨.ref R, rfl, R, m, o, ds, rfl, hrow, hok, fun H1 p ls cs mac s1 np ep hmac wm hl => ?_⟩
    have ok := wm_ok wm hl (by have := hok.m3; omega) hok.len
    have few := ok.few
    have lml := awLen hmac
    refine ⟨.ref p, rfl, p, ls, mac, rfl, ep, hmac, ok, fun H2 Kd ns s2 nK eK kk => ?_⟩
    have nl := kk.len
    refine ⟨Nat.zero_le _, fun L hL => ?_⟩
    have sL := same_new (o := .lst []) hL
    have nLK : Kd ≠ L := ne_of_none eK hL
    have ep2 := s2 _ _ ep
    have npL : p ≠ L := ne_of_none ep2 hL
    have hmac2 := macl_same s2 hmac
    refine ⟨.ref Kd, rfl, .ref p, rfl, Kd, p, _, _, rfl, .inl (.inl (sL _ _ eK)), .inl (.inl (sL _ _ ep2)), for_it (walk_zip (K := K) (a := Kd) (b := p) (xs := (zs ns).map V.int) (ys := ls.map V.ref) (n := ns.length) (by rw [List.length_map, List.length_map, List.length_map]; omega)) (fun i σ H3 => ∃ y4 y5 y6 y7 ms lm, σ = [some (.ref R), some (.ref p), some (.ref Kd), some (.ref L), y4, y5, y6, y7] ∧ H3 L = some (.lst (ms.map V.ref)) ∧ MacL H3 ms lm ∧ LInv mac ns lm i ∧ (∀ l ∈ ms, l ≠ L) ∧ ∀ b u, H2 b = some u → H3 b = some u)
      ⟨none, none, none, none, [], [], rfl, upd_same, .nil, ⟨fun k row e => by simp at e, fun j k hj => absurd hj (Nat.not_lt_zero _), Nat.le_refl _⟩, (fun _ z => nomatch z), sL⟩ (fun i σ H3 _ hp => ?_) (fun i x σ H3 H4 hi hp hy => ?_) (fun σ H3 hp => ?_)⟩
    · obtain ⟨_, _, _, _, _, _, _, _, _, _, _, st⟩ := hp
      exact ⟨.inl (.inl (st _ _ eK)), .inl (.inl (st _ _ ep2))⟩
    · obtain ⟨y4, y5, y6, y7, ms, lm, rfl, eL, hms, li, nms, st⟩ := hp
      obtain ⟨U, x1, x2, rfl, hU, rfl, g1, g2⟩ := hy
      have hil : i < ls.length := by omega
      have e1 : x1 = .int ((ns[i] : Nat) : Int) := by
        have g1' : ((zs ns).map V.int)[i]? = some x1 := g1
        rw [List.getElem?_map, List.getElem?_map, List.getElem?_eq_getElem hi] at g1'
        exact (Option.some.inj g1').symm
      have e2 : x2 = .ref ls[i] := by
        have g2' : (ls.map V.ref)[i]? = some x2 := g2
        rw [List.getElem?_map, List.getElem?_eq_getElem hil] at g2'
        exact (Option.some.inj g2').symm
      subst e1 e2
      have sU := same_new (o := .tup [.int ((ns[i] : Nat) : Int), .ref ls[i]]) hU
      have eLU := sU _ _ eL
      have mll := awLen hms
      have lil := li.len
      refine ⟨U, [.int ((ns[i] : Nat) : Int), .ref ls[i]], rfl, .inl (.inl upd_same), rfl, .int ((ns[i] : Nat) : Int), [.ref ls[i]], rfl, .ref ls[i], [], rfl, rfl, ?_⟩
      refine ⟨.int ((ns[i] : Nat) : Int), rfl, .ref L, rfl, L, _, rfl, .inl (.inl (.inl eLU)), rfl, _, rfl, ite2 (fun e => ?_) (fun e => ?_)⟩
      · have hk : ns[i]? = some lm.length := by
          rw [List.getElem?_eq_getElem hi]
          have := V.int.inj (of_decide_eq_true e)
          rw [List.length_map] at this
          congr 1
          omega
        obtain ⟨row, hr1, qs, eq, hq⟩ := awGet hmac2 (List.getElem?_eq_getElem hil)
        have rm := List.mem_of_getElem? hr1
        have r8 := ok.rows row rm
        have ql := awLen hq
        have st2 : ∀ b u, H2 b = some u → upd H3 U (.tup [.int ((ns[i] : Nat) : Int), .ref ls[i]]) b = some u := fun b u z => sU _ _ (st b u z)
        refine ⟨.ref L, rfl, .inl ⟨rfl, _, .inl (.inl eLU)⟩, .ref ls[i], rfl, ls[i], rfl, ⟨_, .inl (.inl (st2 _ _ eq))⟩, fun G hG => ?_⟩
        refine lc_it (walk_list (K := K) (a := ls[i]) (xs := qs.map V.ref)) (fun t H6 => ∃ ws, H6 G = some (.lst (ws.map V.ref)) ∧ PrAt H6 ws ((low ns row).take t) ∧ Same (upd H3 U (.tup [.int ((ns[i] : Nat) : Int), .ref ls[i]])) H6) ⟨[], upd_same, .nil, same_new hG⟩ (fun t H6 _ hp => ?_) (fun t x H6 H7 ht hp hy => ?_) (fun H6 hp => ?_)
        · obtain ⟨_, _, _, s6⟩ := hp
          exact .inl (.inl (s6 _ _ (st2 _ _ eq)))
        · obtain ⟨ws, eG, hw, s6⟩ := hp
          obtain ⟨rfl, hx⟩ := hy
          have ht2 : t < qs.length := by rwa [List.length_map] at ht
          have hx' : x = .ref qs[t] := by
            rw [List.getElem?_map, List.getElem?_eq_getElem ht2] at hx
            exact (Option.some.inj hx).symm
          subst hx'
          obtain ⟨e, he1, he2⟩ := awGet hq (List.getElem?_eq_getElem ht2)
          obtain ⟨j, hj1, hj2⟩ := ok.ends row rm e (List.mem_of_getElem? he1)
          have jn : j < ns.length := by omega
          have gd : ns.getD e.2.toNat 0 = ns[j] := by
            rw [hj1, Int.toNat_natCast]
            simp [List.getD, List.getElem?_eq_getElem jn]
          have wl := awLen hw
          rw [List.length_take] at wl
          refine ⟨qs[t], [.int e.1, .int e.2], rfl, .inl (.inl (s6 _ _ (st2 _ _ he2))), rfl, .int e.1, [.int e.2], rfl, .int e.2, [], rfl, rfl, rfl, .int e.1, rfl, .ref Kd, rfl, .int e.2, rfl, Kd, _, e.2, .int ((ns[j] : Nat) : Int), rfl, rfl, .inl (.inl (s6 _ _ (st2 _ _ eK))), ?_, by show 2 ≤ sizeLine; decide, fun T hT => ?_⟩
          · rw [hj1]
            exact atI_nat (by rw [List.getElem?_map, List.getElem?_map, List.getElem?_eq_getElem jn]; rfl)
          have sT := same_new (o := .tup [.int e.1, .int ((ns[j] : Nat) : Int)]) hT
          have eG2 := sT _ _ eG
          have tp := tups_put (o := .lst (ws.map V.ref ++ [V.ref T])) eG2
          refine ⟨_, eG2, ?_, ws ++ [T], ?_, ?_, fun b u z => ?_⟩
          · rw [List.length_map]
            exact small1000 (by omega)
          · rw [upd_same, List.map_append]
            rfl
          · rw [List.take_add_one, List.getElem?_map, he1, Option.map_some, gd]
            exact prat_stay tp (awSnoc (F := fun (q : Addr) (e' : Int × Int) => (upd H7 T (.tup [.int e.1, .int ((ns[j] : Nat) : Int)])) q = some (.tup [.int e'.1, .int e'.2])) upd_same (prat_stay (Same.tups sT) hw))
          · rw [upd_ne (ne_of_none z hG)]
            exact sT _ _ (s6 b u z)
        · obtain ⟨ws, eG, hw, s6⟩ := hp
          rw [List.length_map, ql, ← List.length_map (as := row) (f := fun e => (e.1, ((ns.getD e.2.toNat 0 : Nat) : Int))), List.take_length] at hw
          have eL6 := s6 _ _ eLU
          have tp := tups_put (o := .lst (ms.map V.ref ++ [V.ref G])) eL6
          have nGL : G ≠ L := fun z => by rw [z, eLU] at hG; cases hG
          refine ⟨L, _, _, rfl, rfl, eL6, ?_, _, _, _, _, ms ++ [G], lm ++ [low ns row], rfl, ?_, ?_, li.new hk hr1, fun l hl => ?_, fun b u z => ?_⟩
          · rw [List.length_map]
            exact small1000 (by omega)
          · rw [upd_same, List.map_append]
            rfl
          · refine awSnoc (F := RowL (upd H6 L (.lst (ms.map V.ref ++ [V.ref G])))) ⟨ws, ?_, prat_stay tp hw⟩ (macl_stay ((Same.tups (sU.trans s6)).trans tp) (fun l hl xs z => ?_) hms)
            · rw [upd_ne nGL]
              exact eG
            · rw [upd_ne (nms l hl)]
              exact s6 _ _ (sU _ _ z)
          · rcases List.mem_append.mp hl with hl | hl
            · exact nms l hl
            · rw [List.mem_singleton.mp hl]
              exact nGL
          · rw [upd_ne (ne_of_none z hL)]
            exact s6 _ _ (st2 b u z)
      · have hk : ns[i] ≠ lm.length := fun z => e (by
          apply decide_eq_true
          rw [List.length_map, mll, z])
        exact ⟨_, _, _, _, ms, lm, rfl, eLU, macl_same sU hms, li.old kk.rg (List.getElem?_eq_getElem hi) hk, nms, fun b u z => sU _ _ (st b u z)⟩
    · obtain ⟨y4, y5, y6, y7, ms, lm, rfl, eL, hms, li, nms, st⟩ := hp
      have lil := li.len
      exact ⟨.ref L, rfl, q H3 L ms lm (fun b u z => st _ _ (s2 _ _ (s1 b u z))) ((s1.trans s2).free hL) eL hms ⟨⟨_, li.sim kk wm hl ok.pos⟩, by omega, cs, mac, ns, wm, hl, kk, li⟩⟩
/-- what a kind of states tells, and the kinds behind it -/
def nxK (mac : List MRow) (ns : List Nat) (k : Nat) : List (Int × Nat) := (mac.getD (ns.findIdx fun u => decide (u = k)) []).map fun e => (e.1, ns.getD e.2.toNat 0)
theorem fst_at {ns : List Nat} {k i : Nat} (h : ns[i]? = some k) : ns[ns.findIdx fun u => decide (u = k)]? = some k ∧ (ns.findIdx fun u => decide (u = k)) ≤ i := by
  have hlt : (ns.findIdx fun u => decide (u = k)) < ns.length := List.findIdx_lt_length_of_exists ⟨k, List.mem_of_getElem? h, by simp⟩
  refine ⟨?_, ?_⟩
  · rw [List.getElem?_eq_getElem hlt]
    exact congrArg some (of_decide_eq_true (List.findIdx_getElem (w := hlt)))
  · apply Nat.le_of_not_lt
    intro z
    have := List.not_of_lt_findIdx z
    obtain ⟨hl, e⟩ := List.getElem?_eq_some_iff.mp h
    exact absurd e (of_decide_eq_false this)
theorem low_nx {ns : List Nat} : ∀ {r s : MRow}, r.map (·.1) = s.map (·.1) → beh ns r = beh ns s → (r.map fun e => (e.1, ns.getD e.2.toNat 0)) = s.map fun e => (e.1, ns.getD e.2.toNat 0)
  | [], [], _, _ => rfl
  | [], _ :: _, h, _ => nomatch h
  | _ :: _, [], h, _ => nomatch h
  | x :: r, y :: s, h1, h2 => by
    simp only [beh, List.map_cons, List.cons.injEq] at h1 h2
    simp only [List.map_cons, List.cons.injEq]
    exact ⟨Prod.ext h1.1 (Int.ofNat.inj h2.1), low_nx h1.2 h2.2⟩
theorem nxK_at {mac : List MRow} {ns : List Nat} (kk : KOk mac ns) {i k : Nat} {r : MRow} (h : ns[i]? = some k) (hr : mac[i]? = some r) : nxK mac ns k = r.map fun e => (e.1, ns.getD e.2.toNat 0) := by
  obtain ⟨h1, _⟩ := fst_at h
  have l1 := (List.getElem?_eq_some_iff.mp h1).1
  have kl := kk.len
  have e : mac[ns.findIdx fun u => decide (u = k)]? = some (mac[ns.findIdx fun u => decide (u = k)]'(by omega)) := List.getElem?_eq_getElem (by omega)
  unfold nxK
  rw [List.getD_eq_getElem?_getD, e]
  exact low_nx (kk.bits _ _ _ _ _ h1 h e hr) (kk.next _ _ _ _ _ h1 h e hr)
theorem rg_first {ns : List Nat} (rg : RG ns) {k i j x : Nat} (hi : ns[i]? = some k) (hj : ns[j]? = some x) (lt : j < ns.findIdx fun u => decide (u = k)) : x < k := by
  apply Nat.lt_of_not_le
  intro z
  -- from x down to k within j
  have dn : ∀ (d y j' : Nat), ns[j']? = some y → y = k + d → ∃ j2, j2 ≤ j' ∧ ns[j2]? = some k := fun d => by
    induction d with
    | zero => intro y j' e1 e2; exact ⟨j', Nat.le_refl _, by rw [e1, e2]; rfl⟩
    | succ d ih =>
      intro y j' e1 e2
      obtain ⟨j3, g1, g2⟩ := rg j' (k + d) (by rw [e1, e2]; rfl)
      obtain ⟨j2, g3, g4⟩ := ih _ j3 g2 rfl
      exact ⟨j2, by omega, g4⟩
  obtain ⟨j2, g1, g2⟩ := dn (x - k) x j hj (by omega)
  have := (fst_at g2).2
  omega
/-- the kinds come in the order in which they are first met -/
theorem ford_kinds {m : Nat} {ds : List Deed} {o : Int} {cs : List (List Int)} {mac : List MRow} {ns : List Nat} (wm : WM m ds o cs mac) (hl : mac.length = cs.length) (kk : KOk mac ns) {n : Nat} (hn : ∀ k, k < n ↔ k ∈ ns) : FOrd (nxK mac ns) (List.range n) := by
  have kl := kk.len
  intro k c hk hc
  have hkn := (List.getElem?_eq_some_iff.mp hc).1
  rw [List.length_range] at hkn
  rw [List.getElem?_range hkn] at hc
  obtain rfl := Option.some.inj hc
  obtain ⟨i0, hi0⟩ := List.mem_iff_getElem?.mp ((hn k).mp hkn)
  obtain ⟨hi, _⟩ := fst_at hi0
  have before : ∀ (j x : Nat), ns[j]? = some x → j < (ns.findIdx fun u => decide (u = k)) → x < k := fun j x hj lt => rg_first kk.rg hi0 hj lt
  generalize (ns.findIdx fun u => decide (u = k)) = i at hi before
  have il := (List.getElem?_eq_some_iff.mp hi).1
  have ipos : 0 < i := by
    apply Nat.pos_of_ne_zero
    rintro rfl
    have := rg_le kk.rg _ _ hi
    omega
  obtain ⟨p, t, a, s, p1, p2, p3, p4, p5⟩ := wm.fo i cs[i] ipos (List.getElem?_eq_getElem (by omega))
  have np : ns[p]? = some ns[p] := List.getElem?_eq_getElem (by omega)
  have pk := before p _ np p1
  -- the state behind a state
  have beh_ : ∀ (p' t' : Nat) (a' : List Int) (s' : Int × List Int) (j : Nat), cs[p']? = some a' → (stp m ds o a')[t']? = some s' → cs[j]? = some s'.2 → ∃ (x y : Nat) (b : Int), ns[p']? = some x ∧ ns[j]? = some y ∧ (nxK mac ns x)[t']? = some (b, y) := fun p' t' a' s' j q1 q2 q3 => by
    have pl := (List.getElem?_eq_some_iff.mp q1).1
    have jl := (List.getElem?_eq_some_iff.mp q3).1
    have er : mac[p']? = some mac[p'] := List.getElem?_eq_getElem (by omega)
    obtain ⟨c, w1, w2⟩ := wm.each p' _ er
    rw [q1] at w1
    obtain rfl := Option.some.inj w1
    obtain ⟨e, w3, w4, j', w5, w6⟩ := awGet2 w2 q2
    have ej := nd_idx wm.nd w6 q3
    subst ej
    have nx : ns[p']? = some ns[p'] := List.getElem?_eq_getElem (by omega)
    have ny : ns[j']? = some ns[j'] := List.getElem?_eq_getElem (by omega)
    refine ⟨_, _, e.1, nx, ny, ?_⟩
    rw [nxK_at kk nx er, List.getElem?_map, w3, Option.map_some, w5, Int.toNat_natCast, List.getD_eq_getElem?_getD, ny]
    rfl
  obtain ⟨x, y, b, x1, y1, x2⟩ := beh_ p t a s i p2 p3 (by rw [p4]; exact List.getElem?_eq_getElem (by omega))
  rw [np] at x1
  obtain rfl := Option.some.inj x1
  rw [hi] at y1
  obtain rfl := Option.some.inj y1
  have rangeAt : ∀ v, v < n → (List.range n)[v]? = some v := fun v hv => List.getElem?_range hv
  refine ⟨ns[p], t, ns[p], (b, k), pk, rangeAt _ (by omega), x2, rfl, fun p' t' a' s' h1 h2 h3 => ?_⟩
  have p'n := (List.getElem?_eq_some_iff.mp h2).1
  rw [List.length_range] at p'n
  rw [rangeAt _ p'n] at h2
  obtain rfl := Option.some.inj h2
  -- the first state of the kind p'
  obtain ⟨i1, hi1⟩ := List.mem_iff_getElem?.mp ((hn p').mp p'n)
  obtain ⟨f1, _⟩ := fst_at hi1
  have fp : (ns.findIdx fun u => decide (u = p')) < p ∨ (ns.findIdx fun u => decide (u = p')) = p ∧ t' < t := by
    rcases h1 with h1 | ⟨h1, h4⟩
    · left
      apply Nat.lt_of_not_le
      intro z
      rcases Nat.lt_or_eq_of_le z with z | z
      · have := rg_first kk.rg hi1 np z
        omega
      · rw [← z, np] at f1
        have := Option.some.inj f1
        omega
    · have := (fst_at (ns := ns) (k := p') (i := p) (by rw [np, h1])).2
      rcases Nat.lt_or_eq_of_le this with z | z
      · exact .inl z
      · exact .inr ⟨z, h4⟩
  generalize (ns.findIdx fun u => decide (u = p')) = i2 at f1 fp
  have i2l := (List.getElem?_eq_some_iff.mp f1).1
  have ec : cs[i2]? = some (cs[i2]'(by omega)) := List.getElem?_eq_getElem (by omega)
  have er : mac[i2]? = some (mac[i2]'(by omega)) := List.getElem?_eq_getElem (by omega)
  obtain ⟨c, w1, w2⟩ := wm.each i2 _ er
  rw [ec] at w1
  obtain rfl := Option.some.inj w1
  have h3' := h3
  rw [nxK_at kk f1 er, List.getElem?_map] at h3'
  cases ht : (mac[i2]'(by omega))[t']? with
  | none => rw [ht] at h3'; cases h3'
  | some e =>
    obtain ⟨s2, v1, v2, j2, v3, v4⟩ := awGet w2 ht
    obtain ⟨j, g1, g2⟩ := p5 i2 t' _ s2 fp ec v1
    obtain ⟨x', y', b', x3, y3, x4⟩ := beh_ i2 t' _ s2 j ec v1 g2
    rw [f1] at x3
    obtain rfl := Option.some.inj x3
    rw [h3] at x4
    obtain rfl := Option.some.inj x4
    have := before j _ y3 g1
    exact ⟨y', this, rangeAt _ (by omega)⟩
theorem linv_mem {mac lm : List MRow} {ns : List Nat} (h : LInv mac ns lm ns.length) (k : Nat) : k < lm.length ↔ k ∈ ns := by
  constructor
  · intro hk
    obtain ⟨i0, r, h1, _⟩ := h.each k lm[k] (List.getElem?_eq_getElem hk)
    exact List.mem_of_getElem? h1
  · intro hk
    obtain ⟨j, hj⟩ := List.mem_iff_getElem?.mp hk
    exact h.all j k (List.getElem?_eq_some_iff.mp hj).1 hj
theorem linv_row {mac lm : List MRow} {ns : List Nat} (h : LInv mac ns lm ns.length) (kk : KOk mac ns) {k : Nat} {row : MRow} (e : lm[k]? = some row) : row = (nxK mac ns k).map fun e => (e.1, (e.2 : Int)) := by
  obtain ⟨i0, r, h1, h2, h3⟩ := h.each k row e
  rw [h3, nxK_at kk h1 h2, List.map_map]
  rfl
abbrev PC := List Int × List Int
def ob (ds : List Deed) (o : Int) (c bs : List Int) : Int := (bts ds c bs).getD o.toNat 0
def nc (ds : List Deed) (c bs : List Int) : List Int := nxt ds c (bts ds c bs)
def nx2 (ds1 ds2 : List Deed) (q : PC) (bs : List Int) : PC := (nc ds1 q.1 bs, nc ds2 q.2 bs)
def RtS (m : Nat) (ds1 ds2 : List Deed) : Nat → PC → Prop
  | 0, q => q = (ds1.map fcD, ds2.map fcD)
  | t + 1, q => ∃ q0 bs, RtS m ds1 ds2 t q0 ∧ bs ∈ allB m ∧ q = nx2 ds1 ds2 q0 bs
def PrtS (m : Nat) (ds1 : List Deed) (o1 : Int) (ds2 : List Deed) (o2 : Int) (t : Nat) : Prop := ∃ q bs, RtS m ds1 ds2 t q ∧ bs ∈ allB m ∧ ¬ ob ds1 o1 q.1 bs = ob ds2 o2 q.2 bs
theorem rtS_swap {m : Nat} {ds1 ds2 : List Deed} : ∀ {t : Nat} {q : PC}, RtS m ds1 ds2 t q → RtS m ds2 ds1 t (q.2, q.1)
  | 0, q, h => by
    have h' : q = _ := h
    rw [h']
    rfl
  | t + 1, q, ⟨q0, bs, h, hb, e⟩ => ⟨(q0.2, q0.1), bs, rtS_swap h, hb, by rw [e]; rfl⟩
theorem prtS_swap {m : Nat} {ds1 ds2 : List Deed} {o1 o2 : Int} {t : Nat} (h : PrtS m ds1 o1 ds2 o2 t) : PrtS m ds2 o2 ds1 o1 t := by
  obtain ⟨q, bs, h1, h2, h3⟩ := h
  exact ⟨(q.2, q.1), bs, rtS_swap h1, h2, fun z => h3 z.symm⟩
def KdS (cs : List (List Int)) (ns : List Nat) (c : List Int) (k : Nat) : Prop := ∃ i : Nat, cs[i]? = some c ∧ ns[i]? = some k
structure Mch (m : Nat) (ds : List Deed) (o : Int) (cs : List (List Int)) (mac : List MRow) (ns : List Nat) (lm : List MRow) : Prop where
  wm : WM m ds o cs mac
  hl : mac.length = cs.length
  kk : KOk mac ns
  li : LInv mac ns lm ns.length
theorem awLeft {α β γ : Type} {F : γ → β → Prop} {g : α → γ} : ∀ {l : List α} {l2 : List β}, Paired (fun a b => F (g a) b) l l2 → Paired F (l.map g) l2
  | _, _, .nil => .nil
  | _, _, .cons h t => .cons h (awLeft t)
section canon
variable {m : Nat} {ds ds1 ds2 : List Deed} {o o1 o2 : Int} {cs cs1 cs2 : List (List Int)} {mac mac1 mac2 : List MRow} {ns ns1 ns2 : List Nat} {lm lm1 lm2 : List MRow}
theorem Mch.first (M : Mch m ds o cs mac ns lm) : KdS cs ns (ds.map fcD) 0 := by
  have hl := M.hl
  have kl := M.kk.len
  have pos := (List.getElem?_eq_some_iff.mp M.wm.first).1
  refine ⟨0, M.wm.first, ?_⟩
  have h0 : ns[0]? = some (ns[0]'(by omega)) := List.getElem?_eq_getElem (by omega)
  have := rg_le M.kk.rg _ _ h0
  rw [h0]
  congr 1
  omega
theorem Mch.row (M : Mch m ds o cs mac ns lm) {c : List Int} {k : Nat} (h : KdS cs ns c k) : Paired (fun (e : Int × Nat) (s : Int × List Int) => e.1 = s.1 ∧ KdS cs ns s.2 e.2) (nxK mac ns k) (stp m ds o c) := by
  obtain ⟨i, a, b⟩ := h
  have hl := M.hl
  have kl := M.kk.len
  have il := (List.getElem?_eq_some_iff.mp a).1
  have er : mac[i]? = some (mac[i]'(by omega)) := List.getElem?_eq_getElem (by omega)
  rw [nxK_at M.kk b er]
  obtain ⟨c', w1, w2⟩ := M.wm.each i _ er
  rw [a] at w1
  obtain rfl := Option.some.inj w1
  refine awLeft (awMap (fun e s z => ?_) w2)
  obtain ⟨z1, j, z2, z3⟩ := z
  have jl := (List.getElem?_eq_some_iff.mp z3).1
  refine ⟨z1, j, z3, ?_⟩
  show ns[j]? = some (ns.getD e.2.toNat 0)
  rw [z2, Int.toNat_natCast, List.getD_eq_getElem?_getD, List.getElem?_eq_getElem (show j < ns.length by omega)]
  rfl
theorem Mch.lt (M : Mch m ds o cs mac ns lm) {c : List Int} {k : Nat} (h : KdS cs ns c k) : k < lm.length := by
  obtain ⟨i, a, b⟩ := h
  exact (linv_mem M.li k).mpr (List.mem_of_getElem? b)
theorem Mch.surj (M : Mch m ds o cs mac ns lm) {k : Nat} (h : k < lm.length) : ∃ c, c ∈ cs ∧ KdS cs ns c k := by
  obtain ⟨i, hi⟩ := List.mem_iff_getElem?.mp ((linv_mem M.li k).mp h)
  have hl := M.hl
  have kl := M.kk.len
  have il := (List.getElem?_eq_some_iff.mp hi).1
  exact ⟨cs[i]'(by omega), List.getElem_mem _, i, List.getElem?_eq_getElem (by omega), hi⟩
theorem Mch.pos (M : Mch m ds o cs mac ns lm) : 0 < lm.length := M.lt M.first
theorem Mch.at (M : Mch m ds o cs mac ns lm) {c bs : List Int} {k t : Nat} (h : KdS cs ns c k) (ht : (allB m)[t]? = some bs) : ∃ k', (nxK mac ns k)[t]? = some (ob ds o c bs, k') ∧ KdS cs ns (nc ds c bs) k' := by
  have es : (stp m ds o c)[t]? = some (ob ds o c bs, nc ds c bs) := by
    unfold stp
    rw [List.getElem?_map, ht]
    rfl
  obtain ⟨⟨b, k'⟩, e1, e2, e3⟩ := awGet2 (M.row h) es
  have e2' : b = ob ds o c bs := e2
  exact ⟨k', by rw [e1, e2'], e3⟩
theorem Mch.len (M : Mch m ds o cs mac ns lm) {c : List Int} {k : Nat} (h : KdS cs ns c k) : (nxK mac ns k).length = (allB m).length := by
  rw [awLen (M.row h)]
  exact List.length_map ..
abbrev Rc (m : Nat) (ds1 ds2 : List Deed) (q : PC) : Prop := ∃ t, RtS m ds1 ds2 t q
theorem rc_first : Rc m ds1 ds2 (ds1.map fcD, ds2.map fcD) := ⟨0, rfl⟩
theorem rc_next {q : PC} {bs : List Int} (h : Rc m ds1 ds2 q) (hb : bs ∈ allB m) : Rc m ds1 ds2 (nc ds1 q.1 bs, nc ds2 q.2 bs) := by
  obtain ⟨t, h⟩ := h
  exact ⟨t + 1, q, bs, h, hb, rfl⟩
theorem rc_swap {q : PC} (h : Rc m ds1 ds2 q) : Rc m ds2 ds1 (q.2, q.1) := by
  obtain ⟨t, h⟩ := h
  exact ⟨t, rtS_swap h⟩
theorem rc_bits (nv : ∀ t, ¬ PrtS m ds1 o1 ds2 o2 t) {q : PC} {bs : List Int} (h : Rc m ds1 ds2 q) (hb : bs ∈ allB m) : ob ds1 o1 q.1 bs = ob ds2 o2 q.2 bs := by
  obtain ⟨t, h⟩ := h
  false_or_by_contra
  rename_i ne
  exact nv t ⟨q, bs, h, hb, ne⟩
/-- each carry comes, with another one beside it -/
theorem Mch.beside (M : Mch m ds2 o2 cs mac ns lm) {c : List Int} (h : c ∈ cs) : ∃ c1, Rc m ds1 ds2 (c1, c) := by
  obtain ⟨i, hi⟩ := List.mem_iff_getElem?.mp h
  have key : ∀ n : Nat, ∀ i c, i ≤ n → cs[i]? = some c → ∃ c1, Rc m ds1 ds2 (c1, c) := by
    intro n
    induction n with
    | zero =>
      intro i c hi e
      obtain rfl : i = 0 := by omega
      rw [M.wm.first] at e
      obtain rfl := Option.some.inj e
      exact ⟨ds1.map fcD, rc_first⟩
    | succ n ih =>
      intro i c hi e
      by_cases h0 : i = 0
      · subst h0
        rw [M.wm.first] at e
        obtain rfl := Option.some.inj e
        exact ⟨ds1.map fcD, rc_first⟩
      · obtain ⟨p, t, a, s, hp, ha, hs, rfl, _⟩ := M.wm.fo i c (by omega) e
        obtain ⟨c1, r⟩ := ih p a (by omega) ha
        unfold stp at hs
        rw [List.getElem?_map] at hs
        obtain ⟨bs, hb, rfl⟩ := Option.map_eq_some_iff.mp hs
        exact ⟨nc ds1 c1 bs, rc_next (q := (c1, a)) r (List.mem_of_getElem? hb)⟩
  exact key i i c (Nat.le_refl i) hi
theorem Mch.mem1 (M : Mch m ds1 o1 cs mac ns lm) {q : PC} (h : Rc m ds1 ds2 q) : ∃ k, KdS cs ns q.1 k := by
  obtain ⟨t, h⟩ := h
  induction t generalizing q with
  | zero =>
    have h' : q = _ := h
    rw [h']
    exact ⟨0, M.first⟩
  | succ t ih =>
    obtain ⟨q0, bs, h0, hb, rfl⟩ := h
    obtain ⟨k, hk⟩ := ih h0
    obtain ⟨j, hj⟩ := List.mem_iff_getElem?.mp hb
    obtain ⟨k', _, e⟩ := M.at hk hj
    exact ⟨k', e⟩
/-- kinds of the one tell kinds of the other -/
theorem Mch.wd (M1 : Mch m ds1 o1 cs1 mac1 ns1 lm1) (M2 : Mch m ds2 o2 cs2 mac2 ns2 lm2) (nv : ∀ t, ¬ PrtS m ds1 o1 ds2 o2 t) {q q' : PC} {j k k' : Nat} (h : Rc m ds1 ds2 q) (h' : Rc m ds1 ds2 q') (a : KdS cs2 ns2 q.2 j) (a' : KdS cs2 ns2 q'.2 j)
    (b : KdS cs1 ns1 q.1 k) (b' : KdS cs1 ns1 q'.1 k') : k = k' := by
  obtain ⟨i, b1, b2⟩ := b
  obtain ⟨i', b1', b2'⟩ := b'
  have hl := M1.hl
  have e := M1.kk.crs (fun x y => ∃ (q q' : PC) (j : Nat), Rc m ds1 ds2 q ∧ Rc m ds1 ds2 q' ∧ KdS cs2 ns2 q.2 j ∧ KdS cs2 ns2 q'.2 j ∧ cs1[x]? = some q.1 ∧ cs1[y]? = some q'.1) (fun x y hxy => ?_) i i' ⟨q, q', j, h, h', a, a', b1, b1'⟩
  · rw [b2, b2'] at e
    exact Option.some.inj e
  · obtain ⟨q, q', j, h, h', a, a', c1, c1'⟩ := hxy
    have xl := (List.getElem?_eq_some_iff.mp c1).1
    have yl := (List.getElem?_eq_some_iff.mp c1').1
    have er : mac1[x]? = some (mac1[x]'(by omega)) := List.getElem?_eq_getElem (by omega)
    have er' : mac1[y]? = some (mac1[y]'(by omega)) := List.getElem?_eq_getElem (by omega)
    obtain ⟨c, w1, w2⟩ := M1.wm.each x _ er
    rw [c1] at w1
    obtain rfl := Option.some.inj w1
    obtain ⟨c', w1', w2'⟩ := M1.wm.each y _ er'
    rw [c1'] at w1'
    obtain rfl := Option.some.inj w1'
    refine ⟨_, _, er, er', paired_of (by rw [awLen w2, awLen w2']; unfold stp; rw [List.length_map, List.length_map]) fun t e e' he he' => ?_⟩
    obtain ⟨s, s1, s2, u, s3, s4⟩ := awGet w2 he
    obtain ⟨s', s1', s2', u', s3', s4'⟩ := awGet w2' he'
    unfold stp at s1 s1'
    rw [List.getElem?_map] at s1 s1'
    obtain ⟨bs, hb, rfl⟩ := Option.map_eq_some_iff.mp s1
    rw [hb] at s1'
    obtain rfl := Option.some.inj s1'
    have bm := List.mem_of_getElem? hb
    obtain ⟨k1, g1, g2⟩ := M2.at a hb
    obtain ⟨k2, g1', g2'⟩ := M2.at a' hb
    rw [g1] at g1'
    have gg := Option.some.inj g1'
    obtain ⟨gb, rfl⟩ := Prod.mk.inj gg
    refine ⟨?_, (nc ds1 q.1 bs, nc ds2 q.2 bs), (nc ds1 q'.1 bs, nc ds2 q'.2 bs), k1, rc_next h bm, rc_next h' bm, g2, g2', ?_, ?_⟩
    · rw [s2, s2']
      exact (rc_bits nv h bm).trans (gb.trans (rc_bits nv h' bm).symm)
    · rw [s3, Int.toNat_natCast]
      exact s4
    · rw [s3', Int.toNat_natCast]
      exact s4'
theorem ford_map {L L' : Type} {nx : L → List (Int × L)} {nx' : L' → List (Int × L')} {f : L → L'} {cs : List L} (h : FOrd nx cs) (e : ∀ a ∈ cs, nx' (f a) = (nx a).map fun s => (s.1, f s.2)) : FOrd nx' (cs.map f) := by
  intro k c hk hc
  rw [List.getElem?_map] at hc
  obtain ⟨c0, hc0, rfl⟩ := Option.map_eq_some_iff.mp hc
  obtain ⟨p, t, a, s, hp, ha, hs, rfl, hmin⟩ := h k c0 hk hc0
  refine ⟨p, t, f a, (s.1, f s.2), hp, by rw [List.getElem?_map, ha]; rfl, ?_, rfl, fun p' t' a' s' hlt ha' hs' => ?_⟩
  · rw [e a (List.mem_of_getElem? ha), List.getElem?_map, hs]
    rfl
  · rw [List.getElem?_map] at ha'
    obtain ⟨a0, h0, rfl⟩ := Option.map_eq_some_iff.mp ha'
    rw [e a0 (List.mem_of_getElem? h0), List.getElem?_map] at hs'
    obtain ⟨s0, g0, rfl⟩ := Option.map_eq_some_iff.mp hs'
    obtain ⟨j, j1, j2⟩ := hmin p' t' a0 s0 hlt h0 g0
    exact ⟨j, j1, by rw [List.getElem?_map, j2]; rfl⟩
/-- alike rows have one least machine -/
theorem Mch.one (M1 : Mch m ds1 o1 cs1 mac1 ns1 lm1) (M2 : Mch m ds2 o2 cs2 mac2 ns2 lm2) (nv : ∀ t, ¬ PrtS m ds1 o1 ds2 o2 t) : lm1 = lm2 := by
  have nv' : ∀ t, ¬ PrtS m ds2 o2 ds1 o1 t := fun t h => nv t (prtS_swap h)
  have tot : ∀ j, ∃ k, j < lm2.length → ∃ q, Rc m ds1 ds2 q ∧ KdS cs2 ns2 q.2 j ∧ KdS cs1 ns1 q.1 k := fun j => by
    by_cases hj : j < lm2.length
    · obtain ⟨c2, hc, hk⟩ := M2.surj hj
      obtain ⟨c1, r⟩ := M2.beside (ds1 := ds1) hc
      obtain ⟨k, hk1⟩ := M1.mem1 r
      exact ⟨k, fun _ => ⟨_, r, hk, hk1⟩⟩
    · exact ⟨0, fun z => absurd z hj⟩
  obtain ⟨f, hf⟩ : ∃ f : Nat → Nat, ∀ j, j < lm2.length → ∃ q, Rc m ds1 ds2 q ∧ KdS cs2 ns2 q.2 j ∧ KdS cs1 ns1 q.1 (f j) := ⟨fun j => (tot j).choose, fun j => (tot j).choose_spec⟩
  have fun1 : ∀ {q : PC} {j k : Nat}, Rc m ds1 ds2 q → KdS cs2 ns2 q.2 j → KdS cs1 ns1 q.1 k → k = f j := fun r a b => by
    obtain ⟨q', r', a', b'⟩ := hf _ (M2.lt a)
    exact M1.wd M2 nv r r' a a' b b'
  have inj : ∀ j j', j < lm2.length → j' < lm2.length → f j = f j' → j = j' := fun j j' hj hj' e => by
    obtain ⟨q, r, a, b⟩ := hf j hj
    obtain ⟨q', r', a', b'⟩ := hf j' hj'
    rw [← e] at b'
    exact M2.wd M1 nv' (rc_swap r) (rc_swap r') b b' a a'
  have row : ∀ j, j < lm2.length → nxK mac1 ns1 (f j) = (nxK mac2 ns2 j).map fun s => (s.1, f s.2) := fun j hj => by
    obtain ⟨q, r, a, b⟩ := hf j hj
    have l1 := M1.len b
    have l2 := M2.len a
    refine List.ext_getElem? fun t => ?_
    rw [List.getElem?_map]
    cases ht : (allB m)[t]? with
    | none =>
      have tl := List.getElem?_eq_none_iff.mp ht
      rw [List.getElem?_eq_none (by omega), List.getElem?_eq_none (by omega)]
      rfl
    | some bs =>
      have bm := List.mem_of_getElem? ht
      obtain ⟨k1, g1, g2⟩ := M1.at b ht
      obtain ⟨k2, g1', g2'⟩ := M2.at a ht
      rw [g1, g1', fun1 (rc_next r bm) g2' g2, rc_bits nv r bm]
      rfl
  have f0 : f 0 = 0 := (fun1 rc_first M2.first M1.first).symm
  have p1 := M1.pos
  have p2 := M2.pos
  have ndf : ((List.range lm2.length).map f).Nodup := by
    rw [List.nodup_iff_pairwise_ne, List.pairwise_map]
    refine List.Pairwise.imp_of_mem (fun {a b} ha hb ne z => ne (inj a b (List.mem_range.mp ha) (List.mem_range.mp hb) z)) (List.nodup_iff_pairwise_ne.mp List.nodup_range)
  have clo : ∀ {ds : List Deed} {o : Int} {cs : List (List Int)} {mac : List MRow} {ns : List Nat} {lm : List MRow}, Mch m ds o cs mac ns lm → ∀ a, a < lm.length → ∀ s ∈ nxK mac ns a, s.2 < lm.length := fun M a ha s hs => by
    obtain ⟨c, _, hk⟩ := M.surj ha
    obtain ⟨t, ht⟩ := List.mem_iff_getElem?.mp hs
    obtain ⟨s', _, _, e⟩ := awGet (M.row hk) ht
    exact M.lt e
  have eq := ford_eq List.nodup_range ndf (by rw [List.getElem?_map, List.getElem?_range p1, List.getElem?_range p2, Option.map_some, f0]) (ford_kinds M1.wm M1.hl M1.kk (linv_mem M1.li)) (ford_map (ford_kinds M2.wm M2.hl M2.kk (linv_mem M2.li)) fun a ha => row a (List.mem_range.mp ha))
    (fun a ha s hs => List.mem_range.mpr (clo M1 a (List.mem_range.mp ha) s hs))
    (fun a ha s hs => by
      obtain ⟨j, hj, rfl⟩ := List.mem_map.mp ha
      rw [row j (List.mem_range.mp hj)] at hs
      obtain ⟨s0, h0, rfl⟩ := List.mem_map.mp hs
      exact List.mem_map.mpr ⟨s0.2, List.mem_range.mpr (clo M2 j (List.mem_range.mp hj) s0 h0), rfl⟩)
    (by rwa [List.length_range]) (by rwa [List.length_map, List.length_range])
  have len : lm1.length = lm2.length := by
    have := congrArg List.length eq
    rwa [List.length_range, List.length_map, List.length_range] at this
  have idf : ∀ j, j < lm2.length → f j = j := fun j hj => by
    have h1 : ((List.range lm2.length).map f)[j]? = some (f j) := by rw [List.getElem?_map, List.getElem?_range hj]; rfl
    rw [← eq, List.getElem?_range (by omega)] at h1
    exact (Option.some.inj h1).symm
  refine List.ext_getElem len fun k h1 h2 => ?_
  rw [linv_row M1.li M1.kk (List.getElem?_eq_getElem h1), linv_row M2.li M2.kk (List.getElem?_eq_getElem h2)]
  have rk := row k h2
  rw [idf k h2] at rk
  rw [rk, List.map_map]
  refine List.map_congr_left fun s hs => ?_
  show (s.1, ((f s.2 : Nat) : Int)) = (s.1, (s.2 : Int))
  rw [idf s.2 (clo M2 k h2 s hs)]
/-- rows with one least machine are alike -/
theorem Mch.alike (M1 : Mch m ds1 o1 cs1 mac1 ns1 lm) (M2 : Mch m ds2 o2 cs2 mac2 ns2 lm) (t : Nat) : ¬ PrtS m ds1 o1 ds2 o2 t := by
  have eqk : ∀ k, k < lm.length → nxK mac1 ns1 k = nxK mac2 ns2 k := fun k hk => by
    have e1 := linv_row M1.li M1.kk (List.getElem?_eq_getElem hk)
    have e2 := linv_row M2.li M2.kk (List.getElem?_eq_getElem hk)
    rw [e1] at e2
    refine List.ext_getElem? fun i => ?_
    have e3 := congrArg (fun l : MRow => l[i]?) e2
    simp only [List.getElem?_map] at e3
    cases h1 : (nxK mac1 ns1 k)[i]? with
    | none =>
      rw [h1] at e3
      cases h2 : (nxK mac2 ns2 k)[i]? with
      | none => rfl
      | some y => rw [h2] at e3; cases e3
    | some x =>
      rw [h1] at e3
      cases h2 : (nxK mac2 ns2 k)[i]? with
      | none => rw [h2] at e3; cases e3
      | some y =>
        rw [h2] at e3
        have e4 := Prod.mk.inj (Option.some.inj e3)
        exact congrArg some (Prod.ext e4.1 (Int.ofNat.inj e4.2))
  have both : ∀ t q, RtS m ds1 ds2 t q → ∃ k, KdS cs1 ns1 q.1 k ∧ KdS cs2 ns2 q.2 k := by
    intro t
    induction t with
    | zero =>
      intro q h
      have h' : q = _ := h
      rw [h']
      exact ⟨0, M1.first, M2.first⟩
    | succ t ih =>
      rintro q ⟨q0, bs, h0, hb, rfl⟩
      obtain ⟨k, a, b⟩ := ih q0 h0
      obtain ⟨j, hj⟩ := List.mem_iff_getElem?.mp hb
      obtain ⟨k1, g1, g2⟩ := M1.at a hj
      obtain ⟨k2, g1', g2'⟩ := M2.at b hj
      rw [eqk k (M1.lt a), g1'] at g1
      obtain ⟨_, rfl⟩ := Prod.mk.inj (Option.some.inj g1)
      exact ⟨k2, g2, g2'⟩
  rintro ⟨q, bs, hq, hb, ne⟩
  obtain ⟨k, a, b⟩ := both t q hq
  obtain ⟨j, hj⟩ := List.mem_iff_getElem?.mp hb
  obtain ⟨k1, g1, g2⟩ := M1.at a hj
  obtain ⟨k2, g1', g2'⟩ := M2.at b hj
  rw [eqk k (M1.lt a), g1'] at g1
  exact ne (Prod.mk.inj (Option.some.inj g1)).1.symm
theorem lm_mch (h : LmOk m ds o lm) : ∃ cs mac ns, Mch m ds o cs mac ns lm := by
  obtain ⟨cs, mac, ns, a, b, c, d⟩ := h.src
  exact ⟨cs, mac, ns, a, b, c, d⟩
theorem lm_eq (h1 : LmOk m ds1 o1 lm1) (h2 : LmOk m ds2 o2 lm2) : lm1 = lm2 ↔ ∀ t, ¬ PrtS m ds1 o1 ds2 o2 t := by
  obtain ⟨_, _, _, M1⟩ := lm_mch h1
  obtain ⟨_, _, _, M2⟩ := lm_mch h2
  constructor
  · intro e
    subst e
    exact fun t => M1.alike M2 t
  · exact fun nv => M1.one M2 nv
end canon
def stK (row : MRow) : NestedKey := .tup (row.map fun e => .tup [.num e.1, .num e.2])
def lookK (m : Nat) (lm : List MRow) : NestedKey := .tup [.num (m : Int), .tup (lm.map stK)]
theorem lookK_inj {m n : Nat} {a b : List MRow} (h : lookK m a = lookK n b) : m = n ∧ a = b := by
  unfold lookK at h
  injection h with h
  injection h with h1 h2
  injection h2 with h2 _
  injection h1 with h1
  injection h2 with h2
  refine ⟨by exact_mod_cast h1, ?_⟩
  have inj : ∀ r s : MRow, stK r = stK s → r = s := by
    intro r s e
    unfold stK at e
    injection e with e
    induction r generalizing s with
    | nil =>
      cases s with
      | nil => rfl
      | cons _ _ => cases e
    | cons x r ih =>
      cases s with
      | nil => cases e
      | cons y s =>
        rw [List.map_cons, List.map_cons] at e
        injection e with e1 e2
        injection e1 with e1
        injection e1 with a1 a2
        injection a2 with a2 _
        injection a1 with a1
        injection a2 with a2
        rw [ih s e2, Prod.ext a1 a2]
  clear h1
  induction a generalizing b with
  | nil =>
    cases b with
    | nil => rfl
    | cons _ _ => cases h2
  | cons x a ih =>
    cases b with
    | nil => cases h2
    | cons y b =>
      rw [List.map_cons, List.map_cons] at h2
      injection h2 with e1 e2
      rw [inj x y e1, ih e2]
theorem nks_app {H : Hp} : ∀ {ks js : List NestedKey} {xs ys : List V}, NkAll H ks xs → NkAll H js ys → NkAll H (ks ++ js) (xs ++ ys)
  | _, _, _, _, .nil, h => h
  | _, _, _, _, .cons h t, g => .cons h (nks_app t g)
def rTupO2 (K : PySem.W.Frag) : List V → Hp → VK → Prop := fun xs H Q => ∃ p ys, xs = [V.ref p] ∧ ((SqL K H p ys ∧ ∀ (l : Addr), H l = none → Q (.ref l) (upd H l (.tup ys))) ∨ (SqT K H p ys ∧ Q (.ref p) H))
def spLk : Sp := fun vs H Q _ => ∃ (R : Addr) (m : Nat) (o : Int) (ds : List Deed), vs = [.ref R] ∧ RowAt H R m ds o ∧ RowOk m ds o ∧
  ∀ (H' : Hp) (T : Addr) (lm : List MRow), Same H H' → LmOk m ds o lm → NkAt H' (lookK m lm) (.ref T) → Q (.ref T) H'
theorem ok_lk {f fL : Addr} {fd fdL : FuncData} {k : Nat} (F : Fun K "look_of" "look_of" s_look_of f fd)
    (GL : FnOk P w K mg base CX0 (k + 6) fL fdL ["row"] spLm) (kL : PySem.W.keepIn K (.ref fL) = true) (bL : Binds K fdL ["row"] []) (gL : mg "least_machine" = some (.ref fL)) (mt : mg "tuple" = none) : FnOk P w K mg base CX0 (k + 7) f fd ["row"] spLk := by
  refine F.ok sc_look_of (fun vs H Q E h => ?_) (fun cdv A outer s H vs Q E hr h => ?_)
  · obtain ⟨R, m, o, ds, rfl, _⟩ := h
    rfl
  · obtain ⟨R, m, o, ds, rfl, hrow, ok, q⟩ := h
    refine ⟨_, pss_one (ps_ret (pe_tup (pa_cons (pe_ix ix_tup (pv 0) pe_int (fun _ _ => rfl)) (pa_cons (pe_callTy call_tuple_of (by rfl) mt (by decide +kernel) (pa_cons (pe_lc (own := [("state", 1)]) (g := gName 1) (by rfl) sc_look_of.nd (pi_list (pe_call GL hr (by rfl) gL kL bL .nil pass0 (pa_cons (pv 0) pa_nil))) (blkOk_by (own := [("state", 1)]) (N := N_look_of) (sc := defScope s_look_of) (by decide +kernel)) (fun _ _ _ _ _ => pg_name (i := 1) sc_look_of.nd rfl (Or.inl rfl)) (fun _ _ _ _ _ => pts_nil) (fun _ _ _ _ _ => pe_callTy (T := "tuple") (r := rTupO2 K) call_tuple_of (by rfl) mt (by decide +kernel) (pa_cons (pv 1) pa_nil))) pa_nil)) pa_nil)))), ?_⟩
    obtain ⟨D, rs, eR, eD, hd⟩ := id hrow
    refine ⟨.ref R, rfl, R, _, 0, .int (m : Int), rfl, rfl, SqT.of eR, atI_nat (j := 0) rfl, .ref R, rfl, R, m, o, ds, rfl, hrow, ok, fun H1 p ls lm s1 hp ep hm lok => ?_⟩
    refine ⟨p, rfl, ⟨_, .inl (.inl ep)⟩, fun C hC => ?_⟩
    have sC0 := same_new (o := .lst []) hC
    refine lc_list (K := K) (a := p) (xs := ls.map V.ref) (fun i H4 => ∃ ts : List Addr, H4 C = some (.lst (ts.map V.ref)) ∧ ts.length = i ∧ NkAll H4 ((lm.take i).map stK) (ts.map V.ref) ∧ Same H1 H4) ⟨[], upd_same, rfl, by rw [List.take_zero]; exact .nil, sC0⟩ (fun i H4 _ hq => ?_) (fun i x H4 hx hq => ?_) (fun H4 hq => ?_)
    · obtain ⟨ts, _, _, _, s4⟩ := hq
      exact .inl (.inl (s4 _ _ ep))
    · obtain ⟨ts, eC, tl, hk, s4⟩ := hq
      rw [List.getElem?_map] at hx
      obtain ⟨l, hl, rfl⟩ := Option.map_eq_some_iff.mp hx
      obtain ⟨row, hr1, hr2⟩ := awGet hm hl
      obtain ⟨qs, el, hqs⟩ := hr2
      have el4 := s4 _ _ el
      refine ⟨rfl, .ref l, rfl, l, _, rfl, .inl ⟨.inl (.inl el4), fun T hT => ?_⟩⟩
      have sT := same_new (o := .tup (qs.map V.ref)) hT
      have hj := (List.getElem?_eq_some_iff.mp hr1).1
      have few := lok.few
      have nCT : ∀ b o', H1 b = some o' → b ≠ C := fun b o' e => ne_of_none e hC
      refine ⟨ts.map V.ref, sT _ _ eC, by rw [List.length_map, tl, sizeLine_eq]; omega, ts ++ [T], by rw [upd_same, List.map_append]; rfl, by rw [List.length_append, tl]; rfl, ?_, fun b o' e => by rw [upd_ne (nCT b o' e)]; exact sT _ _ (s4 _ _ e)⟩
      have tC : TupsStay (upd H4 T (.tup (qs.map V.ref))) (upd (upd H4 T (.tup (qs.map V.ref))) C (.lst (ts.map V.ref ++ [.ref T]))) := fun b xs e => by
        rw [upd_ne (ne_of e (sT _ _ eC) (fun z => nomatch z))]
        exact e
      have pairs : ∀ {G : Hp} {qs : List Addr} {r : MRow}, PrAt G qs r → NkAll G (r.map fun e => .tup [.num e.1, .num e.2]) (qs.map V.ref) := by
        intro G qs r h
        induction h with
        | nil => exact .nil
        | cons h _ ih => exact .cons (.tup h (.cons (.num _) (.cons (.num _) .nil))) ih
      have hT2 : NkAt (upd (upd H4 T (.tup (qs.map V.ref))) C (.lst (ts.map V.ref ++ [.ref T]))) (stK row) (.ref T) := .tup (tC _ _ upd_same) (nks_stay ((Same.tups (s4.trans sT)).trans tC) _ _ (pairs hqs))
      rw [List.take_add_one, hr1, List.map_append, List.map_append]
      exact nks_app (nks_stay ((Same.tups sT).trans tC) _ _ hk) (.cons hT2 .nil)
    · obtain ⟨ts, eC, tl, hk, s4⟩ := hq
      rw [List.length_map, awLen hm, List.take_length] at hk
      refine ⟨C, _, rfl, .inl ⟨.inl (.inl eC), fun T hT => ⟨(by show 2 ≤ sizeLine; decide), fun U hU => ?_⟩⟩⟩
      have sT := same_new (o := .tup (ts.map V.ref)) hT
      have sU := same_new (o := .tup [.int (m : Int), .ref T]) hU
      have t2 := Same.tups (sT.trans sU)
      refine q _ U lm (s1.trans (s4.trans (sT.trans sU))) lok (.tup upd_same (.cons (.num _) (.cons (.tup (sU _ _ upd_same) (nks_stay t2 _ _ hk)) .nil)))
abbrev sBook___init__ : Stmt := inClass c_Book 0
abbrev sBook_check_kept : Stmt := inClass c_Book 1
abbrev sBook_tell : Stmt := inClass c_Book 2
abbrev sBook_forget : Stmt := inClass c_Book 3
abbrev sBook_back : Stmt := inClass c_Book 4
abbrev sBook_row : Stmt := inClass c_Book 5
abbrev sBook_names : Stmt := inClass c_Book 6
theorem scBi : FnScope ["self"] ["self"] (defScope sBook___init__) := ⟨rfl, rfl, rfl, by decide +kernel, rfl, by decide +kernel, by decide +kernel⟩
theorem scBc : FnScope ["self", "name"] ["self", "name"] (defScope sBook_check_kept) := ⟨rfl, rfl, rfl, by decide +kernel, rfl, by decide +kernel, by decide +kernel⟩
theorem scBt : FnScope ["self", "name", "row"] ["self", "name", "row"] (defScope sBook_tell) := ⟨rfl, rfl, rfl, by decide +kernel, rfl, by decide +kernel, by decide +kernel⟩
theorem scBf : FnScope ["self", "name"] ["self", "name"] (defScope sBook_forget) := ⟨rfl, rfl, rfl, by decide +kernel, rfl, by decide +kernel, by decide +kernel⟩
theorem scBb : FnScope ["self", "name", "row"] ["self"] (defScope sBook_back) := ⟨rfl, rfl, rfl, by decide +kernel, rfl, by decide +kernel, by decide +kernel⟩
theorem scBr : FnScope ["self", "name"] ["self", "name"] (defScope sBook_row) := ⟨rfl, rfl, rfl, by decide +kernel, rfl, by decide +kernel, by decide +kernel⟩
theorem scBn : FnScope ["self"] ["self"] (defScope sBook_names) := ⟨rfl, rfl, rfl, by decide +kernel, rfl, by decide +kernel, by decide +kernel⟩
def letS : Str := "abcdefghijklmnopqrstuvwxyz"
def isLet (c : Nat) : Bool := decide (c ∈ letS.cps.toList)
def nameS (t : Str) : Bool := decide (1 ≤ t.length ∧ t.length ≤ 8) && t.cps.toList.all isLet
def nameB : PyData → Bool
  | .str t => nameS t
  | _ => false
def spIn : Sp := fun vs H Q _ => ∃ (N : Addr → Prop) (x : V) (d : PyData), vs = [x] ∧ AnyAt N H x d ∧ (∀ t, d = .str t → t.length ≤ 100000) ∧ ∀ H', Same H H' → Q (.bl (nameB d)) H'
theorem ok_in {f : Addr} {t1 t2 : Tok} {fd : FuncData} {k : Nat} (F : Fun K "is_name" "is_name" s_is_name f fd) (gF : mg "LETTERS" = some (.str letS t1)) (gM : mg "LONGEST_NAME" = some (.int 8 t2)) (mi : mg "isinstance" = none) (mS : mg "str" = none) (mn : mg "len" = none) (ma : mg "all" = none) : FnOk P w K mg base CX0 (k + 1) f fd ["thing"] spIn := by
  refine F.ok sc_is_name (fun vs H Q E h => ?_) (fun cdv A outer s H vs Q E hr h => ?_)
  · obtain ⟨N, x, d, rfl, _⟩ := h
    rfl
  · obtain ⟨N, x, d, rfl, hx, hl, q⟩ := h
    refine ⟨_, pss_cons (ps_if (PW.pt (pw_or (pt_not (pt_val (pe_callB call_isi (by rfl) mi (by decide +kernel) (pa_cons (pv 0) (pa_cons (pe_bltn (v := .ty "str") (by rfl) mS (by decide +kernel) rfl) pa_nil))))) (pw_or1 (pt_not (pt_chain op_le op_le pe_int (pe_callB call_len_str (by rfl) mn PySem.boot_len (pa_cons (pv 0) pa_nil)) (pe_glob (v := .int 8) (by rfl) gM ⟨t2, rfl⟩)))))) (pss_one (ps_ret pe_bl)) pss_nil)
      (pss_one (ps_ret (pe_callB (cr_all rfl) (by rfl) ma (by decide +kernel) (pa_cons
          (pe_lc (own := [("sign", 1)]) (g := gName 1) (by rfl) sc_is_name.nd (pi_str (pv 0)) (blkOk_by (own := [("sign", 1)]) (N := N_is_name) (sc := defScope s_is_name) (by decide +kernel))
            (fun _ _ _ _ _ => pg_name (i := 1) sc_is_name.nd rfl (Or.inl rfl)) (fun _ _ _ _ _ => pts_nil)
            (fun _ _ _ _ _ => pe_cmpR op_in_sign (pv 1) (pe_glob (v := .str letS) (by rfl) gF ⟨t1, rfl⟩) (by rfl))) pa_nil)))), ?_⟩
    refine ⟨x, rfl, isi_str hx ⟨_, rfl, ?_⟩⟩
    cases hi : isStrD d with
    | false =>
      cases d <;> first | exact q H (Same.refl H) | exact Bool.noConfusion hi
    | true =>
    obtain ⟨z, rfl⟩ : ∃ z, d = .str z := by
      cases d <;> first | exact ⟨_, rfl⟩ | exact Bool.noConfusion hi
    obtain rfl := any_str hx
    have hz := hl z rfl
    have hzs : z.length ≤ sizeLine := by rw [sizeLine_eq]; omega
    have bad : ¬ (1 ≤ z.length ∧ z.length ≤ 8) → Q (.bl false) H := fun hn => by
      have := q H (Same.refl H)
      have e : nameB (.str z) = false := by
        show (decide (1 ≤ z.length ∧ z.length ≤ 8) && _) = false
        rw [decide_eq_false hn, Bool.false_and]
      rw [e] at this
      exact this
    refine ⟨.str z, rfl, z, rfl, hzs, 1, _, rfl, rfl, _, rfl, ?_⟩
    by_cases h1 : (1 : Int) ≤ (z.length : Int)
    · rw [decide_eq_true h1]
      refine ⟨_, 8, rfl, rfl, _, rfl, ?_⟩
      by_cases h8 : (z.length : Int) ≤ 8
      · rw [decide_eq_true h8]
        have hl8 : 1 ≤ z.length ∧ z.length ≤ 8 := by omega
        refine ⟨.str z, rfl, z, rfl, fun C hC => ?_⟩
        have sC : ∀ o, Same H (upd H C o) := fun o => same_new hC
        have esz : z.cps.size = z.cps.toList.length := by simp
        have hl9 : z.cps.toList.length ≤ 8 := by rw [← esz]; exact hl8.2
        refine lc_it (walk_str (z := z)) (fun j H4 => H4 = upd H C (.lst (((z.cps.toList.take j).map isLet).map V.bl))) rfl (fun _ _ _ _ => trivial) (fun j x H4 H5 hj h4 hx => ?_) (fun H4 h4 => ?_)
        · obtain ⟨rfl, c, hc, rfl⟩ := hx
          subst h4
          have hc' : z.cps.toList[j]? = some c := by
            rw [Array.getElem?_toList]
            exact hc
          refine ⟨rfl, .str ⟨#[c]⟩, rfl, c, _, rfl, rfl, _, upd_same, ?_, ?_⟩
          · rw [List.length_map, List.length_map, List.length_take]
            exact small1000 (by omega)
          · rw [upd_upd, List.take_add_one, hc']
            simp [isLet]
        · have eC : H4 C = some (.lst ((z.cps.toList.map isLet).map V.bl)) := by rw [h4, upd_same, esz, List.take_length]
          have s4 : Same H H4 := by rw [h4]; exact sC _
          have ea : (z.cps.toList.map isLet).all id = z.cps.toList.all isLet := by rw [List.all_map]; rfl
          refine ⟨C, _, rfl, .inl (.inl eC), ?_⟩
          rw [ea]
          have := q H4 s4
          have e : nameB (.str z) = z.cps.toList.all isLet := by
            show (decide (1 ≤ z.length ∧ z.length ≤ 8) && _) = _
            rw [decide_eq_true hl8, Bool.true_and]
          rw [e] at this
          exact this
      · rw [decide_eq_false h8]
        exact bad (by omega)
    · rw [decide_eq_false h1]
      exact ⟨false, rfl, bad (by omega)⟩
theorem pss_neverB {X : Cx} {l : List Stmt} : PSs X l (fun _ _ _ => False) := ⟨fun _ _ _ _ _ _ h => h.elim⟩
theorem b_kd : ¬ ("kept" : Str) = "done" := by decide +kernel
theorem b_kl : ¬ ("kept" : Str) = "looks" := by decide +kernel
theorem b_dl : ¬ ("done" : Str) = "looks" := by decide +kernel
def bF (Kd Dn Lk : Addr) : List (Str × V) := putF "looks" (.ref Lk) (putF "done" (.ref Dn) (putF "kept" (.ref Kd) []))
theorem bF_kept (Kd Dn Lk : Addr) : (bF Kd Dn Lk).lookup ("kept" : Str) = some (.ref Kd) := by
  unfold bF
  rw [lookup_putF, if_neg b_kl, lookup_putF, if_neg b_kd, lookup_putF, if_pos rfl]
theorem bF_done (Kd Dn Lk : Addr) : (bF Kd Dn Lk).lookup ("done" : Str) = some (.ref Dn) := by
  unfold bF
  rw [lookup_putF, if_neg b_dl, lookup_putF, if_pos rfl]
theorem bF_looks (Kd Dn Lk : Addr) : (bF Kd Dn Lk).lookup ("looks" : Str) = some (.ref Lk) := by
  unfold bF
  rw [lookup_putF, if_pos rfl]
theorem bF_no (Kd Dn Lk : Addr) {m : Str} (h1 : ¬ m = "looks") (h2 : ¬ m = "done") (h3 : ¬ m = "kept") : (bF Kd Dn Lk).lookup m = none := by
  unfold bF
  rw [lookup_putF, if_neg h1, lookup_putF, if_neg h2, lookup_putF, if_neg h3]
  rfl
structure BCls (K : PySem.W.Frag) (mg : Str → Option Value) (C : Addr) : Prop where
  cl : Cls K C
  nK : NoAttr K C "kept"
  nD : NoAttr K C "done"
  nL : NoAttr K C "looks"
  mgC : mg "Book" = some (.ref C)
def oR : Option Addr → V
  | some r => .ref r
  | none => .non
abbrev Dn1 := Str × Option Addr
abbrev DnAt (H : Hp) : List Addr → List Dn1 → Prop := Paired fun t e => H t = some (.tup [.str e.1, oR e.2])
abbrev Kvs := List (Key × V)
def KvOk (kvs : Kvs) : Prop := ∀ e ∈ kvs, ∃ t r, e = ((Sum.inr t : Key), V.ref r)
theorem kv_put {kvs : Kvs} (h : KvOk kvs) (t : Str) (r : Addr) : KvOk (putK kvs (Sum.inr t) (.ref r)) := fun e he => by
  unfold putK at he
  by_cases hc : (kvs.any fun kv => decide (kv.1 = (Sum.inr t : Key))) = true
  · rw [if_pos hc] at he
    obtain ⟨x, hx, rfl⟩ := List.mem_map.mp he
    by_cases hk : x.1 = (Sum.inr t : Key)
    · rw [if_pos hk, hk]
      exact ⟨t, r, rfl⟩
    · rw [if_neg hk]
      exact h x hx
  · rw [if_neg hc] at he
    rcases List.mem_append.mp he with he | he
    · exact h e he
    · rw [List.mem_singleton.mp he]
      exact ⟨t, r, rfl⟩
theorem kv_drop {kvs : Kvs} (h : KvOk kvs) (t : Str) : KvOk (dropK kvs (Sum.inr t)) := fun e he => h e (List.mem_filter.mp he).1
/-- a book: its dict of names, what may be undone -/
structure BkAt (C : Addr) (H : Hp) (p Kd Dn Lk : Addr) (kvs : Kvs) (dn : List Dn1) : Prop where
  ob : ∃ dx, H p = some (.ins C dx (bF Kd Dn Lk))
  kept : H Kd = some (.dK kvs)
  done : ∃ ts, H Dn = some (.lst (ts.map V.ref)) ∧ DnAt H ts dn
  ok : KvOk kvs
  few : kvs.length ≤ 1000000
theorem BkAt.stay {C : Addr} {H H' : Hp} {p Kd Dn Lk : Addr} {kvs : Kvs} {dn : List Dn1} (h : BkAt C H p Kd Dn Lk kvs dn) (k : ∀ c o, (c = p ∨ c = Kd ∨ c = Dn) → H c = some o → H' c = some o) (t : TupsStay H H') : BkAt C H' p Kd Dn Lk kvs dn := by
  obtain ⟨⟨dx, ob⟩, kept, ⟨ts, e1, e2⟩, ok, few⟩ := h
  exact ⟨⟨dx, k _ _ (.inl rfl) ob⟩, k _ _ (.inr (.inl rfl)) kept, ⟨ts, k _ _ (.inr (.inr rfl)) e1, awMap (fun _ _ e => t _ _ e) e2⟩, ok, few⟩
theorem BkAt.same {C : Addr} {H H' : Hp} {p Kd Dn Lk : Addr} {kvs : Kvs} {dn : List Dn1} (h : BkAt C H p Kd Dn Lk kvs dn) (s : Same H H') : BkAt C H' p Kd Dn Lk kvs dn := h.stay (fun c o _ e => s c o e) (Same.tups s)
def spCn : Sp := fun vs H Q _ => ∃ t : Str, vs = [.str t] ∧ nameS t = true ∧ ∀ H', Same H H' → Q .non H'
theorem nameS_len {t : Str} (h : nameS t = true) : t.length ≤ 8 := by
  unfold nameS at h
  rw [Bool.and_eq_true] at h
  exact (of_decide_eq_true h.1).2
theorem ok_cn {f fI : Addr} {fd fdI : FuncData} {k : Nat} (F : Fun K "check_name" "check_name" s_check_name f fd)
    (GI : FnOk P w K mg base CX0 (k + 1) fI fdI ["thing"] spIn) (kI : PySem.W.keepIn K (.ref fI) = true) (bI : Binds K fdI ["thing"] []) (gI : mg "is_name" = some (.ref fI)) : FnOk P w K mg base CX0 (k + 2) f fd ["thing"] spCn := by
  refine F.ok sc_check_name (fun vs H Q E h => ?_) (fun cdv A outer s H vs Q E hr h => ?_)
  · obtain ⟨t, rfl, _⟩ := h
    rfl
  · obtain ⟨t, rfl, ht, q⟩ := h
    refine ⟨_, pss_one (ps_if (pt_not (pt_val (pe_call GI hr (by rfl) gI kI bI .nil pass0 (pa_cons (pv 0) pa_nil)))) pss_neverB pss_nil), ?_⟩
    refine ⟨.str t, rfl, fun _ => False, .str t, .str t, rfl, .str t, fun t2 e => by injection e with e; rw [← e]; have := nameS_len ht; omega, fun H1 s1 => ⟨_, rfl, ?_⟩⟩
    have e : nameB (.str t) = true := ht
    rw [e]
    exact iteF (q H1 s1)
def spBi (P : Program) (w : World) (C : Addr) : Sp := fun vs H Q _ => ∃ (p dx : Addr), vs = [.ref p] ∧ H p = some (.ins C dx []) ∧
  ∀ H' Kd Dn Lk, BkAt C H' p Kd Dn Lk [] [] → H' Lk = some (NDO P w Lk []) → H Kd = none → H Dn = none → H Lk = none → (∀ c o, c ≠ p → H c = some o → H' c = some o) → Q .non H'
def spBc (C : Addr) : Sp := fun vs H Q _ => ∃ (p Kd Dn Lk : Addr) (kvs : Kvs) (dn : List Dn1) (t : Str), vs = [.ref p, .str t] ∧ BkAt C H p Kd Dn Lk kvs dn ∧ nameS t = true ∧ (valV kvs (Sum.inr t)).isSome = true ∧ ∀ H', Same H H' → Q .non H'
theorem ok_bc {f fN C : Addr} {fd fdN : FuncData} {k : Nat} (F : Fun K "check_kept" "Book.check_kept" sBook_check_kept f fd) (T : BCls K mg C)
    (GN : FnOk P w K mg base CX0 (k + 2) fN fdN ["thing"] spCn) (kN : PySem.W.keepIn K (.ref fN) = true) (bN : Binds K fdN ["thing"] []) (gN : mg "check_name" = some (.ref fN)) : FnOk P w K mg base CX0 (k + 3) f fd ["self", "name"] (spBc C) := by
  refine F.ok scBc (fun vs H Q E h => ?_) (fun cdv A outer s H vs Q E hr h => ?_)
  · obtain ⟨p, Kd, Dn, Lk, kvs, dn, t, rfl, _⟩ := h
    rfl
  · obtain ⟨p, Kd, Dn, Lk, kvs, dn, t, rfl, hb, ht, hk, q⟩ := h
    refine ⟨_, pss_cons (ps_expr (pe_call GN hr (by rfl) gN kN bN .nil pass0 (pa_cons (pv 1) pa_nil)))
      (pss_one (ps_if (pt_cmp (pc_dnotin (hu_of hr) (pv 1) (pe_fld (pv 0) rfl))) pss_neverB pss_nil)), ?_⟩
    refine ⟨.str t, rfl, t, rfl, ht, fun H1 s1 => ?_⟩
    have hb1 := hb.same s1
    obtain ⟨dx, ob⟩ := hb1.ob
    refine ⟨.str t, rfl, .ref p, rfl, p, C, dx, _, _, rfl, ob, T.cl, T.nK, bF_kept _ _ _, Kd, _, rfl, DGet.k (k := Sum.inr t) hb1.kept, _, rfl, ?_⟩
    rw [hk]
    exact iteF (q H1 s1)
theorem ok_bi {f C : Addr} {fd : FuncData} {k : Nat} (F : Fun K "__init__" "Book.__init__" sBook___init__ f fd) (T : BCls K mg C) : FnOk P w K mg base CX0 (k + 1) f fd ["self"] (spBi P w C) := by
  refine F.ok scBi (fun vs H Q E h => ?_) (fun cdv A outer s H vs Q E hr h => ?_)
  · obtain ⟨p, dx, rfl, _⟩ := h
    rfl
  · obtain ⟨p, dx, rfl, hp, q⟩ := h
    refine ⟨_, pss_cons (ps_fld (pv 0) pe_dnewK rfl) (pss_cons (ps_fld (pv 0) (pe_lst pa_nil) rfl) (pss_one (ps_fld (pv 0) (pe_ndnew rfl rfl) rfl))), ?_⟩
    intro Kd hKd
    have sK := same_new (o := .dK []) hKd
    have npK : p ≠ Kd := ne_of_none hp hKd
    refine ⟨.ref p, rfl, p, C, dx, [], rfl, sK _ _ hp, T.cl, T.nK, (by show 0 < 1000; decide), ?_⟩
    have k1 : ∀ c o, c ≠ p → H c = some o → upd (upd H Kd (.dK [])) p (.ins C dx (putF "kept" (.ref Kd) [])) c = some o := fun c o n e => by
      rw [upd_ne n]
      exact sK _ _ e
    have ep1 : upd (upd H Kd (.dK [])) p (.ins C dx (putF "kept" (.ref Kd) [])) p = some (.ins C dx (putF "kept" (.ref Kd) [])) := upd_same
    have eK1 : upd (upd H Kd (.dK [])) p (.ins C dx (putF "kept" (.ref Kd) [])) Kd = some (.dK []) := by
      rw [upd_ne npK.symm]
      exact upd_same
    generalize upd (upd H Kd (.dK [])) p (.ins C dx (putF "kept" (.ref Kd) [])) = H1 at k1 ep1 eK1
    refine ⟨Nat.zero_le _, fun Dn hDn => ?_⟩
    have sD := same_new (o := .lst []) hDn
    have npD : p ≠ Dn := ne_of_none ep1 hDn
    have hDn0 : H Dn = none := by
      cases e : H Dn with
      | none => rfl
      | some o => rw [k1 _ o npD.symm e] at hDn; cases hDn
    refine ⟨.ref p, rfl, p, C, dx, _, rfl, sD _ _ ep1, T.cl, T.nD, (by show 1 < 1000; decide), ?_⟩
    have k2 : ∀ c o, c ≠ p → H1 c = some o → upd (upd H1 Dn (.lst [])) p (.ins C dx (putF "done" (.ref Dn) (putF "kept" (.ref Kd) []))) c = some o := fun c o n e => by
      rw [upd_ne n]
      exact sD _ _ e
    have ep2 : upd (upd H1 Dn (.lst [])) p (.ins C dx (putF "done" (.ref Dn) (putF "kept" (.ref Kd) []))) p = some (.ins C dx (putF "done" (.ref Dn) (putF "kept" (.ref Kd) []))) := upd_same
    have eD2 : upd (upd H1 Dn (.lst [])) p (.ins C dx (putF "done" (.ref Dn) (putF "kept" (.ref Kd) []))) Dn = some (.lst []) := by
      rw [upd_ne npD.symm]
      exact upd_same
    generalize upd (upd H1 Dn (.lst [])) p (.ins C dx (putF "done" (.ref Dn) (putF "kept" (.ref Kd) []))) = H2 at k2 ep2 eD2
    have eK2 := k2 _ _ npK.symm eK1
    intro Lk hLk
    have sL := same_new (o := NDO P w Lk []) hLk
    have npL : p ≠ Lk := ne_of_none ep2 hLk
    have hLk0 : H Lk = none := by
      cases e : H Lk with
      | none => rfl
      | some o => rw [k2 _ o npL.symm (k1 _ o npL.symm e)] at hLk; cases hLk
    refine ⟨.ref p, rfl, p, C, dx, _, rfl, sL _ _ ep2, T.cl, T.nL, (by show 2 < 1000; decide), ?_⟩
    have k3 : ∀ c o, c ≠ p → H2 c = some o → upd (upd H2 Lk (NDO P w Lk [])) p (.ins C dx (putF "looks" (.ref Lk) (putF "done" (.ref Dn) (putF "kept" (.ref Kd) [])))) c = some o := fun c o n e => by
      rw [upd_ne n]
      exact sL _ _ e
    exact q _ Kd Dn Lk ⟨⟨dx, upd_same⟩, k3 _ _ npK.symm eK2, ⟨[], k3 _ _ npD.symm eD2, .nil⟩, (fun e h => nomatch h), Nat.zero_le _⟩ (by rw [upd_ne npL.symm]; exact upd_same) hKd hDn0 hLk0 (fun c o n e => k3 c o n (k2 c o n (k1 c o n e)))
def spBr (C : Addr) : Sp := fun vs H Q _ => ∃ (p Kd Dn Lk : Addr) (kvs : Kvs) (dn : List Dn1) (t : Str) (v : V), vs = [.ref p, .str t] ∧ BkAt C H p Kd Dn Lk kvs dn ∧ nameS t = true ∧ valV kvs (Sum.inr t) = some v ∧ ∀ H', Same H H' → Q v H'
theorem ok_br {f fC C : Addr} {fd fdC : FuncData} {k : Nat} (F : Fun K "row" "Book.row" sBook_row f fd) (T : BCls K mg C)
    (MC : Meth K C "check_kept" fC) (GC : FnOk P w K mg base CX0 (k + 3) fC fdC ["self", "name"] (spBc C)) (bC : Binds K fdC ["self", "name"] []) : FnOk P w K mg base CX0 (k + 4) f fd ["self", "name"] (spBr C) := by
  refine F.ok scBr (fun vs H Q E h => ?_) (fun cdv A outer s H vs Q E hr h => ?_)
  · obtain ⟨p, Kd, Dn, Lk, kvs, dn, t, v, rfl, _⟩ := h
    rfl
  · obtain ⟨p, Kd, Dn, Lk, kvs, dn, t, v, rfl, hb, ht, hk, q⟩ := h
    refine ⟨_, pss_cons (ps_expr (pe_meth (pv 0) T.cl MC GC hr bC .nil pass0 (pa_cons (pv 1) pa_nil)))
      (pss_one (ps_ret (pe_dget (hu_of hr) (pe_fld (pv 0) rfl) (pv 1) (fun _ _ => rfl)))), ?_⟩
    obtain ⟨dx, ob⟩ := hb.ob
    refine ⟨.ref p, rfl, p, dx, _, rfl, ob, bF_no _ _ _ (by decide +kernel) (by decide +kernel) (by decide +kernel), .str t, rfl, p, Kd, Dn, Lk, kvs, dn, t, rfl, hb, ht, by rw [hk]; rfl, fun H1 s1 => ?_⟩
    have hb1 := hb.same s1
    have dg : DGet H1 Kd (.str t) (some v) := by
      have := DGet.k (k := Sum.inr t) hb1.kept
      rw [hk] at this
      exact this
    exact ⟨.ref p, rfl, p, C, dx, _, _, rfl, s1 _ _ ob, T.cl, T.nK, bF_kept _ _ _, .str t, rfl, Kd, v, rfl, dg, q H1 s1⟩
def spBn (C : Addr) : Sp := fun vs H Q _ => ∃ (p Kd Dn Lk : Addr) (kvs : Kvs) (dn : List Dn1) (ks : List Str), vs = [.ref p] ∧ BkAt C H p Kd Dn Lk kvs dn ∧ kvs.map (·.1) = ks.map Sum.inr ∧ ks.length < 64 ∧
  ∀ ys L, ys.Perm ks → sortedS ys = true → H L = none → Q (.ref L) (upd H L (.lst (ys.map V.str)))
theorem ok_bn {f C : Addr} {fd : FuncData} {k : Nat} (F : Fun K "names" "Book.names" sBook_names f fd) (T : BCls K mg C) (ms : mg "sorted" = none) : FnOk P w K mg base CX0 (k + 1) f fd ["self"] (spBn C) := by
  refine F.ok scBn (fun vs H Q E h => ?_) (fun cdv A outer s H vs Q E hr h => ?_)
  · obtain ⟨p, Kd, Dn, Lk, kvs, dn, ks, rfl, _⟩ := h
    rfl
  · obtain ⟨p, Kd, Dn, Lk, kvs, dn, ks, rfl, hb, hks, h64, q⟩ := h
    refine ⟨_, pss_one (ps_ret (pe_callB (call_sortedD rfl) (by rfl) ms (by decide +kernel) (pa_cons (pe_fld (pv 0) rfl) pa_nil))), ?_⟩
    obtain ⟨dx, ob⟩ := hb.ob
    exact ⟨.ref p, rfl, p, C, dx, _, _, rfl, ob, T.cl, T.nK, bF_kept _ _ _, Kd, kvs, ks, rfl, .inl hb.kept, hks, h64, fun ys L h1 h2 h3 => q ys L h1 h2 h3⟩
/-- what a method that changes the book leaves -/
def KpB (p Kd Dn : Addr) (H H' : Hp) : Prop := ∀ c o, c ≠ Kd → c ≠ Dn → H c = some o → H' c = some o
def spBf (C : Addr) : Sp := fun vs H Q _ => ∃ (p Kd Dn Lk : Addr) (kvs : Kvs) (dn : List Dn1) (t : Str) (r : Addr), vs = [.ref p, .str t] ∧ BkAt C H p Kd Dn Lk kvs dn ∧ dn.length ≤ 100000 ∧ nameS t = true ∧ valV kvs (Sum.inr t) = some (.ref r) ∧
  ∀ H', BkAt C H' p Kd Dn Lk (dropK kvs (Sum.inr t)) (dn ++ [(t, some r)]) → KpB p Kd Dn H H' → Q .non H'
theorem dropK_len (kvs : Kvs) (k : Key) : (dropK kvs k).length ≤ kvs.length := List.length_filter_le _ _
theorem putK_len (kvs : Kvs) (k : Key) (v : V) : (putK kvs k v).length ≤ kvs.length + 1 := by
  unfold putK
  split
  · rw [List.length_map]; omega
  · rw [List.length_append]; simp
set_option maxHeartbeats 1000000 in
theorem ok_bf {f fC C : Addr} {fd fdC : FuncData} {k : Nat} (F : Fun K "forget" "Book.forget" sBook_forget f fd) (T : BCls K mg C)
    (MC : Meth K C "check_kept" fC) (GC : FnOk P w K mg base CX0 (k + 3) fC fdC ["self", "name"] (spBc C)) (bC : Binds K fdC ["self", "name"] []) : FnOk P w K mg base CX0 (k + 4) f fd ["self", "name"] (spBf C) := by
  refine F.ok scBf (fun vs H Q E h => ?_) (fun cdv A outer s H vs Q E hr h => ?_)
  · obtain ⟨p, Kd, Dn, Lk, kvs, dn, t, r, rfl, _⟩ := h
    rfl
  · obtain ⟨p, Kd, Dn, Lk, kvs, dn, t, r, rfl, hb, hl, ht, hk, q⟩ := h
    refine ⟨_, pss_cons (ps_expr (pe_meth (pv 0) T.cl MC GC hr bC .nil pass0 (pa_cons (pv 1) pa_nil)))
      (pss_cons (ps_expr (pe_bm PySem.F.plainAttrs_list PySem.F.slot_list_append PySem.F.type_list_append mt_append (pe_fld (pv 0) rfl) (pa_cons (pe_tup (pa_cons (pv 1) (pa_cons (pe_dget (hu_of hr) (pe_fld (pv 0) rfl) (pv 1) (fun _ _ => rfl)) pa_nil))) pa_nil)))
      (pss_one (ps_ddel (pe_fld (pv 0) rfl) (pv 1)))), ?_⟩
    obtain ⟨dx, ob⟩ := hb.ob
    refine ⟨.ref p, rfl, p, dx, _, rfl, ob, bF_no _ _ _ (by decide +kernel) (by decide +kernel) (by decide +kernel), .str t, rfl, p, Kd, Dn, Lk, kvs, dn, t, rfl, hb, ht, by rw [hk]; rfl, fun H1 s1 => ?_⟩
    have hb1 := hb.same s1
    have ob1 := s1 _ _ ob
    obtain ⟨ts, eD, ets⟩ := hb1.done
    have hlt := awLen ets
    have dg : DGet H1 Kd (.str t) (some (.ref r)) := by
      have := DGet.k (k := Sum.inr t) hb1.kept
      rw [hk] at this
      exact this
    have npK : p ≠ Kd := ne_of ob1 hb1.kept (fun z => nomatch z)
    have npD : p ≠ Dn := ne_of ob1 eD (fun z => nomatch z)
    have nKD : Kd ≠ Dn := ne_of hb1.kept eD (fun z => nomatch z)
    refine ⟨.ref p, rfl, p, C, dx, _, _, rfl, ob1, T.cl, T.nD, bF_done _ _ _, .inl ⟨rfl, _, .inl (.inl eD)⟩, .str t, rfl, .ref p, rfl, p, C, dx, _, _, rfl, ob1, T.cl, T.nK, bF_kept _ _ _, .str t, rfl, Kd, .ref r, rfl, dg, (by show 2 ≤ sizeLine; decide), fun U hU => ?_⟩
    have sU := same_new (o := .tup [.str t, .ref r]) hU
    refine ⟨Dn, _, .ref U, rfl, rfl, sU _ _ eD, by rw [List.length_map, hlt, sizeLine_eq]; omega, ?_⟩
    have k2 : ∀ c o, c ≠ Dn → H1 c = some o → upd (upd H1 U (.tup [.str t, .ref r])) Dn (.lst (ts.map V.ref ++ [.ref U])) c = some o := fun c o n e => by
      rw [upd_ne n]
      exact sU _ _ e
    have eK2 := k2 _ _ nKD hb1.kept
    have eU2 : upd (upd H1 U (.tup [.str t, .ref r])) Dn (.lst (ts.map V.ref ++ [.ref U])) U = some (.tup [.str t, .ref r]) := by
      rw [upd_ne (ne_of_none eD hU).symm]
      exact upd_same
    have eD2 : upd (upd H1 U (.tup [.str t, .ref r])) Dn (.lst (ts.map V.ref ++ [.ref U])) Dn = some (.lst ((ts ++ [U]).map V.ref)) := by
      rw [upd_same, List.map_append]
      rfl
    generalize upd (upd H1 U (.tup [.str t, .ref r])) Dn (.lst (ts.map V.ref ++ [.ref U])) = H2 at k2 eK2 eU2 eD2
    refine ⟨.ref p, rfl, p, C, dx, _, _, rfl, k2 _ _ npD ob1, T.cl, T.nK, bF_kept _ _ _, .str t, rfl, Kd, kvs, Sum.inr t, rfl, eK2, rfl, by rw [hk]; rfl, ?_⟩
    have t2 : TupsStay H1 H2 := fun c xs e => k2 c _ (ne_of e eD (fun z => nomatch z)) e
    refine q _ ⟨⟨dx, by rw [upd_ne npK]; exact k2 _ _ npD ob1⟩, upd_same, ⟨ts ++ [U], by rw [upd_ne nKD.symm]; exact eD2, ?_⟩, kv_drop hb1.ok t, Nat.le_trans (dropK_len _ _) hb1.few⟩ (fun c o n1 n2 e => by rw [upd_ne n1]; exact k2 c o n2 (s1 _ _ e))
    have tK : TupsStay H2 (upd H2 Kd (.dK (dropK kvs (Sum.inr t)))) := fun c xs e => by
      rw [upd_ne (ne_of e eK2 (fun z => nomatch z))]
      exact e
    exact awAppend (awMap (fun _ _ e => tK _ _ (t2 _ _ e)) ets) (.cons (tK _ _ eU2) .nil)
def spBt (C : Addr) : Sp := fun vs H Q _ => ∃ (p Kd Dn Lk R : Addr) (kvs : Kvs) (dn : List Dn1) (t : Str) (o : Option Addr) (N : Addr → Prop) (d : PyData) (b kk : Nat), vs = [.ref p, .str t, .ref R] ∧ BkAt C H p Kd Dn Lk kvs dn ∧ dn.length ≤ 100000 ∧ kvs.length ≤ 900000 ∧ nameS t = true ∧
  AnyAt N H (.ref R) d ∧ NcB b kk d ∧ b ≤ 30000 ∧ rowA d = true ∧ valV kvs (Sum.inr t) = o.map V.ref ∧ ∀ H', BkAt C H' p Kd Dn Lk (putK kvs (Sum.inr t) (.ref R)) (dn ++ [(t, o)]) → KpB p Kd Dn H H' → Q .non H'
set_option maxHeartbeats 1000000 in
theorem ok_btl {f fN fR C : Addr} {fd fdN fdR : FuncData} {k : Nat} (F : Fun K "tell" "Book.tell" sBook_tell f fd) (T : BCls K mg C)
    (GN : FnOk P w K mg base CX0 (k + 2) fN fdN ["thing"] spCn) (kN : PySem.W.keepIn K (.ref fN) = true) (bN : Binds K fdN ["thing"] []) (gN : mg "check_name" = some (.ref fN))
    (GR : FnOk P w K mg base CX0 (k + 5) fR fdR ["thing"] spIr) (kR : PySem.W.keepIn K (.ref fR) = true) (bR : Binds K fdR ["thing"] []) (gR : mg "is_row" = some (.ref fR)) : FnOk P w K mg base CX0 (k + 6) f fd ["self", "name", "row"] (spBt C) := by
  refine F.ok scBt (fun vs H Q E h => ?_) (fun cdv A outer s H vs Q E hr h => ?_)
  · obtain ⟨p, Kd, Dn, Lk, R, kvs, dn, t, o, N, d, b, kk, rfl, _⟩ := h
    rfl
  · obtain ⟨p, Kd, Dn, Lk, R, kvs, dn, t, o, N, d, b, kk, rfl, hb, hl, hl2, ht, hx, nc, hb3, hrw, hk, q⟩ := h
    have R2 := hr.mono (show k + 2 ≤ k + 5 by omega)
    refine ⟨_, pss_cons (ps_expr (pe_call GN R2 (by rfl) gN kN bN .nil pass0 (pa_cons (pv 1) pa_nil)))
      (pss_cons (ps_if (pt_not (pt_val (pe_call GR hr (by rfl) gR kR bR .nil pass0 (pa_cons (pv 2) pa_nil)))) pss_neverB pss_nil)
      (pss_cons (ps_expr (pe_bm PySem.F.plainAttrs_list PySem.F.slot_list_append PySem.F.type_list_append mt_append (pe_fld (pv 0) rfl) (pa_cons (pe_tup (pa_cons (pv 1) (pa_cons (pe_dget1 (hu_of hr) (pe_fld (pv 0) rfl) (pv 1) ⟨rfl, rfl, rfl, rfl⟩) pa_nil))) pa_nil)))
      (pss_one (ps_dput (hu_of hr) (pe_fld (pv 0) rfl) (pv 1) (pv 2) rfl)))), ?_⟩
    refine ⟨.str t, rfl, t, rfl, ht, fun H0 s0 => ?_⟩
    refine ⟨.ref R, rfl, N, .ref R, d, b, kk, rfl, any_same s0 hx, nc, hb3, fun H1 s01 => ⟨_, rfl, ?_⟩⟩
    rw [hrw]
    refine iteF ?_
    have s1 := s0.trans s01
    have hb1 := hb.same s1
    obtain ⟨dx, ob1⟩ := hb1.ob
    obtain ⟨ts, eD, ets⟩ := hb1.done
    have hlt := awLen ets
    have dg : DGet H1 Kd (.str t) (o.map V.ref) := by
      have := DGet.k (k := Sum.inr t) hb1.kept
      rw [hk] at this
      exact this
    have npK : p ≠ Kd := ne_of ob1 hb1.kept (fun z => nomatch z)
    have npD : p ≠ Dn := ne_of ob1 eD (fun z => nomatch z)
    have nKD : Kd ≠ Dn := ne_of hb1.kept eD (fun z => nomatch z)
    refine ⟨.ref p, rfl, p, C, dx, _, _, rfl, ob1, T.cl, T.nD, bF_done _ _ _, .inl ⟨rfl, _, .inl (.inl eD)⟩, .str t, rfl, .ref p, rfl, p, C, dx, _, _, rfl, ob1, T.cl, T.nK, bF_kept _ _ _, Kd, rfl, .inl ⟨kvs, .inl hb1.kept⟩, .str t, rfl, _, dg, ?_⟩
    have eo : (o.map V.ref).getD .non = oR o := by cases o <;> rfl
    rw [eo]
    refine ⟨(by show 2 ≤ sizeLine; decide), fun U hU => ?_⟩
    have sU := same_new (o := .tup [.str t, oR o]) hU
    refine ⟨Dn, _, .ref U, rfl, rfl, sU _ _ eD, by rw [List.length_map, hlt, sizeLine_eq]; omega, ?_⟩
    have k2 : ∀ c o', c ≠ Dn → H1 c = some o' → upd (upd H1 U (.tup [.str t, oR o])) Dn (.lst (ts.map V.ref ++ [.ref U])) c = some o' := fun c o' n e => by
      rw [upd_ne n]
      exact sU _ _ e
    have eK2 := k2 _ _ nKD hb1.kept
    have eU2 : upd (upd H1 U (.tup [.str t, oR o])) Dn (.lst (ts.map V.ref ++ [.ref U])) U = some (.tup [.str t, oR o]) := by
      rw [upd_ne (ne_of_none eD hU).symm]
      exact upd_same
    have eD2 : upd (upd H1 U (.tup [.str t, oR o])) Dn (.lst (ts.map V.ref ++ [.ref U])) Dn = some (.lst ((ts ++ [U]).map V.ref)) := by
      rw [upd_same, List.map_append]
      rfl
    generalize upd (upd H1 U (.tup [.str t, oR o])) Dn (.lst (ts.map V.ref ++ [.ref U])) = H2 at k2 eK2 eU2 eD2
    have hl3 : kvs.length < sizeLine := by rw [sizeLine_eq]; omega
    refine ⟨.ref R, rfl, .ref p, rfl, p, C, dx, _, _, rfl, k2 _ _ npD ob1, T.cl, T.nK, bF_kept _ _ _, .str t, rfl, Kd, _, rfl, DPut.k (k := Sum.inr t) eK2 hl3, ?_⟩
    have t2 : TupsStay H1 H2 := fun c xs e => k2 c _ (ne_of e eD (fun z => nomatch z)) e
    have tK : TupsStay H2 (upd H2 Kd (.dK (putK kvs (Sum.inr t) (.ref R)))) := fun c xs e => by
      rw [upd_ne (ne_of e eK2 (fun z => nomatch z))]
      exact e
    refine q _ ⟨⟨dx, by rw [upd_ne npK]; exact k2 _ _ npD ob1⟩, upd_same, ⟨ts ++ [U], by rw [upd_ne nKD.symm]; exact eD2, ?_⟩, kv_put hb1.ok t R, Nat.le_trans (putK_len _ _ _) (by omega)⟩ (fun c o n1 n2 e => by rw [upd_ne n1]; exact k2 c o n2 (s1 _ _ e))
    exact awAppend (awMap (fun _ _ e => tK _ _ (t2 _ _ e)) ets) (.cons (tK _ _ eU2) .nil)
theorem prTake {α β : Type} {F : α → β → Prop} : ∀ {l : List α} {k : List β} (n : Nat), Paired F l k → Paired F (l.take n) (k.take n)
  | _, _, 0, _ => .nil
  | _, _, _ + 1, .nil => .nil
  | _, _, n + 1, .cons h t => .cons h (prTake n t)
def undo (kvs : Kvs) (e : Dn1) : Kvs := match e.2 with
  | none => dropK kvs (Sum.inr e.1)
  | some r => putK kvs (Sum.inr e.1) (.ref r)
def spBb (C : Addr) : Sp := fun vs H Q _ => ∃ (p Kd Dn Lk : Addr) (kvs : Kvs) (dn : List Dn1) (e : Dn1), vs = [.ref p] ∧ BkAt C H p Kd Dn Lk kvs (dn ++ [e]) ∧ kvs.length ≤ 900000 ∧ (e.2 = none → (valV kvs (Sum.inr e.1)).isSome = true) ∧
  ∀ H', BkAt C H' p Kd Dn Lk (undo kvs e) dn → KpB p Kd Dn H H' → Q .non H'
set_option maxHeartbeats 1000000 in
theorem ok_bb {f C : Addr} {fd : FuncData} {k : Nat} (F : Fun K "back" "Book.back" sBook_back f fd) (T : BCls K mg C) : FnOk P w K mg base CX0 (k + 1) f fd ["self"] (spBb C) := by
  refine F.ok scBb (fun vs H Q E h => ?_) (fun cdv A outer s H vs Q E hr h => ?_)
  · obtain ⟨p, Kd, Dn, Lk, kvs, dn, e, rfl, _⟩ := h
    rfl
  · obtain ⟨p, Kd, Dn, Lk, kvs, dn, e, rfl, hb, hl2, hk, q⟩ := h
    refine ⟨_, pss_cons (ps_if (pt_not (pt_truth (pe_fld (pv 0) rfl) (fun _ => rfl))) pss_neverB pss_nil)
      (pss_cons (ps_asg (pe_bm0 PySem.F.plainAttrs_list PySem.F.slot_list_pop PySem.F.type_list_pop mt_pop (pe_fld (pv 0) rfl)) (pg_tup rfl (pgs_cons (pg_name (i := 1) scBb.nd rfl (.inl rfl)) (pgs_cons (pg_name (i := 2) scBb.nd rfl (.inl rfl)) pgs_nil))))
      (pss_one (ps_if (pt_cmpR op_isN (pv 2) pe_non (nomark _)) (pss_one (ps_ddel (pe_fld (pv 0) rfl) (pv 1))) (pss_one (ps_dput (hu_of hr) (pe_fld (pv 0) rfl) (pv 1) (pv 2) rfl))))), ?_⟩
    obtain ⟨dx, ob⟩ := hb.ob
    obtain ⟨ts, eD, ets⟩ := hb.done
    obtain ⟨ts0, U, rfl, ets0, eU⟩ : ∃ ts0 U, ts = ts0 ++ [U] ∧ DnAt H ts0 dn ∧ H U = some (.tup [.str e.1, oR e.2]) := by
      have hlt := awLen ets
      rw [List.length_append] at hlt
      have hne : ts ≠ [] := by
        intro z
        rw [z] at hlt
        simp at hlt
      refine ⟨ts.dropLast, ts.getLast hne, (List.dropLast_concat_getLast hne).symm, ?_, ?_⟩
      · have h1 := prTake dn.length ets
        rw [List.take_left] at h1
        have h2 : ts.take dn.length = ts.dropLast := by
          rw [List.dropLast_eq_take]
          congr 1
          simp at hlt
          omega
        rw [h2] at h1
        exact h1
      · have hl : dn.length < ts.length := by simp at hlt; omega
        obtain ⟨e2, h1, h2⟩ := awGet ets (List.getElem?_eq_getElem hl)
        rw [List.getElem?_append_right (Nat.le_refl _), Nat.sub_self] at h1
        obtain rfl : e = e2 := by simpa using h1
        have : ts.getLast hne = ts[dn.length] := by
          rw [List.getLast_eq_getElem]
          congr 1
          simp at hlt
          omega
        rw [this]
        exact h2
    have npK : p ≠ Kd := ne_of ob hb.kept (fun z => nomatch z)
    have npD : p ≠ Dn := ne_of ob eD (fun z => nomatch z)
    have nKD : Kd ≠ Dn := ne_of hb.kept eD (fun z => nomatch z)
    refine ⟨.ref p, rfl, p, C, dx, _, _, rfl, ob, T.cl, T.nD, bF_done _ _ _, true, .inl ⟨_, .inl (.inl eD), by rw [List.map_append]; simp⟩, iteF ?_⟩
    refine ⟨.ref p, rfl, p, C, dx, _, _, rfl, ob, T.cl, T.nD, bF_done _ _ _, .inl ⟨rfl, _, .inl (.inl eD)⟩, Dn, _, .ref U, rfl, rfl, eD, by rw [List.map_append, List.length_append]; simp, ?_⟩
    have ed : ((ts0 ++ [U]).map V.ref).dropLast = ts0.map V.ref := by rw [List.map_append]; simp
    rw [ed]
    have k2 : ∀ c o', c ≠ Dn → H c = some o' → upd H Dn (.lst (ts0.map V.ref)) c = some o' := fun c o' n e => by
      rw [upd_ne n]
      exact e
    have eD2 : upd H Dn (.lst (ts0.map V.ref)) Dn = some (.lst (ts0.map V.ref)) := upd_same
    have eU2 := k2 U _ (ne_of eU eD (fun z => nomatch z)) eU
    have eK2 := k2 _ _ nKD hb.kept
    have ob2 := k2 _ _ npD ob
    have t2 : TupsStay H (upd H Dn (.lst (ts0.map V.ref))) := fun c xs e => k2 c _ (ne_of e eD (fun z => nomatch z)) e
    generalize upd H Dn (.lst (ts0.map V.ref)) = H2 at k2 eD2 eU2 eK2 ob2 t2
    refine ⟨U, _, rfl, SqT.of eU2, rfl, _, _, rfl, _, _, rfl, rfl, ?_⟩
    have fin : ∀ kv', KvOk kv' → kv'.length ≤ 1000000 → BkAt C (upd H2 Kd (.dK kv')) p Kd Dn Lk kv' dn ∧ KpB p Kd Dn H (upd H2 Kd (.dK kv')) := fun kv' h1 h2 => by
      have tK : TupsStay H2 (upd H2 Kd (.dK kv')) := fun c xs e => by
        rw [upd_ne (ne_of e eK2 (fun z => nomatch z))]
        exact e
      exact ⟨⟨⟨dx, by rw [upd_ne npK]; exact ob2⟩, upd_same, ⟨ts0, by rw [upd_ne nKD.symm]; exact eD2, awMap (fun _ _ e => tK _ _ (t2 _ _ e)) ets0⟩, h1, h2⟩, fun c o n1 n2 e => by rw [upd_ne n1]; exact k2 c o n2 e⟩
    obtain ⟨t, o⟩ := e
    cases o with
    | none =>
      refine ⟨.non, rfl, rfl, _, rfl, iteT ?_⟩
      obtain ⟨h1, h2⟩ := fin (dropK kvs (Sum.inr t)) (kv_drop hb.ok t) (Nat.le_trans (dropK_len _ _) hb.few)
      exact ⟨.ref p, rfl, p, C, dx, _, _, rfl, ob2, T.cl, T.nK, bF_kept _ _ _, .str t, rfl, Kd, kvs, Sum.inr t, rfl, eK2, rfl, hk rfl, q _ h1 h2⟩
    | some r =>
      refine ⟨.ref r, rfl, rfl, _, rfl, iteF ?_⟩
      obtain ⟨h1, h2⟩ := fin (putK kvs (Sum.inr t) (.ref r)) (kv_put hb.ok t r) (Nat.le_trans (putK_len _ _ _) (by omega))
      have hl3 : kvs.length < sizeLine := by rw [sizeLine_eq]; omega
      exact ⟨.ref r, rfl, .ref p, rfl, p, C, dx, _, _, rfl, ob2, T.cl, T.nK, bF_kept _ _ _, .str t, rfl, Kd, _, rfl, DPut.k (k := Sum.inr t) eK2 hl3, q _ h1 h2⟩
def kvE (g : Str → V) (ks : List Str) : Kvs := ks.map fun t => ((Sum.inr t : Key), g t)
theorem kvE_keys (g : Str → V) (ks : List Str) : (kvE g ks).map (·.1) = ks.map Sum.inr := by
  unfold kvE
  rw [List.map_map]
  rfl
theorem kvE_len (g : Str → V) (ks : List Str) : (kvE g ks).length = ks.length := List.length_map ..
theorem kvE_val (g : Str → V) (t : Str) : ∀ ks : List Str, valV (kvE g ks) (Sum.inr t) = if t ∈ ks then some (g t) else none
  | [] => rfl
  | x :: ks => by
    have ih := kvE_val g t ks
    by_cases h : x = t
    · subst h
      rw [if_pos List.mem_cons_self]
      exact valV_pos rfl
    · have e : valV (kvE g (x :: ks)) (Sum.inr t) = valV (kvE g ks) (Sum.inr t) := valV_neg fun z => h (Sum.inr.inj z)
      rw [e, ih]
      have hx : ¬ t = x := fun z => h z.symm
      by_cases ht : t ∈ ks
      · rw [if_pos ht, if_pos (List.mem_cons_of_mem _ ht)]
      · rw [if_neg ht, if_neg fun z => (List.mem_cons.mp z).elim hx ht]
theorem kvE_congr {g g' : Str → V} {ks : List Str} (h : ∀ t ∈ ks, g t = g' t) : kvE g ks = kvE g' ks := List.map_congr_left fun t ht => by rw [h t ht]
def keysPut (ks : List Str) (t : Str) : List Str := if t ∈ ks then ks else ks ++ [t]
def keysDrop (ks : List Str) (t : Str) : List Str := ks.filter fun x => decide (x ≠ t)
theorem kvE_put (g : Str → V) (ks : List Str) (t : Str) (v : V) : putK (kvE g ks) (Sum.inr t) v = kvE (fun x => if x = t then v else g x) (keysPut ks t) := by
  have ha : ((kvE g ks).any fun kv => decide (kv.1 = (Sum.inr t : Key))) = true ↔ t ∈ ks := by
    unfold kvE
    rw [List.any_map, List.any_eq_true]
    constructor
    · rintro ⟨x, h1, h2⟩
      have h2' : (Sum.inr x : Key) = Sum.inr t := of_decide_eq_true h2
      rw [← Sum.inr.inj h2']
      exact h1
    · intro h
      exact ⟨t, h, decide_eq_true rfl⟩
  unfold putK keysPut
  by_cases h : t ∈ ks
  · rw [if_pos (ha.mpr h), if_pos h]
    unfold kvE
    rw [List.map_map]
    refine List.map_congr_left fun x _ => ?_
    show (if (Sum.inr x : Key) = Sum.inr t then ((Sum.inr x : Key), v) else (Sum.inr x, g x)) = (Sum.inr x, if x = t then v else g x)
    by_cases e : x = t
    · subst e
      rw [if_pos rfl, if_pos rfl]
    · rw [if_neg fun z => e (Sum.inr.inj z), if_neg e]
  · rw [if_neg fun z => h (ha.mp z), if_neg h]
    unfold kvE
    rw [List.map_append]
    congr 1
    · refine List.map_congr_left fun x hx => ?_
      have e : ¬ x = t := fun z => h (z ▸ hx)
      show ((Sum.inr x : Key), g x) = (Sum.inr x, if x = t then v else g x)
      rw [if_neg e]
    · show [(Sum.inr t, v)] = [(Sum.inr t, if t = t then v else g t)]
      rw [if_pos rfl]
theorem kvE_drop (g : Str → V) (ks : List Str) (t : Str) : dropK (kvE g ks) (Sum.inr t) = kvE g (keysDrop ks t) := by
  unfold dropK kvE keysDrop
  rw [List.filter_map]
  congr 1
  refine List.filter_congr fun x _ => ?_
  show decide ((Sum.inr x : Key) ≠ Sum.inr t) = decide (x ≠ t)
  by_cases e : x = t
  · subst e
    simp
  · have : ¬ (Sum.inr x : Key) = Sum.inr t := fun z => e (Sum.inr.inj z)
    simp [e, this]
theorem kput_mem {ks : List Str} {t x : Str} : x ∈ keysPut ks t ↔ x = t ∨ x ∈ ks := by
  unfold keysPut
  by_cases h : t ∈ ks
  · rw [if_pos h]
    exact ⟨.inr, fun z => z.elim (fun e => e ▸ h) id⟩
  · rw [if_neg h, List.mem_append, List.mem_singleton, or_comm]
theorem kdrop_mem {ks : List Str} {t x : Str} : x ∈ keysDrop ks t ↔ x ≠ t ∧ x ∈ ks := by
  unfold keysDrop
  rw [List.mem_filter, and_comm]
  simp
theorem kput_nd {ks : List Str} (h : ks.Nodup) (t : Str) : (keysPut ks t).Nodup := by
  unfold keysPut
  by_cases e : t ∈ ks
  · rw [if_pos e]
    exact h
  · rw [if_neg e]
    exact List.nodup_append.mpr ⟨h, by simp, fun x hx y hy z => e (by rw [List.mem_singleton.mp hy] at z; exact z ▸ hx)⟩
theorem kdrop_nd {ks : List Str} (h : ks.Nodup) (t : Str) : (keysDrop ks t).Nodup := h.filter _
theorem subs_len {ks nms : List Str} (nd : ks.Nodup) (h : ∀ t ∈ ks, t ∈ nms) : ks.length ≤ nms.length := by
  induction ks generalizing nms with
  | nil => exact Nat.zero_le _
  | cons x ks ih =>
    obtain ⟨n1, n2⟩ := List.nodup_cons.mp nd
    have hx := h x List.mem_cons_self
    have := ih (nms := nms.erase x) n2 fun t ht => by
      have hne : t ≠ x := fun e => n1 (e ▸ ht)
      exact (List.mem_erase_of_ne hne).mpr (h t (List.mem_cons_of_mem _ ht))
    rw [List.length_erase_of_mem hx] at this
    have := List.length_pos_of_mem hx
    rw [List.length_cons]
    omega
def dK (d : Deed) : NestedKey := .tup (.text d.1 :: d.2.map .num)
def rowK (r : Rw) : NestedKey := .tup [.num r.m, .tup (r.ds.map dK), .num r.o]
theorem nkn_inj : ∀ {a b : List Int}, a.map NestedKey.num = b.map NestedKey.num → a = b
  | [], [], _ => rfl
  | [], _ :: _, h => by cases h
  | _ :: _, [], h => by cases h
  | x :: a, y :: b, h => by
    rw [List.map_cons, List.map_cons] at h
    injection h with h1 h2
    injection h1 with h1
    rw [h1, nkn_inj h2]
theorem dKs_inj : ∀ {a b : List Deed}, a.map dK = b.map dK → a = b
  | [], [], _ => rfl
  | [], _ :: _, h => by cases h
  | _ :: _, [], h => by cases h
  | x :: a, y :: b, h => by
    rw [List.map_cons, List.map_cons] at h
    injection h with h1 h2
    unfold dK at h1
    injection h1 with h1
    injection h1 with h3 h4
    injection h3 with h3
    rw [dKs_inj h2, Prod.ext h3 (nkn_inj h4)]
theorem rowK_inj {r s : Rw} (h : rowK r = rowK s) : r = s := by
  unfold rowK at h
  injection h with h
  injection h with h1 h
  injection h with h2 h
  injection h with h3 _
  injection h1 with h1
  injection h2 with h2
  injection h3 with h3
  cases r
  cases s
  simp only [Rw.mk.injEq]
  exact ⟨h1, dKs_inj h2, h3⟩
theorem nk_ints (H : Hp) : ∀ l : List Int, NkAll H (l.map .num) (l.map V.int)
  | [] => .nil
  | x :: l => .cons (.num x) (nk_ints H l)
theorem nk_deeds {H : Hp} : ∀ {rs : List Addr} {ds : List Deed}, DsAt H rs ds → NkAll H (ds.map dK) (rs.map V.ref)
  | _, _, .nil => .nil
  | _, _, .cons h t => .cons (.tup h (.cons (.str _) (nk_ints H _))) (nk_deeds t)
theorem ints_dep : ∀ l : List Int, NestedKey.depthAll (l.map .num) = 0
  | [] => rfl
  | x :: l => by simp [NestedKey.depthAll, NestedKey.depth, ints_dep l]
theorem deeds_dep : ∀ l : List Deed, NestedKey.depthAll (l.map dK) ≤ 1
  | [] => Nat.zero_le _
  | d :: l => by
    have := deeds_dep l
    simp only [List.map_cons, NestedKey.depthAll, dK, NestedKey.depth, ints_dep]
    omega
theorem key_row {H : Hp} {R : Addr} {r : Rw} (h : RwAt H R r) : KeyN H (.ref R) (rowK r) := by
  obtain ⟨D, rs, e1, e2, e3⟩ := h
  refine ⟨.tup e1 (.cons (.num _) (.cons (.tup e2 (nk_deeds e3)) (.cons (.num _) .nil))), ?_, R, rfl⟩
  have := deeds_dep r.ds
  simp only [rowK, NestedKey.depth, NestedKey.depthAll]
  omega
theorem stK_dep (row : MRow) : NestedKey.depthAll (row.map fun e => NestedKey.tup [.num e.1, .num e.2]) ≤ 1 := by
  induction row with
  | nil => exact Nat.zero_le _
  | cons x row ih =>
    simp only [List.map_cons, NestedKey.depthAll, NestedKey.depth]
    omega
theorem sts_dep : ∀ lm : List MRow, NestedKey.depthAll (lm.map stK) ≤ 2
  | [] => Nat.zero_le _
  | r :: lm => by
    have a := stK_dep r
    have b := sts_dep lm
    simp only [List.map_cons, NestedKey.depthAll, stK, NestedKey.depth] at a b ⊢
    omega
theorem key_look {H : Hp} {T : Addr} {m : Nat} {lm : List MRow} (h : NkAt H (lookK m lm) (.ref T)) : KeyN H (.ref T) (lookK m lm) := by
  refine ⟨h, ?_, T, rfl⟩
  have := sts_dep lm
  simp only [lookK, NestedKey.depth, NestedKey.depthAll]
  omega
/-- looks that are kept -/
structure LkE (H : Hp) (e : NE) : Prop where
  ex : ∃ (r : Rw) (lm : List MRow) (T : Addr), e.1 = rowK r ∧ e.2.2 = .ref T ∧ NkAt H (lookK r.m.toNat lm) (.ref T) ∧ LmOk r.m.toNat r.ds r.o lm
def LkAt (P : Program) (w : World) (H : Hp) (Lk : Addr) (n : Nat) : Prop := ∃ xs, ND P w H Lk xs ∧ xs.length ≤ n ∧ ∀ e ∈ xs, LkE H e
theorem LkE.stay {H H' : Hp} {e : NE} (h : LkE H e) (t : TupsStay H H') : LkE H' e := by
  obtain ⟨r, lm, T, h1, h2, h3, h4⟩ := h.ex
  exact ⟨r, lm, T, h1, h2, nk_stay t _ _ h3, h4⟩
theorem LkAt.stay {P : Program} {w : World} {H H' : Hp} {Lk : Addr} {n : Nat} (h : LkAt P w H Lk n) (k : ∀ o, H Lk = some o → H' Lk = some o) (t : TupsStay H H') : LkAt P w H' Lk n := by
  obtain ⟨xs, h1, h2, h3⟩ := h
  exact ⟨xs, nd_stay h1 (k _ h1.ob) t, h2, fun e he => (h3 e he).stay t⟩
theorem LkAt.same {P : Program} {w : World} {H H' : Hp} {Lk : Addr} {n : Nat} (h : LkAt P w H Lk n) (s : Same H H') : LkAt P w H' Lk n := h.stay (fun o e => s _ _ e) (Same.tups s)
/-- a look found, or none -/
theorem look_found {H : Hp} {xs : List NE} {r : Rw} {v : V} (h : ∀ e ∈ xs, LkE H e) (e : getN xs (rowK r) = some v) : ∃ (lm : List MRow) (T : Addr), v = .ref T ∧ NkAt H (lookK r.m.toNat lm) (.ref T) ∧ LmOk r.m.toNat r.ds r.o lm := by
  obtain ⟨b, hb⟩ := getN_some e
  obtain ⟨r', lm, T, h1, h2, h3, h4⟩ := (h _ hb).ex
  have h1' : rowK r = rowK r' := h1
  have h2' : v = .ref T := h2
  obtain rfl := rowK_inj h1'
  exact ⟨lm, T, h2', h3, h4⟩
section dcnit
variable {J : It} {n : Nat} {G : Hp → Prop} {Y : Nat → Hp → V → Hp → Prop}
theorem dcn_it {P : Program} {w0 : World} (w : Walk J n G Y) {g : TG} {tt : TT} {tk tv : TE} {vs : List Nat} {σ : L2.St} {H1 : Hp} {D : Addr} {Qd : Hp → Prop} (Pv : Nat → Hp → Prop) (h0 : Pv 0 (upd H1 D (NDO P w0 D []))) (hG : ∀ i H, i ≤ n → Pv i H → G H)
    (hs : ∀ i x H H', i < n → Pv i H → Y i H x H' → g x (wipe σ vs) H' fun σ2 H2 => wipe σ2 vs = wipe σ vs ∧ tt σ2 H2 fun b H3 =>
      if b = true then tk σ2 H3 fun y H4 => tv σ2 H4 fun z H5 => ∃ xs k b, y = .ref b ∧ ND P w0 H5 D xs ∧ KeyN H5 (.ref b) k ∧ xs.length < sizeLine ∧ Pv (i + 1) (upd H5 D (NDO P w0 D (putN xs k b z))) else Pv (i + 1) H3) (hd : ∀ H, Pv n H → Qd H) :
    ∃ W : Nat → Nat → Hp → Prop, (∃ m, W 0 m (upd H1 D (NDO P w0 D []))) ∧ ∀ i m H, W i m H →
      (J.stop i H ∧ Qd H) ∨ (J.go i H ∧ ∃ Nx : Hp → Prop, (∀ H', Nx H' → ∃ m', m' < m ∧ W (i + 1) m' H') ∧ ∀ x H', J.yld i H x H' → g x (wipe σ vs) H' fun σ2 H2 => wipe σ2 vs = wipe σ vs ∧ tt σ2 H2 fun b H3 =>
        if b = true then tk σ2 H3 fun y H4 => tv σ2 H4 fun z H5 => ∃ xs k b, y = .ref b ∧ ND P w0 H5 D xs ∧ KeyN H5 (.ref b) k ∧ xs.length < sizeLine ∧ Nx (upd H5 D (NDO P w0 D (putN xs k b z))) else Nx H3) := by
  refine ⟨fun i m H => m = n - i ∧ i ≤ n ∧ Pv i H, ⟨n, by simp, Nat.zero_le _, h0⟩, ?_⟩
  rintro i m H ⟨rfl, hi, p⟩
  have q := hG i H hi p
  by_cases hlt : i < n
  · refine .inr ⟨w.goes i H hlt q, Pv (i + 1), fun H' p' => ⟨n - (i + 1), by omega, rfl, hlt, p'⟩, fun x H' y => hs i x H H' hlt p (w.yields i H x H' hlt q y)⟩
  · have e : i = n := by omega
    subst e
    exact .inl ⟨w.stops H q, hd H p⟩
end dcnit
theorem putN_get (xs : List NE) (k j : NestedKey) (b : Addr) (v : V) : getN (putN xs k b v) j = if j = k then some v else getN xs j := by
  unfold putN
  cases e : getN xs k with
  | none =>
    rw [if_neg (by simp)]
    exact getN_snoc e
  | some u =>
    rw [if_pos (show (some u).isSome = true from rfl)]
    have key : ∀ xs : List NE, getN (xs.map fun x => if x.1 = k then (x.1, x.2.1, v) else x) j = if j = k then (getN xs k).map fun _ => v else getN xs j := by
      intro xs
      induction xs with
      | nil =>
        by_cases h : j = k
        · rw [if_pos h]
          rfl
        · rw [if_neg h]
          rfl
      | cons x xs ih =>
        unfold getN at ih ⊢
        rw [List.map_cons, List.find?_cons]
        by_cases hx : x.1 = k
        · rw [if_pos hx]
          by_cases h : j = k
          · subst h
            rw [if_pos rfl]
            simp [List.find?_cons, hx]
          · rw [if_neg h] at ih ⊢
            have n1 : ¬ k = j := fun z => h z.symm
            simp only [List.find?_cons, hx]
            simp only [n1, decide_false]
            exact ih
        · rw [if_neg hx]
          by_cases hj : x.1 = j
          · have h : ¬ j = k := fun z => hx (hj.trans z)
            rw [if_neg h]
            simp [List.find?_cons, hj]
          · by_cases h : j = k
            · subst h
              rw [if_pos rfl] at ih ⊢
              simp only [List.find?_cons, hx, decide_false]
              exact ih
            · rw [if_neg h] at ih ⊢
              simp only [List.find?_cons, hj, decide_false]
              exact ih
    rw [key, e]
    rfl
abbrev sBook_kinds : Stmt := inClass c_Book 7
abbrev N_Bk : List Str := ["self", "groups", "name", "look", "row"]
theorem scBk : FnScope N_Bk ["self"] (defScope sBook_kinds) := ⟨rfl, rfl, rfl, by decide +kernel, rfl, by decide +kernel, by decide +kernel⟩
theorem bF_new (Kd Dn Lk D : Addr) : putF "looks" (.ref D) (bF Kd Dn Lk) = bF Kd Dn D := by
  have h1 : (Str.ofString "kept" = Str.ofString "looks") = False := eq_false b_kl
  have h2 : (Str.ofString "done" = Str.ofString "looks") = False := eq_false b_dl
  have h3 : (Str.ofString "kept" = Str.ofString "done") = False := eq_false b_kd
  unfold bF
  simp only [putF, h1, h2, h3, if_false, if_true]
theorem grp_few {κ : Type} [DecidableEq κ] (lab : Str → κ) (ns : List Str) : ∀ g ∈ grpL lab ns, g.2.length ≤ ns.length := by
  have key : ∀ i, i ≤ ns.length → ∀ g ∈ grpL lab (ns.take i), g.2.length ≤ i := by
    intro i
    induction i with
    | zero =>
      intro _ g hg
      rw [List.take_zero] at hg
      cases hg
    | succ i ih =>
      intro hi g hg
      have hg0 := List.getElem?_eq_getElem (show i < ns.length by omega)
      rw [List.take_add_one, hg0] at hg
      have hg1 : g ∈ grpL lab (ns.take i ++ [ns[i]]) := hg
      rw [grpL_snoc] at hg1
      unfold addG at hg1
      split at hg1
      · obtain ⟨g0, h0, rfl⟩ := List.mem_map.mp hg1
        have := ih (by omega) g0 h0
        split
        · show (g0.2 ++ [_]).length ≤ _
          rw [List.length_append]
          exact Nat.add_le_add_right this 1
        · omega
      · rcases List.mem_append.mp hg1 with h | h
        · have := ih (by omega) g h
          omega
        · rw [List.mem_singleton.mp h]
          exact Nat.le_add_left 1 i
  have := key ns.length (Nat.le_refl _)
  rwa [List.take_length] at this
structure GrE (H H0 : Hp) (e : NE) (g : NestedKey × List Str) : Prop where
  key : e.1 = g.1
  lst : ∃ q, e.2.2 = .ref q ∧ H q = some (.lst (g.2.map V.str)) ∧ H0 q = none
theorem gr_stay {H H' H0 : Hp} (k : ∀ (q : Addr) (xs : List V), H q = some (.lst xs) → H' q = some (.lst xs)) {xs : List NE} {gs : Gs NestedKey} (h : Paired (GrE H H0) xs gs) : Paired (GrE H' H0) xs gs :=
  awMap (fun e g z => ⟨z.key, by obtain ⟨q, h1, h2, h3⟩ := z.lst; exact ⟨q, h1, k _ _ h2, h3⟩⟩) h
theorem gr_get {H H0 : Hp} {k : NestedKey} : ∀ {xs : List NE} {gs : Gs NestedKey}, Paired (GrE H H0) xs gs → (gs.map (·.1)).Nodup →
    (getN xs k = none ∧ ∀ g ∈ gs, ¬ g.1 = k) ∨ ∃ (q : Addr) (g : NestedKey × List Str), getN xs k = some (.ref q) ∧ H q = some (.lst (g.2.map V.str)) ∧ g ∈ gs ∧ g.1 = k ∧ ∀ g' ∈ gs, g'.1 = k → g' = g
  | _, _, .nil, _ => .inl ⟨rfl, fun _ z => nomatch z⟩
  | _, _, .cons (a := x) (b := g) (l₁ := xs) (l₂ := gs) h t, nd => by
    rw [List.map_cons, List.nodup_cons] at nd
    obtain ⟨n1, n2⟩ := nd
    by_cases e : g.1 = k
    · refine .inr ?_
      obtain ⟨q, h1, h2, _⟩ := h.lst
      refine ⟨q, g, ?_, h2, List.mem_cons_self, e, fun g' hg' e' => ?_⟩
      · unfold getN
        rw [List.find?_cons, decide_eq_true (h.key.trans e)]
        show some x.2.2 = _
        rw [h1]
      · rcases List.mem_cons.mp hg' with rfl | hg'
        · rfl
        · exact absurd (List.mem_map.mpr ⟨g', hg', e'.trans e.symm⟩) n1
    · have en : getN (x :: xs) k = getN xs k := by
        unfold getN
        rw [List.find?_cons, decide_eq_false fun z => e (h.key.symm.trans z)]
      rw [en]
      rcases gr_get t n2 with ⟨a, b⟩ | ⟨q, g0, a, b, c, d, f⟩
      · refine .inl ⟨a, fun g' hg' => ?_⟩
        rcases List.mem_cons.mp hg' with rfl | hg'
        · exact e
        · exact b g' hg'
      · refine .inr ⟨q, g0, a, b, List.mem_cons_of_mem _ c, d, fun g' hg' e' => ?_⟩
        rcases List.mem_cons.mp hg' with rfl | hg'
        · exact absurd e' e
        · exact f g' hg' e'
theorem gr_put {H H' H0 : Hp} {k : NestedKey} {b q0 : Addr} {t : Str} {xs : List NE} {gs : Gs NestedKey} (h : Paired (GrE H H0) xs gs) (st : ∀ (q : Addr) (xs : List V), H q = some (.lst xs) → H' q = some (.lst xs)) (hq0 : H0 q0 = none)
    (hn : getN xs k = none → H' q0 = some (.lst ([t].map V.str))) (ho : ∀ g ∈ gs, g.1 = k → H' q0 = some (.lst ((g.2 ++ [t]).map V.str))) : Paired (GrE H' H0) (putN xs k b (.ref q0)) (addG gs k t) := by
  have an : (getN xs k).isSome = (gs.any fun g => decide (g.1 = k)) := by
    clear hn ho st
    induction h with
    | nil => rfl
    | cons h1 h2 ih =>
      rename_i x g xs gs
      rw [List.any_cons, ← ih]
      unfold getN
      rw [List.find?_cons, h1.key]
      by_cases e : g.1 = k
      · rw [decide_eq_true e]
        rfl
      · rw [decide_eq_false e]
        rfl
  unfold putN addG
  rw [← an]
  by_cases e : (getN xs k).isSome = true
  · rw [if_pos e, if_pos e]
    clear an hn e
    induction h with
    | nil => exact .nil
    | cons h1 h2 ih =>
      rename_i x g xs gs
      rw [List.map_cons, List.map_cons]
      refine .cons ?_ (ih fun g' hg' => ho g' (List.mem_cons_of_mem _ hg'))
      by_cases e : g.1 = k
      · rw [if_pos (h1.key.trans e), if_pos e]
        exact ⟨h1.key, q0, rfl, ho g List.mem_cons_self e, hq0⟩
      · rw [if_neg fun z => e (h1.key.symm.trans z), if_neg e]
        obtain ⟨q, a, b', c⟩ := h1.lst
        exact ⟨h1.key, q, a, st _ _ b', c⟩
  · rw [if_neg e, if_neg e]
    have e2 : getN xs k = none := by
      cases e3 : getN xs k with
      | none => rfl
      | some _ => rw [e3] at e; exact absurd rfl e
    exact awSnoc (F := GrE H' H0) ⟨rfl, q0, rfl, hn e2, hq0⟩ (gr_stay st h)
abbrev GqAt (H : Hp) : List Addr → List (List Str) → Prop := Paired fun q g => H q = some (.lst (g.map V.str))
def spBk (P : Program) (w : World) (C : Addr) : Sp := fun vs H Q _ => ∃ (p Kd Dn Lk : Addr) (dn : List Dn1) (ks : List Str) (adr : Str → Addr) (rowf : Str → Rw) (n : Nat), vs = [.ref p] ∧ BkAt C H p Kd Dn Lk (kvE (fun t => .ref (adr t)) ks) dn ∧ LkAt P w H Lk n ∧ ks.Nodup ∧ ks.length < 64 ∧ (∀ t ∈ ks, RwAt H (adr t) (rowf t) ∧ RwOk (rowf t)) ∧
  ∀ (H' : Hp) (L D : Addr) (qs : List Addr) (ys : List Str) (lab : Str → List MRow), ys.Perm ks → Up ys → (∀ t ∈ ks, LmOk (rowf t).m.toNat (rowf t).ds (rowf t).o (lab t)) → H' L = some (.lst (qs.map V.ref)) → GqAt H' qs ((grpL (fun t => lookK (rowf t).m.toNat (lab t)) ys).map (·.2)) →
    H L = none → (∀ q ∈ qs, H q = none ∧ q ≠ L) → qs.Nodup → BkAt C H' p Kd Dn D (kvE (fun t => .ref (adr t)) ks) dn → LkAt P w H' D 64 → H D = none → D ≠ L → D ∉ qs → (∀ c o, c ≠ p → H c = some o → H' c = some o) → Q (.ref L) H'
set_option maxHeartbeats 4000000 in
theorem ok_bk {f fN fL C : Addr} {fd fdN fdL : FuncData} {k : Nat} (F : Fun K "kinds" "Book.kinds" sBook_kinds f fd) (T : BCls K mg C)
    (MN : Meth K C "names" fN) (GN : FnOk P w K mg base CX0 (k + 1) fN fdN ["self"] (spBn C)) (bN : Binds K fdN ["self"] [])
    (GL : FnOk P w K mg base CX0 (k + 7) fL fdL ["row"] spLk) (kL : PySem.W.keepIn K (.ref fL) = true) (bL : Binds K fdL ["row"] []) (gL : mg "look_of" = some (.ref fL))
    (ms : mg "sorted" = none) : FnOk P w K mg base CX0 (k + 8) f fd ["self"] (spBk P w C) := by
  refine F.ok scBk (fun vs H Q E h => ?_) (fun cdv A outer s H vs Q E hr h => ?_)
  · obtain ⟨p, Kd, Dn, Lk, dn, ks, adr, rowf, n, rfl, _⟩ := h
    rfl
  · obtain ⟨p, Kd, Dn, Lk, dn, ks, adr, rowf, n, rfl, hb, hlk, nd, h64, hrows, qq⟩ := h
    have hu := hr.units
    have R1 := hr.mono (show k + 1 ≤ k + 7 by omega)
    refine ⟨_, pss_cons (ps_fld (pv 0) (pe_lock (pe_dcN (P := P) (w := w) (own := [("row", 4)]) (g := gName 4) (tv := tOrT K (tNGet1 P w (tFld K (tVar 0) "looks") (tVar 4)) (tCall spLk [] E0 (tCons (tVar 4) tNil))) rfl rfl hu (by rfl) scBk.nd (pi_values (pe_fld (pv 0) rfl)) (blkOk_by (own := [("row", 4)]) (N := N_Bk) (sc := defScope sBook_kinds) (by decide +kernel)) (fun _ _ _ _ _ => pg_name (i := 4) scBk.nd rfl (Or.inl rfl)) (fun _ _ _ _ _ => pts_nil) (fun _ _ _ _ _ => pv 4)
        (fun _ _ _ _ _ => pe_orT (pe_ndget1 (P := P) (w := w) rfl rfl hu (pe_fld (pv 0) rfl) (pv 4) ⟨rfl, rfl, rfl, rfl⟩) (pe_one (pe_call GL hr (by rfl) gL kL bL .nil pass0 (pa_cons (pv 4) pa_nil)))))) rfl)
      (pss_cons (ps_set (i := 1) scBk.nd rfl (.inl rfl) (pe_ndnew (P := P) (w := w) rfl rfl))
      (pss_cons (ps_for PassesOwn.never rfl (pi_list (pe_meth0 (pv 0) T.cl MN GN R1 bN .nil pass0)) (pg_name (i := 2) scBk.nd rfl (.inl rfl))
        (pss_cons (ps_set (i := 3) scBk.nd rfl (.inl rfl) (pe_ndget (P := P) (w := w) rfl rfl hu (pe_fld (pv 0) rfl) (pe_dget (hu_of hr) (pe_fld (pv 0) rfl) (pv 2) (fun _ _ => rfl)) (fun _ _ => rfl)))
        (pss_one (ps_ndputA (P := P) (w := w) rfl rfl hu (pv 1) (pv 3) (pe_op op_cat (pe_ndget2 (P := P) (w := w) rfl rfl hu (pv 1) (pv 3) (pe_lst pa_nil) ⟨rfl, rfl, rfl, rfl⟩) (pe_lst (pa_cons (pv 2) pa_nil))) rfl))))
      (pss_one (ps_ret (pe_callB (call_sortedVN (P := P) (w := w) rfl rfl (by rfl) hu) (by rfl) ms (by decide +kernel) (pa_cons (pe_nvals (P := P) (w := w) rfl rfl (pv 1)) pa_nil)))))), ?_⟩
    obtain ⟨dx, ob⟩ := hb.ob
    obtain ⟨lx, ndL, _, hlx⟩ := hlk
    have npK : p ≠ Kd := ne_of ob hb.kept (fun z => nomatch z)
    have nLK : Lk ≠ Kd := ne_of ndL.ob hb.kept (fun z => nomatch z)
    have npL : p ≠ Lk := ne_of ob ndL.ob (fun z => nomatch z)
    refine ⟨Kd, _, hb.kept, trivial, fun od => ?_⟩
    have sL : ∀ c o, c ≠ Kd → H c = some o → upd H Kd (.frz od (.dK (kvE (fun t => .ref (adr t)) ks))) c = some o := fun c o n e => by
      rw [upd_ne n]
      exact e
    have eKL : upd H Kd (.frz od (.dK (kvE (fun t => .ref (adr t)) ks))) Kd = some (.frz od (.dK (kvE (fun t => .ref (adr t)) ks))) := upd_same
    generalize upd H Kd (.frz od (.dK (kvE (fun t => .ref (adr t)) ks))) = HL at sL eKL
    have tL : TupsStay H HL := fun c xs e => sL c _ (ne_of e hb.kept (fun z => nomatch z)) e
    have obL := sL _ _ npK ob
    have ndLL : ND P w HL Lk lx := nd_stay ndL (sL _ _ nLK ndL.ob) tL
    have hlxL : ∀ e ∈ lx, LkE HL e := fun e he => (hlx e he).stay tL
    have kl : (kvE (fun t => V.ref (adr t)) ks).length = ks.length := kvE_len _ _
    have hrowsL : ∀ t ∈ ks, RwAt HL (adr t) (rowf t) := fun t ht => tL.row (hrows t ht).1
    refine ⟨.ref p, rfl, p, C, dx, _, _, rfl, obL, T.cl, T.nK, bF_kept _ _ _, Kd, od, _, rfl, eKL, fun D hD => ?_⟩
    have hD0 : H D = none := by
      cases e : H D with
      | none => rfl
      | some o =>
        by_cases z : D = Kd
        · rw [z, eKL] at hD
          cases hD
        · rw [sL _ o z e] at hD
          cases hD
    have sD := same_new (o := NDO P w D []) hD
    refine dcn_it walk_values (fun i H5 => ∃ xs, ND P w H5 D xs ∧ xs.length ≤ i ∧ (∀ e ∈ xs, LkE H5 e) ∧ (∀ (j : Nat) (t : Str), j < i → ks[j]? = some t → (getN xs (rowK (rowf t))).isSome = true) ∧ Same HL H5)
      ⟨[], ⟨upd_same, (fun _ z => nomatch z)⟩, Nat.zero_le _, (fun _ z => nomatch z), (fun j t z => absurd z (Nat.not_lt_zero _)), sD⟩ (fun i H5 _ hp => ?_) (fun i x H5 H6 hi hp hy => ?_) (fun H5 hp => ?_)
    · obtain ⟨_, _, _, _, _, s5⟩ := hp
      exact s5 _ _ eKL
    · obtain ⟨xs, nd5, l5, lk5, in5, s5⟩ := hp
      obtain ⟨rfl, k0, hk0⟩ := hy
      rw [kl] at hi
      have hki : ks[i]? = some ks[i] := List.getElem?_eq_getElem hi
      obtain ⟨t, ht⟩ : ∃ t, t = ks[i] := ⟨_, rfl⟩
      rw [← ht] at hki
      have hx : x = .ref (adr t) := by
        unfold kvE at hk0
        rw [List.getElem?_map, hki] at hk0
        exact (Prod.mk.inj (Option.some.inj hk0)).2.symm
      subst hx
      have htm := List.mem_of_getElem? hki
      have hrow5 : RwAt H6 (adr t) (rowf t) := (Same.tups s5).row (hrowsL t htm)
      have hlen : xs.length < sizeLine := by rw [sizeLine_eq]; omega
      have nDL : D ≠ Lk := (ne_of_none ndLL.ob hD).symm
      have fin : ∀ (H7 : Hp) (T2 : Addr) (lm : List MRow), Same H6 H7 → NkAt H7 (lookK (rowf t).m.toNat lm) (.ref T2) → LmOk (rowf t).m.toNat (rowf t).ds (rowf t).o lm → ∃ xs k b, V.ref (adr t) = .ref b ∧ ND P w H7 D xs ∧ KeyN H7 (.ref b) k ∧ xs.length < sizeLine ∧
          ∃ xs', ND P w (upd H7 D (NDO P w D (putN xs k b (.ref T2)))) D xs' ∧ xs'.length ≤ i + 1 ∧ (∀ e ∈ xs', LkE (upd H7 D (NDO P w D (putN xs k b (.ref T2)))) e) ∧ (∀ (j : Nat) (t : Str), j < i + 1 → ks[j]? = some t → (getN xs' (rowK (rowf t))).isSome = true) ∧ Same HL (upd H7 D (NDO P w D (putN xs k b (.ref T2)))) := fun H7 T2 lm s7 nk lok => by
        have nd7 := nd_same nd5 s7
        have kr := key_row ((Same.tups s7).row hrow5)
        have np := nd_putA (v := .ref T2) nd7 kr
        have tp : TupsStay H7 (upd H7 D (NDO P w D (putN xs (rowK (rowf t)) (adr t) (.ref T2)))) := fun c ys e => by
          rw [upd_ne (ne_of e nd7.ob (fun z => nomatch z))]
          exact e
        have pl := putN_len xs (rowK (rowf t)) (adr t) (.ref T2)
        refine ⟨xs, rowK (rowf t), adr t, rfl, nd7, kr, hlen, _, np, by omega, fun e he => ?_, fun j t' hj ht' => ?_, fun c o z => ?_⟩
        · have new : LkE (upd H7 D (NDO P w D (putN xs (rowK (rowf t)) (adr t) (.ref T2)))) (rowK (rowf t), adr t, .ref T2) := ⟨⟨rowf t, lm, T2, rfl, rfl, nk_stay tp _ _ nk, lok⟩⟩
          unfold putN at he
          split at he
          · obtain ⟨e0, h0, rfl⟩ := List.mem_map.mp he
            by_cases z : e0.1 = rowK (rowf t)
            · rw [if_pos z]
              obtain ⟨⟨r, lm', T', a, b, c, d⟩⟩ := new
              exact ⟨r, lm', T', z.trans a, b, c, d⟩
            · rw [if_neg z]
              exact ((lk5 e0 h0).stay (Same.tups s7)).stay tp
          · rcases List.mem_append.mp he with he | he
            · exact ((lk5 e he).stay (Same.tups s7)).stay tp
            · rw [List.mem_singleton.mp he]
              exact new
        · rw [putN_get]
          by_cases z : rowK (rowf t') = rowK (rowf t)
          · rw [if_pos z]
            rfl
          · rw [if_neg z]
            by_cases y : j = i
            · subst y
              rw [hki] at ht'
              rw [← Option.some.inj ht'] at z
              exact absurd rfl z
            · exact in5 j t' (by omega) ht'
        · have nz : c ≠ D := ne_of_none z hD
          rw [upd_ne nz]
          exact s7 _ _ (s5 _ _ z)
      refine ⟨rfl, .ref (adr t), rfl, .ref p, rfl, p, C, dx, _, _, rfl, s5 _ _ obL, T.cl, T.nL, bF_looks _ _ _, Lk, lx, rfl, nd_same ndLL s5, .ref (adr t), rfl, lx, rowK (rowf t), nd_same ndLL s5, key_row hrow5, ?_⟩
      cases e : getN lx (rowK (rowf t)) with
      | some v =>
        obtain ⟨lm, T2, rfl, nk, lok⟩ := look_found (fun e he => (hlxL e he).stay (Same.tups s5)) e
        obtain ⟨xs2, e2⟩ : ∃ xs2, H6 T2 = some (.tup xs2) ∧ xs2.isEmpty = false := by
          unfold lookK at nk
          cases nk with
          | tup e hs =>
            cases hs with
            | cons a b => exact ⟨_, e, rfl⟩
        refine ⟨true, .inr (.inl ⟨xs2, SqT.of e2.1, by rw [e2.2]; rfl⟩), iteT ?_⟩
        exact fin H6 T2 lm (Same.refl H6) nk lok
      | none =>
        refine ⟨false, rfl, iteF ?_⟩
        have ok := (hrows t htm).2
        have hm : (((rowf t).m.toNat : Nat) : Int) = (rowf t).m := by
          have : (1 : Int) ≤ (rowf t).m := ok.m1
          omega
        refine ⟨.ref (adr t), rfl, adr t, (rowf t).m.toNat, (rowf t).o, (rowf t).ds, rfl, by rw [hm]; exact hrow5, by rw [hm]; exact ok, fun H7 T2 lm s7 lok nk => ?_⟩
        exact fin H7 T2 lm s7 nk lok
    · obtain ⟨xs, nd5, l5, lk5, in5, s5⟩ := hp
      rw [kl] at l5 in5
      refine ⟨s5 _ _ eKL, ?_⟩
      have nDK : D ≠ Kd := fun z => by rw [z, eKL] at hD; cases hD
      have npD : p ≠ D := ne_of_none obL hD
      have k6 : ∀ c o, c ≠ Kd → H5 c = some o → upd H5 Kd (.dK (kvE (fun t => .ref (adr t)) ks)) c = some o := fun c o n e => by
        rw [upd_ne n]
        exact e
      have eK6 : upd H5 Kd (.dK (kvE (fun t => .ref (adr t)) ks)) Kd = some (.dK (kvE (fun t => .ref (adr t)) ks)) := upd_same
      have t6 : TupsStay H5 (upd H5 Kd (.dK (kvE (fun t => .ref (adr t)) ks))) := fun c xs e => k6 c _ (ne_of e (s5 _ _ eKL) (fun z => nomatch z)) e
      have s6 : Same H (upd H5 Kd (.dK (kvE (fun t => .ref (adr t)) ks))) := fun c o e => by
        by_cases z : c = Kd
        · rw [z, hb.kept] at e
          rw [z, ← e]
          exact eK6
        · exact k6 _ _ z (s5 _ _ (sL _ _ z e))
      have nd6 : ND P w (upd H5 Kd (.dK (kvE (fun t => .ref (adr t)) ks))) D xs := nd_stay nd5 (k6 _ _ nDK nd5.ob) t6
      have lk6 := fun e he => (lk5 e he).stay t6
      generalize upd H5 Kd (.dK (kvE (fun t => .ref (adr t)) ks)) = H6 at eK6 s6 nd6 lk6
      clear k6 t6 nd5 lk5 s5 hlxL ndLL obL tL hrowsL eKL sL sD
      refine ⟨.ref p, rfl, p, C, dx, _, rfl, s6 _ _ ob, T.cl, T.nL, (by show 3 < 1000; decide), ?_⟩
      rw [bF_new]
      have k7 : ∀ c o, c ≠ p → H6 c = some o → upd H6 p (.ins C dx (bF Kd Dn D)) c = some o := fun c o n e => by
        rw [upd_ne n]
        exact e
      have eP7 : upd H6 p (.ins C dx (bF Kd Dn D)) p = some (.ins C dx (bF Kd Dn D)) := upd_same
      have t7 : TupsStay H6 (upd H6 p (.ins C dx (bF Kd Dn D))) := fun c xs e => k7 c _ (ne_of e (s6 _ _ ob) (fun z => nomatch z)) e
      generalize upd H6 p (.ins C dx (bF Kd Dn D)) = H7 at k7 eP7 t7
      have keep : ∀ c o, c ≠ p → H c = some o → H7 c = some o := fun c o n e => k7 c o n (s6 _ _ e)
      have fresh : ∀ c, H7 c = none → H c = none := fun c z => by
        cases e : H c with
        | none => rfl
        | some o =>
          by_cases y : c = p
          · rw [y, eP7] at z
            cases z
          · rw [keep c o y e] at z
            cases z
      have tH7 : TupsStay H H7 := fun c xs e => keep c _ (ne_of e ob (fun z => nomatch z)) e
      have nd7 : ND P w H7 D xs := nd_stay nd6 (k7 _ _ npD.symm nd6.ob) t7
      have lk7 : ∀ e ∈ xs, LkE H7 e := fun e he => (lk6 e he).stay t7
      obtain ⟨ts, eDn, hts⟩ := hb.done
      have hb7 : BkAt C H7 p Kd Dn D (kvE (fun t => .ref (adr t)) ks) dn := ⟨⟨dx, eP7⟩, keep _ _ npK.symm hb.kept, ⟨ts, keep _ _ (ne_of eDn ob (fun z => nomatch z)) eDn, awMap (fun _ _ e => tH7 _ _ e) hts⟩, hb.ok, hb.few⟩
      have hrows7 : ∀ t ∈ ks, RwAt H7 (adr t) (rowf t) := fun t ht => tH7.row (hrows t ht).1
      clear t7 tH7 nd6 lk6 hrows hts eDn ndL hlx
      -- what each name's row looks like
      have lookt : ∀ t, ∃ lm : List MRow, t ∈ ks → ∃ T2 : Addr, getN xs (rowK (rowf t)) = some (.ref T2) ∧ NkAt H7 (lookK (rowf t).m.toNat lm) (.ref T2) ∧ LmOk (rowf t).m.toNat (rowf t).ds (rowf t).o lm := fun t => by
        by_cases ht : t ∈ ks
        · obtain ⟨j, hj⟩ := List.mem_iff_getElem?.mp ht
          have jl := (List.getElem?_eq_some_iff.mp hj).1
          have := in5 j t jl hj
          cases e : getN xs (rowK (rowf t)) with
          | none => rw [e] at this; cases this
          | some v =>
            obtain ⟨lm, T2, rfl, nk, lok⟩ := look_found lk7 e
            exact ⟨lm, fun _ => ⟨T2, rfl, nk, lok⟩⟩
        · exact ⟨[], fun z => absurd z ht⟩
      obtain ⟨lab, hlab⟩ : ∃ lab : Str → List MRow, ∀ t, t ∈ ks → ∃ T2 : Addr, getN xs (rowK (rowf t)) = some (.ref T2) ∧ NkAt H7 (lookK (rowf t).m.toNat (lab t)) (.ref T2) ∧ LmOk (rowf t).m.toNat (rowf t).ds (rowf t).o (lab t) := ⟨fun t => (lookt t).choose, fun t => (lookt t).choose_spec⟩
      clear lookt in5
      obtain ⟨lk, hlk⟩ : ∃ lk : Str → NestedKey, lk = fun t => lookK (rowf t).m.toNat (lab t) := ⟨_, rfl⟩
      intro Gd hGd
      have sG := same_new (o := NDO P w Gd []) hGd
      have hGd0 := fresh _ hGd
      have ndG : ND P w (upd H7 Gd (NDO P w Gd [])) Gd [] := nd_nil
      generalize upd H7 Gd (NDO P w Gd []) = H8 at sG ndG
      have nGp : Gd ≠ p := (ne_of_none eP7 hGd).symm
      refine ⟨.ref p, rfl, p, dx, _, rfl, sG _ _ eP7, bF_no _ _ _ (by decide +kernel) (by decide +kernel) (by decide +kernel), p, Kd, Dn, D, _, dn, ks, rfl, hb7.same sG, kvE_keys _ _, h64, fun ys Ln pm srt hLn => ?_⟩
      have hup : Up ys := up_sorted srt (pm.nodup_iff.mpr nd)
      have ymem : ∀ t ∈ ys, t ∈ ks := fun t ht => pm.mem_iff.mp ht
      have yl : ys.length = ks.length := pm.length_eq
      have nLG : Ln ≠ Gd := (ne_of_none ndG.ob hLn).symm
      have sN := same_new (o := .lst (ys.map V.str)) hLn
      refine ⟨Ln, rfl, ⟨_, .inl (.inl upd_same)⟩, for_list (K := K) (a := Ln) (xs := ys.map V.str) (fun j σ H9 => ∃ (y2 y3 : Option V) (gx : List NE), σ = [some (.ref p), some (.ref Gd), y2, y3, none] ∧ ND P w H9 Gd gx ∧ gx.length ≤ j ∧ Paired (GrE H9 H) gx (grpL lk (ys.take j)) ∧ ∀ c o, c ≠ Gd → upd H8 Ln (.lst (ys.map V.str)) c = some o → H9 c = some o)
        ⟨none, none, [], rfl, nd_same ndG sN, Nat.zero_le _, .nil, fun _ _ _ z => z⟩ (fun j σ H9 _ hp => ?_) (fun j x σ H9 hx hp => ?_) (fun σ H9 hp => ?_)⟩
      · obtain ⟨_, _, _, _, _, _, _, st⟩ := hp
        exact .inl (.inl (st _ _ nLG upd_same))
      · obtain ⟨y2, y3, gx, rfl, nd9, l9, gr9, st⟩ := hp
        rw [List.getElem?_map] at hx
        obtain ⟨t, ht, rfl⟩ := Option.map_eq_some_iff.mp hx
        have tm := ymem t (List.mem_of_getElem? ht)
        have jl := (List.getElem?_eq_some_iff.mp ht).1
        obtain ⟨T2, g2, nk2, lok⟩ := hlab t tm
        have s79 : ∀ c o, c ≠ Gd → H7 c = some o → H9 c = some o := fun c o n e => st c o n (sN _ _ (sG _ _ e))
        have t79 : TupsStay H7 H9 := fun c xs e => s79 c _ (ne_of_none e hGd) e
        have obj9 := s79 _ _ nGp.symm eP7
        have nd9D : ND P w H9 D xs := nd_stay nd7 (s79 _ _ (ne_of_none nd7.ob hGd) nd7.ob) t79
        have dg : DGet H9 Kd (.str t) (some (.ref (adr t))) := by
          have := DGet.k (k := Sum.inr t) (s79 _ _ (ne_of_none hb7.kept hGd) hb7.kept)
          rw [kvE_val, if_pos tm] at this
          exact this
        have nkl : NkAt H9 (lk t) (.ref T2) := by rw [hlk]; exact nk_stay t79 _ _ nk2
        have ky : KeyN H9 (.ref T2) (lk t) := by rw [hlk] at nkl ⊢; exact key_look nkl
        have nds : ((grpL lk (ys.take j)).map (·.1)).Nodup := (grp_ok lk (hup.sublist (List.take_sublist j ys))).nd
        refine ⟨.ref p, rfl, p, C, dx, _, _, rfl, obj9, T.cl, T.nL, bF_looks _ _ _, .ref p, rfl, p, C, dx, _, _, rfl, obj9, T.cl, T.nK, bF_kept _ _ _, .str t, rfl, Kd, .ref (adr t), rfl, dg, D, xs, rowK (rowf t), .ref T2, rfl, nd9D, key_row (t79.row (hrows7 t tm)), g2, ?_⟩
        refine ⟨.ref Gd, rfl, Gd, gx, rfl, nd9, .ref T2, rfl, (by show 0 ≤ sizeLine; decide), fun Z hZ => ?_⟩
        have sZ := same_new (o := .lst []) hZ
        refine ⟨gx, lk t, nd_same nd9 sZ, ⟨nk_stay (Same.tups sZ) _ _ ky.1, ky.2.1, T2, rfl⟩, ?_⟩
        have grZ := gr_stay (fun q xs e => sZ _ _ e) gr9
        have eZ : upd H9 Z (.lst []) Z = some (.lst []) := upd_same
        have ndZ := nd_same nd9 sZ
        have kyZ : KeyN (upd H9 Z (.lst [])) (.ref T2) (lk t) := ⟨nk_stay (Same.tups sZ) _ _ ky.1, ky.2.1, T2, rfl⟩
        have stZ : ∀ c o, c ≠ Gd → upd H8 Ln (.lst (ys.map V.str)) c = some o → upd H9 Z (.lst []) c = some o := fun c o n e => sZ _ _ (st c o n e)
        generalize upd H9 Z (.lst []) = H10 at grZ eZ ndZ kyZ stZ
        -- what stands there
        obtain ⟨q, old, eq, eo, hn, ho⟩ : ∃ (q : Addr) (old : List Str), (getN gx (lk t)).getD (.ref Z) = .ref q ∧ H10 q = some (.lst (old.map V.str)) ∧ (getN gx (lk t) = none → old = []) ∧ ∀ g ∈ grpL lk (ys.take j), g.1 = lk t → g.2 = old := by
          rcases gr_get (k := lk t) grZ nds with ⟨a, b⟩ | ⟨q, g, a, b, c, d, e⟩
          · exact ⟨Z, [], by rw [a]; rfl, eZ, fun _ => rfl, fun g hg e => absurd e (b g hg)⟩
          · exact ⟨q, g.2, by rw [a]; rfl, b, (fun z => by rw [a] at z; cases z), fun g' hg' e' => by rw [e g' hg' e']⟩
        have ol : old.length ≤ 64 := by
          by_cases hnn : getN gx (lk t) = none
          · rw [hn hnn]
            exact Nat.zero_le _
          · rcases gr_get (k := lk t) grZ nds with ⟨a, _⟩ | ⟨q', g, _, _, c, d, _⟩
            · exact absurd a hnn
            · rw [← ho g c d]
              have := grp_few lk (ys.take j) g c
              rw [List.length_take] at this
              omega
        rw [eq]
        refine ⟨.str t, rfl, (by show 1 ≤ sizeLine; decide), fun Y hY => ?_⟩
        have sY := same_new (o := .lst [.str t]) hY
        refine ⟨q, Y, _, _, rfl, rfl, sY _ _ eo, upd_same, (by rw [List.length_map]; exact Nat.le_of_lt (small1000 (by show old.length + 1 ≤ 1000; omega))), fun U hU => ?_⟩
        have sU := same_new (o := .lst (old.map V.str ++ [.str t])) hU
        have s12 := sY.trans sU
        have eU : upd (upd H10 Y (.lst [.str t])) U (.lst (old.map V.str ++ [.str t])) U = some (.lst ((old ++ [t]).map V.str)) := by
          rw [upd_same, List.map_append]
          rfl
        have hU0 : H U = none := by
          have nU : upd (upd H10 Y (.lst [.str t])) U (.lst (old.map V.str ++ [.str t])) U ≠ none := fun z => by rw [eU] at z; cases z
          cases e : H U with
          | none => rfl
          | some o =>
            exfalso
            have : H10 U = none := sY.free hU
            by_cases z : U = p
            · rw [z, stZ _ _ nGp.symm (sN _ _ (sG _ _ eP7))] at this
              cases this
            · have y : H7 U = some o := keep U o z e
              rw [stZ _ _ (ne_of_none y hGd) (sN _ _ (sG _ _ y))] at this
              cases this
        generalize upd (upd H10 Y (.lst [.str t])) U (.lst (old.map V.str ++ [.str t])) = H11 at s12 eU
        have nd11 := nd_same ndZ s12
        have ky11 : KeyN H11 (.ref T2) (lk t) := ⟨nk_stay (Same.tups s12) _ _ kyZ.1, kyZ.2.1, T2, rfl⟩
        refine ⟨.ref Gd, rfl, .ref T2, rfl, Gd, gx, lk t, T2, rfl, nd11, rfl, ky11, by rw [sizeLine_eq]; omega, ?_⟩
        have np := nd_putA (v := .ref U) nd11 ky11
        have tk : ys.take (j + 1) = ys.take j ++ [t] := by
          rw [List.take_add_one, ht]
          rfl
        refine ⟨_, _, _, rfl, np, Nat.le_trans (putN_len _ _ _ _) (by omega), ?_, fun c o n e => ?_⟩
        · rw [tk, grpL_snoc]
          have up11 : ∀ (q : Addr) (xs : List V), H11 q = some (.lst xs) → upd H11 Gd (NDO P w Gd (putN gx (lk t) T2 (.ref U))) q = some (.lst xs) := fun q xs e => by
            rw [upd_ne (ne_of e nd11.ob (fun z => nomatch z))]
            exact e
          exact gr_put grZ (fun q xs e => up11 _ _ (s12 _ _ e)) hU0 (fun z => by rw [up11 _ _ eU, hn z]; rfl) (fun g hg e => by rw [up11 _ _ eU, ho g hg e])
        · rw [upd_ne n]
          exact s12 _ _ (stZ c o n e)
      · obtain ⟨y2, y3, gx, rfl, nd9, l9, gr9, st⟩ := hp
        rw [List.length_map, List.take_length] at gr9
        rw [List.length_map] at l9
        have gok := grp_ok lk hup
        have gl := awLen gr9
        refine ⟨.ref Gd, rfl, Gd, gx, rfl, nd9.ob, fun vp hvp => ?_⟩
        have sv := same_new (o := valsO vp Gd) hvp
        have grv := gr_stay (fun q xs e => sv _ _ e) gr9
        have ndv := sv _ _ nd9.ob
        refine ⟨vp, Gd, gx, (grpL lk ys).map (·.2), rfl, upd_same, ndv, ?_, gok.firsts, by rw [List.length_map]; omega, fun L hL => ?_⟩
        · refine prOf (by rw [List.length_map]; exact gl) fun i e g he hg => ?_
          rw [List.getElem?_map] at hg
          obtain ⟨g0, hg0, rfl⟩ := Option.map_eq_some_iff.mp hg
          obtain ⟨g1, h1, h2⟩ := awGet grv he
          rw [hg0] at h1
          obtain rfl := Option.some.inj h1
          obtain ⟨q, a, b, _⟩ := h2.lst
          exact ⟨q, a, b⟩
        have sL := same_new (o := .lst (gx.map (·.2.2))) hL
        obtain ⟨qs, hqs⟩ : ∃ qs : List Addr, gx.map (·.2.2) = qs.map V.ref := by
          clear ndv hvp hL sv sL nd9 l9 gl
          have key : ∀ {gx : List NE} {gs : Gs NestedKey} {G : Hp}, Paired (GrE G H) gx gs → ∃ qs : List Addr, gx.map (·.2.2) = qs.map V.ref := by
            intro gx gs G h
            induction h with
            | nil => exact ⟨[], rfl⟩
            | cons h1 _ ih =>
              obtain ⟨qs, e⟩ := ih
              obtain ⟨q, a, _⟩ := h1.lst
              exact ⟨q :: qs, by rw [List.map_cons, List.map_cons, e, a]⟩
          exact key gr9
        have stv : ∀ c o, c ≠ Gd → H7 c = some o → upd (upd H9 vp (valsO vp Gd)) L (.lst (gx.map (·.2.2))) c = some o := fun c o n e => sL _ _ (sv _ _ (st c o n (sN _ _ (sG _ _ e))))
        have sub7 : ∀ c o, H7 c = some o → c ≠ Gd := fun c o e => ne_of_none e hGd
        have hL0 : H L = none := by
          cases e : H L with
          | none => rfl
          | some o =>
            exfalso
            have h9 : H9 L = none := sv.free hL
            by_cases z : L = p
            · rw [z, st _ _ nGp.symm (sN _ _ (sG _ _ eP7))] at h9
              cases h9
            · have y : H7 L = some o := keep L o z e
              rw [st _ _ (sub7 _ _ y) (sN _ _ (sG _ _ y))] at h9
              cases h9
        have grL := gr_stay (fun q xs e => sL _ _ e) grv
        have qat : GqAt (upd (upd H9 vp (valsO vp Gd)) L (.lst (gx.map (·.2.2)))) qs ((grpL lk ys).map (·.2)) := by
          have ql : qs.length = gx.length := by
            have := congrArg List.length hqs
            rw [List.length_map, List.length_map] at this
            omega
          refine prOf (by rw [List.length_map]; omega) fun i q g hq hg => ?_
          rw [List.getElem?_map] at hg
          obtain ⟨g0, hg0, rfl⟩ := Option.map_eq_some_iff.mp hg
          obtain ⟨e, he, h2⟩ := awGet2 grL hg0
          obtain ⟨q', a, b, _⟩ := h2.lst
          have : (qs.map V.ref)[i]? = some e.2.2 := by rw [← hqs, List.getElem?_map, he]; rfl
          rw [List.getElem?_map, hq] at this
          have e2 : V.ref q = e.2.2 := Option.some.inj this
          rw [a] at e2
          rw [V.ref.inj e2]
          exact b
        have qnew : ∀ q ∈ qs, H q = none ∧ q ≠ L := fun q hq => by
          obtain ⟨i, hi⟩ := List.mem_iff_getElem?.mp hq
          have : (gx.map (·.2.2))[i]? = some (.ref q) := by rw [hqs, List.getElem?_map, hi]; rfl
          rw [List.getElem?_map] at this
          obtain ⟨e, he, e2⟩ := Option.map_eq_some_iff.mp this
          obtain ⟨g, hg, h2⟩ := awGet grv he
          obtain ⟨q', a, b, c⟩ := h2.lst
          rw [a] at e2
          obtain rfl := V.ref.inj e2
          exact ⟨c, fun z => by rw [z] at b; rw [b] at hL; cases hL⟩
        have hD9 := st _ _ (sub7 _ _ nd7.ob) (sN _ _ (sG _ _ nd7.ob))
        have qD : D ∉ qs := fun hq => by
          obtain ⟨i, hi⟩ := List.mem_iff_getElem?.mp hq
          obtain ⟨g, _, b⟩ := awGet qat hi
          have b' : upd (upd H9 vp (valsO vp Gd)) L (.lst (gx.map (·.2.2))) D = some (.lst (g.map V.str)) := b
          rw [sL _ _ (sv _ _ hD9)] at b'
          cases b'
        have DL : D ≠ L := ne_of_none (sv _ _ hD9) hL
        have tv : TupsStay H7 (upd (upd H9 vp (valsO vp Gd)) L (.lst (gx.map (·.2.2)))) := fun c xs e => stv _ _ (sub7 _ _ e) e
        have hbf : BkAt C (upd (upd H9 vp (valsO vp Gd)) L (.lst (gx.map (·.2.2)))) p Kd Dn D (kvE (fun t => .ref (adr t)) ks) dn := hb7.stay (fun c o _ e => stv c o (sub7 _ _ e) e) tv
        have lkf : LkAt P w (upd (upd H9 vp (valsO vp Gd)) L (.lst (gx.map (·.2.2)))) D 64 := ⟨xs, nd_stay nd7 (stv _ _ (sub7 _ _ nd7.ob) nd7.ob) tv, by omega, fun e he => (lk7 e he).stay tv⟩
        have keepf : ∀ c o, c ≠ p → H c = some o → upd (upd H9 vp (valsO vp Gd)) L (.lst (gx.map (·.2.2))) c = some o := fun c o n e => stv c o (sub7 _ _ (keep c o n e)) (keep c o n e)
        have eL : upd (upd H9 vp (valsO vp Gd)) L (.lst (gx.map (·.2.2))) L = some (.lst (qs.map V.ref)) := by rw [upd_same, hqs]
        generalize upd (upd H9 vp (valsO vp Gd)) L (.lst (gx.map (·.2.2))) = HF at qat hbf lkf keepf eL
        rw [hlk] at qat
        refine qq HF L D qs ys lab pm hup (fun t ht => by obtain ⟨_, _, _, z⟩ := hlab t ht; exact z) eL qat hL0 qnew ?_ hbf lkf hD0 DL qD keepf
        -- lists of unlike names are unlike lists
        rw [← hlk] at qat
        have fs := gok.firsts
        rw [List.nodup_iff_pairwise_ne, List.pairwise_iff_getElem]
        intro i j hi hj hij e
        obtain ⟨g1, a1, b1⟩ := awGet qat (List.getElem?_eq_getElem hi)
        obtain ⟨g2, a2, b2⟩ := awGet qat (List.getElem?_eq_getElem hj)
        have b1' : HF qs[i] = some (.lst (g1.map V.str)) := b1
        have b2' : HF qs[j] = some (.lst (g2.map V.str)) := b2
        rw [e, b2'] at b1'
        have i1 := (List.getElem?_eq_some_iff.mp a1).1
        have j1 := (List.getElem?_eq_some_iff.mp a2).1
        have := List.pairwise_iff_getElem.mp fs i j i1 j1 hij
        rw [(List.getElem?_eq_some_iff.mp a1).2, (List.getElem?_eq_some_iff.mp a2).2] at this
        obtain ⟨x, r, y, u, rfl, rfl, lt⟩ := this
        have := HO.lst.inj (Option.some.inj b1')
        rw [List.map_cons, List.map_cons] at this
        have e3 := V.str.inj (List.cons.inj this).1
        rw [e3] at lt
        exact sLt_irr _ lt
abbrev noN : Addr → Prop := fun _ => False
theorem any_ints0 {H : Hp} : ∀ l : List Int, AnyAll noN H (l.map V.int) (l.map PyData.int)
  | [] => .nil
  | x :: l => .cons (.int x) (any_ints0 l)
theorem any_deeds0 {H : Hp} : ∀ {rs : List Addr} {ds : List Deed}, DsAt H rs ds → AnyAll noN H (rs.map V.ref) (ds.map deedD)
  | _, _, .nil => .nil
  | _, _, .cons h t => .cons (.tup (fun z => z) h (.cons (.str _) (any_ints0 _))) (any_deeds0 t)
theorem any_row {H : Hp} {R : Addr} {m o : Int} {ds : List Deed} (h : RowAt H R m ds o) : AnyAt noN H (.ref R) (rowD m ds o) := by
  obtain ⟨D, rs, e1, e2, e3⟩ := h
  exact .tup (fun z => z) e1 (.cons (.int m) (.cons (.tup (fun z => z) e2 (any_deeds0 e3)) (.cons (.int o) .nil)))
theorem deedA_ok {m : Int} {d : Deed} (ok : DeedOk m d) : deedA m (deedD d) = true := by
  show numsA m d.1 (d.2.map PyData.int) = true
  rw [numsA_at ok.word, List.length_map, decide_eq_true rfl, Bool.true_and]
  refine List.all_eq_true.mpr fun x hx => ?_
  obtain ⟨i, hi, rfl⟩ := List.mem_map.mp hx
  obtain ⟨h1, h2⟩ := ok.ahead i hi
  show (decide (0 ≤ i) && decide (i < m)) = true
  rw [decide_eq_true h1, decide_eq_true h2]
  rfl
theorem rowA_ok {m o : Int} {ds : List Deed} (ok : RowOk m ds o) : rowA (rowD m ds o) = true := by
  have l := ok.len
  have o1 := ok.o1
  show (decide (1 ≤ m ∧ m ≤ 3) && (decide ((ds.map deedD).length ≤ 8) && ((deedsA m (ds.map deedD)).all id && (decide (0 ≤ o) && decide (o < m + ((ds.map deedD).length : Nat)))))) = true
  rw [List.length_map, decide_eq_true ⟨ok.m1, ok.m3⟩, decide_eq_true l, decide_eq_true ok.o0, decide_eq_true o1, Bool.true_and, Bool.true_and, Bool.and_true, Bool.and_true]
  refine List.all_eq_true.mpr fun b hb => ?_
  unfold deedsA at hb
  obtain ⟨j, hj, rfl⟩ := List.mem_mapIdx.mp hb
  rw [List.length_map] at hj
  rw [List.getElem_map]
  exact deedA_ok (ok.deeds.each j _ (List.getElem?_eq_getElem hj))
theorem ncb_deed {m : Int} {d : Deed} (h : DeedOk m d) (hm : m ≤ 100) : NcB 18 1 (deedD d) := by
  obtain ⟨h1, h2, h3⟩ := fw_short _ h.word
  refine ncb_tup (b := 5) (k := 0) (fun x hx => ?_) ?_
  · rcases List.mem_cons.mp hx with rfl | hx
    · exact ncb_str h1 h2
    · obtain ⟨i, hi, rfl⟩ := List.mem_map.mp hx
      obtain ⟨i0, i1⟩ := h.ahead i hi
      exact (ncb_int (by omega)).mono (by decide) (by decide)
  · rw [List.length_cons, List.length_map]
    have : (d.2.length : Int) ≤ 2 := h3
    omega
theorem nc_row {m o : Int} {ds : List Deed} (h : RowOk m ds o) : NcB 459 3 (rowD m ds o) := by
  have hm := h.m1
  have hm3 := h.m3
  have hl := h.len
  have ho := h.o0
  have ho1 := h.o1
  refine ncb_tup (b := 152) (k := 2) (fun x hx => ?_) (by simp only [List.length_cons, List.length_nil]; decide)
  simp only [List.mem_cons, List.not_mem_nil, or_false] at hx
  rcases hx with rfl | rfl | rfl
  · exact (ncb_int (by omega)).mono (by decide) (by decide)
  · refine ncb_tup (b := 18) (k := 1) (fun x hx => ?_) ?_
    · obtain ⟨d, hd, rfl⟩ := List.mem_map.mp hx
      obtain ⟨k, hk⟩ := List.mem_iff_getElem?.mp hd
      have hk1 := (List.getElem?_eq_some_iff.mp hk).1
      exact ncb_deed (h.deeds.each k d hk) (by omega)
    · rw [List.length_map]
      omega
  · exact (ncb_int (by omega)).mono (by decide) (by decide)
def iS (i : Int) : Str := (toString i : String)
def vS : V → Str
  | .int i => iS i
  | .str x => x
  | _ => ""
def partS (x : Str) (l : List Int) : Str := Txt.join " " (x :: l.map iS)
def partsS (m : Int) (ds : List Deed) (o : Int) : List Str := partS "in" [m] :: (ds.map fun d => partS d.1 d.2) ++ [partS "out" [o]]
def rowS (m : Int) (ds : List Deed) (o : Int) : Str := Txt.join "; " (partsS m ds o)
section
variable {X : Cx}
def rStr (X : Cx) : List V → Hp → VK → Prop := fun xs H Q => ∃ v, xs = [v] ∧ ((∃ i, v = .int i ∧ i.natAbs.log2 < 1920) ∨ ∃ a, v = .str a) ∧ Q (.str (vS v)) H
theorem call_str_any : CallR X (.type "str") (rStr X) := by
  intro pins s σ H xs us Q I r h
  obtain ⟨v, rfl, h | h, q⟩ := h
  · obtain ⟨i, rfl, hi⟩ := h
    exact call_str_int pins s σ H _ us Q I r ⟨i, rfl, hi, q⟩
  · obtain ⟨a, rfl⟩ := h
    exact SkE.call_str_str pins s σ H _ us Q I r ⟨a, rfl, q⟩
end
theorem iS_len {i : Int} (h : i.natAbs < 10 ^ 3) : (iS i).length ≤ 4 := by
  have e := int_text_length_le10 (k := 3) (by decide) h
  unfold iS
  show (Str.ofString (toString i)).length ≤ 4
  rw [PySem.ofString_length]
  exact e
theorem tl_part (x : Str) (l : List Int) : TL.tl (partS x l) = TL.joinL [32] (TL.tl x :: l.map fun i => TL.tl (iS i)) := by
  unfold partS
  rw [TL.join_eq, TL.tl_join, List.map_cons, List.map_map]
  rfl
theorem joinL_len : ∀ (S : List Nat) (ps : List (List Nat)), (TL.joinL S ps).length ≤ (ps.map List.length).sum + ps.length * S.length
  | _, [] => by simp [TL.joinL]
  | _, [p] => by simp [TL.joinL]
  | S, p :: q :: r => by
    have := joinL_len S (q :: r)
    simp only [TL.joinL, List.length_append, List.map_cons, List.sum_cons, List.length_cons] at this ⊢
    simp only [Nat.add_mul, Nat.one_mul] at this ⊢
    omega
theorem part_len {x : Str} {l : List Int} (hx : x.length ≤ 5) (hl : l.length ≤ 2) (h : ∀ i ∈ l, i.natAbs < 1000) : (partS x l).length ≤ 20 := by
  rw [TL.len_tl, tl_part]
  refine Nat.le_trans (joinL_len _ _) ?_
  have hs : ∀ l : List Int, l.length ≤ 2 → (∀ i ∈ l, i.natAbs < 1000) → ((l.map fun i => TL.tl (iS i)).map List.length).sum ≤ 4 * l.length := by
    intro l
    induction l with
    | nil => intro _ _; simp
    | cons i l ih =>
      intro h1 h2
      have a := ih (by simp at h1; omega) fun j hj => h2 j (List.mem_cons_of_mem _ hj)
      have b := iS_len (i := i) (h2 i List.mem_cons_self)
      rw [TL.len_tl] at b
      simp only [List.map_cons, List.sum_cons, List.length_cons]
      omega
  have := hs l hl h
  rw [TL.len_tl] at hx
  simp only [List.map_cons, List.sum_cons, List.length_cons, List.length_map, List.length_nil]
  omega
/-- a part of a row, as a tuple -/
abbrev PartAt (H : Hp) (r : Addr) (d : Deed) : Prop := H r = some (.tup (dV d))
structure PartOk (d : Deed) : Prop where
  word : d.1.length ≤ 5
  few : d.2.length ≤ 2
  nums : ∀ i ∈ d.2, i.natAbs < 1000
theorem small_log {i : Int} (h : i.natAbs < 1000) : i.natAbs.log2 < 1920 := by
  by_cases e : i.natAbs = 0
  · rw [e]; decide
  · have := (Nat.log2_lt (k := 10) e).mpr (Nat.lt_trans h (by decide))
    omega
theorem sum_le {l : List Nat} {b : Nat} (h : ∀ x ∈ l, x ≤ b) : l.sum ≤ l.length * b := by
  induction l with
  | nil => simp
  | cons x l ih =>
    have := ih fun y hy => h y (List.mem_cons_of_mem _ hy)
    have := h x List.mem_cons_self
    rw [List.sum_cons, List.length_cons, Nat.add_mul]
    omega
theorem partOk_deed {m : Int} {d : Deed} (h : DeedOk m d) (hm : m ≤ 100) : PartOk d := by
  obtain ⟨h1, h2, h3⟩ := fw_short _ h.word
  refine ⟨h1, ?_, fun i hi => ?_⟩
  · have e : (d.2.length : Int) ≤ 2 := h3
    omega
  · have := h.ahead i hi
    omega
theorem partOk_in {x : Str} {i : Int} (hx : x.length ≤ 5) (h : i.natAbs < 1000) : PartOk (x, [i]) := ⟨hx, by show 1 ≤ 2; decide, fun j hj => by rw [List.mem_singleton.mp hj]; exact h⟩
def spShow : Sp := fun vs H Q _ => ∃ (R : Addr) (m o : Int) (ds : List Deed), vs = [.ref R] ∧ RowAt H R m ds o ∧ RowOk m ds o ∧ ∀ H', Same H H' → Q (.str (rowS m ds o)) H'
def spWp : Sp := fun vs H Q _ => ∃ (r : Addr) (d : Deed), vs = [.ref r] ∧ PartAt H r d ∧ PartOk d ∧ ∀ H', Same H H' → Q (.str (partS d.1 d.2)) H'
theorem ok_wp {f : Addr} {fd : FuncData} {k : Nat} (F : Fun K "written_part" "written_part" s_written_part f fd) (mS : mg "str" = none) : FnOk P w K mg base CX0 (k + 1) f fd ["part"] spWp := by
  refine F.ok sc_written_part (fun vs H Q E h => ?_) (fun cdv A outer s H vs Q E hr h => ?_)
  · obtain ⟨r, d, rfl, _⟩ := h
    rfl
  · obtain ⟨r, d, rfl, er, hp, q⟩ := h
    refine ⟨_, pss_one (ps_ret (pe_join pe_str (pe_lc (own := [("word", 1)]) (g := gName 1) (by rfl) sc_written_part.nd (pi_tup (pv 0)) (blkOk_by (own := [("word", 1)]) (N := N_written_part) (sc := defScope s_written_part) (by decide +kernel))
      (fun _ _ _ _ _ => pg_name (i := 1) sc_written_part.nd rfl (Or.inl rfl)) (fun _ _ _ _ _ => pts_nil)
      (fun _ _ _ _ _ => pe_callTy (r := fun xs H Q => ∃ v, xs = [v] ∧ ((∃ i, v = .int i ∧ i.natAbs.log2 < 1920) ∨ ∃ a, v = .str a) ∧ Q (.str (vS v)) H) call_str_any (by rfl) mS (by decide +kernel) (pa_cons (pv 1) pa_nil))))), ?_⟩
    refine ⟨⟨_, rfl⟩, .ref r, rfl, r, rfl, ⟨_, SqT.of er⟩, fun C hC => ?_⟩
    have sC : ∀ o, Same H (upd H C o) := fun o => same_new hC
    have hfew := hp.few
    have hdl : (dV d).length ≤ 3 := by
      show (_ :: List.map _ _).length ≤ 3
      rw [List.length_cons, List.length_map]
      omega
    refine lc_tup (K := K) (a := r) (xs := dV d) (fun j H4 => H4 = upd H C (.lst ((((dV d).take j).map vS).map V.str))) rfl (fun j H4 _ h4 => ?_) (fun j x H4 hx h4 => ?_) (fun H4 h4 => ?_)
    · rw [h4]
      exact SqT.of (sC _ _ _ er)
    · subst h4
      refine ⟨rfl, x, rfl, x, rfl, ?_, _, upd_same, ?_, ?_⟩
      · have hm := List.mem_of_getElem? hx
        rcases List.mem_cons.mp hm with rfl | hm
        · exact .inr ⟨_, rfl⟩
        · obtain ⟨i, hi, rfl⟩ := List.mem_map.mp hm
          exact .inl ⟨i, rfl, small_log (hp.nums i hi)⟩
      · rw [List.length_map, List.length_map, List.length_take]
        exact small1000 (by omega)
      · rw [upd_upd, List.take_add_one, hx]
        simp
    · have e : ((dV d).take (dV d).length).map vS = d.1 :: d.2.map iS := by
        rw [List.take_length]
        show d.1 :: (d.2.map V.int).map vS = _
        rw [List.map_map]
        rfl
      have eC : H4 C = some (.lst ((d.1 :: d.2.map iS).map V.str)) := by
        rw [h4, upd_same, e]
      have s4 : Same H H4 := by rw [h4]; exact sC _
      refine ⟨" ", C, d.1 :: d.2.map iS, rfl, rfl, .inl (.inl (.inl eC)), ?_, q H4 s4⟩
      have h1 : ∀ x ∈ (d.1 :: d.2.map iS).map Str.length, x ≤ 5 := by
        intro x hx
        obtain ⟨y, hy, rfl⟩ := List.mem_map.mp hx
        rcases List.mem_cons.mp hy with rfl | hy
        · exact hp.word
        · obtain ⟨i, hi, rfl⟩ := List.mem_map.mp hy
          exact Nat.le_trans (iS_len (hp.nums i hi)) (by decide)
      have h2 := sum_le h1
      have h3 : (" " : Str).length = 1 := by decide +kernel
      have h4 : ((d.1 :: d.2.map iS).map Str.length).length = d.2.length + 1 := by simp
      have h5 : (d.1 :: d.2.map iS).length = d.2.length + 1 := by simp
      rw [h4] at h2
      rw [h3, h5]
      show ((d.1 :: d.2.map iS).map Str.length).sum + _ ≤ _
      omega
theorem ok_show {f fW : Addr} {fd fdW : FuncData} {k : Nat} (F : Fun K "show_row" "show_row" s_show_row f fd) (GW : FnOk P w K mg base CX0 (k + 1) fW fdW ["part"] spWp) (kW : PySem.W.keepIn K (.ref fW) = true) (bW : Binds K fdW ["part"] []) (gW : mg "written_part" = some (.ref fW)) :
    FnOk P w K mg base CX0 (k + 2) f fd ["row"] spShow := by
  refine F.ok sc_show_row (fun vs H Q E h => ?_) (fun cdv A outer s H vs Q E hr h => ?_)
  · obtain ⟨R, m, o, ds, rfl, _⟩ := h
    rfl
  · obtain ⟨R, m, o, ds, rfl, hrow, hok, q⟩ := h
    obtain ⟨D, rs, eR, eD, hd⟩ := id hrow
    refine ⟨_, pss_cons (ps_asg (pv 0) (pg_tup rfl (pgs_cons (pg_name (i := 1) sc_show_row.nd rfl (.inl rfl)) (pgs_cons (pg_name (i := 2) sc_show_row.nd rfl (.inl rfl)) (pgs_cons (pg_name (i := 3) sc_show_row.nd rfl (.inl rfl)) pgs_nil)))))
      (pss_one (ps_ret (pe_join pe_str (pe_lc (own := [("part", 4)]) (g := gName 4) (by rfl) sc_show_row.nd (pi_list (pe_lst (pa_cons (pe_tup (pa_cons pe_str (pa_cons (pv 1) pa_nil))) (StX.pa_star (pv 2) (pa_cons (pe_tup (pa_cons pe_str (pa_cons (pv 3) pa_nil))) pa_nil))))) (blkOk_by (own := [("part", 4)]) (N := N_show_row) (sc := defScope s_show_row) (by decide +kernel))
        (fun _ _ _ _ _ => pg_name (i := 4) sc_show_row.nd rfl (Or.inl rfl)) (fun _ _ _ _ _ => pts_nil)
        (fun _ _ _ _ _ => pe_call GW hr (by rfl) gW kW bW .nil pass0 (pa_cons (pv 4) pa_nil)))))), ?_⟩
    have h8 := hok.len
    have lr := awLen hd
    refine ⟨.ref R, rfl, R, _, rfl, SqT.of eR, rfl, _, _, rfl, _, _, rfl, _, _, rfl, rfl, ?_⟩
    refine ⟨⟨_, rfl⟩, .int m, rfl, (by show 2 ≤ sizeLine; decide), fun A1 hA1 => ?_⟩
    have sA1 := same_new (o := .tup [.str "in", .int m]) hA1
    refine ⟨.ref D, rfl, D, _, rfl, .inl (SqT.of (sA1 _ _ eD)), .int o, rfl, (by show 2 ≤ sizeLine; decide), fun A2 hA2 => ?_⟩
    have sA2 := same_new (o := .tup [.str "out", .int o]) hA2
    have hlen : (V.ref A1 :: (rs.map V.ref ++ [V.ref A2])).length ≤ 10 := by
      rw [List.length_cons, List.length_append, List.length_map, List.length_singleton]
      omega
    refine ⟨Nat.le_of_lt (small1000 (by omega)), fun L hL => ?_⟩
    have sL := same_new (o := .lst (V.ref A1 :: (rs.map V.ref ++ [V.ref A2]))) hL
    have s0 := sA1.trans (sA2.trans sL)
    obtain ⟨H3, hH3⟩ : ∃ H3, H3 = upd (upd (upd H A1 (.tup [.str "in", .int m])) A2 (.tup [.str "out", .int o])) L (.lst (V.ref A1 :: (rs.map V.ref ++ [V.ref A2]))) := ⟨_, rfl⟩
    have eL : H3 L = some (.lst (V.ref A1 :: (rs.map V.ref ++ [V.ref A2]))) := by rw [hH3]; exact upd_same
    have eA1 : H3 A1 = some (.tup (dV (("in", [m]) : Deed))) := by rw [hH3]; exact sL _ _ (sA2 _ _ upd_same)
    have eA2 : H3 A2 = some (.tup (dV (("out", [o]) : Deed))) := by rw [hH3]; exact sL _ _ upd_same
    have s3 : Same H H3 := by rw [hH3]; exact s0
    obtain ⟨as, has⟩ : ∃ as, as = A1 :: (rs ++ [A2]) := ⟨_, rfl⟩
    have eas : (V.ref A1 :: (rs.map V.ref ++ [V.ref A2])) = as.map V.ref := by rw [has]; simp
    have hparts : DsAt H3 as ((("in", [m]) : Deed) :: (ds ++ [(("out", [o]) : Deed)])) := by
      rw [has]
      exact .cons eA1 (awSnoc (F := fun r d => H3 r = some (.tup (dV d))) eA2 ((Same.tups s3).ds hd))
    have hpok : ∀ d ∈ ((("in", [m]) : Deed) :: (ds ++ [(("out", [o]) : Deed)]) : List Deed), PartOk d := by
      have m1 := hok.m1
      have m3 := hok.m3
      have o0 := hok.o0
      have o1 := hok.o1
      intro d hd'
      rcases List.mem_cons.mp hd' with rfl | hd'
      · exact partOk_in (by decide +kernel) (by omega)
      · rcases List.mem_append.mp hd' with hd' | hd'
        · obtain ⟨kk, hk⟩ := List.mem_iff_getElem?.mp hd'
          have := (List.getElem?_eq_some_iff.mp hk).1
          exact partOk_deed (hok.deeds.each kk d hk) (by omega)
        · rw [List.mem_singleton.mp hd']
          exact partOk_in (by decide +kernel) (by omega)
    rw [← hH3]
    rw [eas] at eL
    rw [eas] at hlen
    obtain ⟨ps, hps⟩ : ∃ ps : List Deed, ps = (("in", [m]) : Deed) :: (ds ++ [(("out", [o]) : Deed)]) := ⟨_, rfl⟩
    rw [← hps] at hparts hpok
    have la := awLen hparts
    rw [List.length_map] at hlen
    refine ⟨L, rfl, ⟨_, .inl (.inl eL)⟩, fun C hC => ?_⟩
    refine lc_list (K := K) (a := L) (xs := as.map V.ref) (fun j H4 => H4 C = some (.lst (((ps.take j).map fun d => partS d.1 d.2).map V.str)) ∧ Same H3 H4) ⟨upd_same, same_new hC⟩ (fun j H4 _ h4 => .inl (.inl (h4.2 _ _ eL))) (fun j x H4 hx h4 => ?_) (fun H4 h4 => ?_)
    · obtain ⟨eC, s4⟩ := h4
      rw [List.getElem?_map] at hx
      obtain ⟨b, hb, rfl⟩ := Option.map_eq_some_iff.mp hx
      obtain ⟨d, hd1, hd2⟩ := awGet hparts hb
      refine ⟨rfl, .ref b, rfl, b, d, rfl, s4 _ _ hd2, hpok d (List.mem_of_getElem? hd1), fun H5 s5 => ⟨_, s5 _ _ eC, ?_, ?_, ?_⟩⟩
      · rw [List.length_map, List.length_map, List.length_take]
        exact small1000 (by omega)
      · rw [upd_same, List.take_add_one, hd1]
        simp
      · intro b' u e
        rw [upd_ne (ne_of_none e hC)]
        exact s5 _ _ (s4 _ _ e)
    · obtain ⟨eC, s4⟩ := h4
      rw [List.length_map, la, List.take_length] at eC
      refine ⟨"; ", C, ps.map (fun d => partS d.1 d.2), rfl, rfl, .inl (.inl (.inl eC)), ?_, ?_⟩
      · have h1 : ∀ x ∈ (ps.map (fun d => partS d.1 d.2)).map Str.length, x ≤ 20 := by
          intro x hx
          obtain ⟨y, hy, rfl⟩ := List.mem_map.mp hx
          obtain ⟨d, hd', rfl⟩ := List.mem_map.mp hy
          have := hpok d hd'
          exact part_len this.word this.few this.nums
        have h2 := sum_le h1
        have h3 : ("; " : Str).length = 2 := by decide +kernel
        have h4 : ((ps.map (fun d => partS d.1 d.2)).map Str.length).length = ps.length := by simp
        have h5 : (ps.map (fun d => partS d.1 d.2)).length = ps.length := by simp
        rw [h4] at h2
        rw [h3, h5]
        show ((ps.map (fun d => partS d.1 d.2)).map Str.length).sum + _ ≤ _
        omega
      · have := q H4 (s3.trans s4)
        have e : ps.map (fun d => partS d.1 d.2) = partsS m ds o := by
          rw [hps]
          unfold partsS
          rw [List.map_cons, List.map_append]
          rfl
        rw [e]
        exact this
theorem snocOf {α : Type} : ∀ {l : List α}, l ≠ [] → ∃ l' c, l = l' ++ [c]
  | [], h => absurd rfl h
  | [x], _ => ⟨[], x, rfl⟩
  | x :: y :: r, _ => by
    obtain ⟨l', c, e⟩ := snocOf (l := y :: r) (by simp)
    exact ⟨x :: l', c, by rw [e]; rfl⟩
theorem lastD {α : Type} (x : α) (l : List α) (y d : α) : (x :: (l ++ [y])).getLastD d = y := by
  show List.getLast (x :: (l ++ [y])) _ = y
  rw [List.getLast_cons (by simp)]
  simp
theorem midL {α : Type} (x : α) (l : List α) (y : α) : ((x :: (l ++ [y])).drop 1).dropLast = l := by
  show (l ++ [y]).dropLast = l
  simp
abbrev Pt := Str × List (Option Int)
def figB (c : Nat) : Bool := decide (48 ≤ c ∧ c ≤ 57)
def numOk (l : List Nat) : Bool := decide (1 ≤ l.length ∧ l.length ≤ 19) && l.all figB && !(decide (l.head? = some 48) && !decide (l = [48]))
def numO (w : Str) : Option Int := if numOk (TL.tl w) = true then some ((NumText.digitsVal (TL.tl w) : Nat) : Int) else none
theorem numOk_parts {l : List Nat} (h : numOk l = true) : 1 ≤ l.length ∧ l.length ≤ 19 ∧ NumText.AllDigits l ∧ (l.head? = some 48 → l = [48]) := by
  unfold numOk at h
  rw [Bool.and_eq_true, Bool.and_eq_true] at h
  obtain ⟨⟨h1, h2⟩, h3⟩ := h
  have h1 := of_decide_eq_true h1
  refine ⟨h1.1, h1.2, fun c hc => ?_, fun hh => ?_⟩
  · have := of_decide_eq_true (List.all_eq_true.mp h2 c hc)
    omega
  · by_cases e : l = [48]
    · exact e
    · rw [decide_eq_true hh, decide_eq_false e] at h3
      cases h3
theorem tl_iS (k : Nat) : TL.tl (iS (k : Int)) = TL.numL k := TL.tl_num k
theorem numO_num {n : Int} (h0 : 0 ≤ n) (h1 : n < 12) : numO (iS n) = some n := by
  obtain ⟨k, rfl⟩ := Int.eq_ofNat_of_zero_le h0
  unfold numO
  rw [tl_iS, TL.numL_val]
  have hk : k < 12 := by omega
  have : numOk (TL.numL k) = true := by
    have hj : k = 0 ∨ k = 1 ∨ k = 2 ∨ k = 3 ∨ k = 4 ∨ k = 5 ∨ k = 6 ∨ k = 7 ∨ k = 8 ∨ k = 9 ∨ k = 10 ∨ k = 11 := by omega
    rcases hj with rfl | rfl | rfl | rfl | rfl | rfl | rfl | rfl | rfl | rfl | rfl | rfl <;> decide +kernel
  rw [if_pos this]
def partO (t : Str) : Pt := match Txt.split t " " with | [] => ("", []) | w :: ws => (w, ws.map numO)
def ptOf (d : Deed) : Pt := (d.1, d.2.map some)
theorem partO_of {d : Deed} (hx : 32 ∉ TL.tl d.1) (hn : ∀ i ∈ d.2, 0 ≤ i ∧ i < 12) : partO (partS d.1 d.2) = ptOf d := by
  have hs : Txt.split (Txt.join " " (d.1 :: d.2.map iS)) " " = d.1 :: d.2.map iS := TL.split_join (y := " ") (s := 32) (S := []) (by decide +kernel) (by decide +kernel) (by simp) (fun p hp => by
    rcases List.mem_cons.mp hp with rfl | hp
    · exact hx
    · obtain ⟨i, hi, rfl⟩ := List.mem_map.mp hp
      obtain ⟨k, rfl⟩ := Int.eq_ofNat_of_zero_le (hn i hi).1
      rw [tl_iS]
      exact TL.numL_free (by omega))
  unfold partO partS
  rw [hs]
  show (d.1, (d.2.map iS).map numO) = ptOf d
  unfold ptOf
  rw [List.map_map]
  congr 1
  exact List.map_congr_left fun i hi => numO_num (hn i hi).1 (hn i hi).2
def partsO (t : Str) : List Pt := (Txt.split t "; ").map partO
def numB (m : Int) : Option Int → Bool
  | some i => decide (0 ≤ i) && decide (i < m)
  | none => false
def deedB (m : Int) (p : Pt) : Bool := fwL.any fun q => decide (q.1 = p.1) && (decide (q.2 = (p.2.length : Int)) && p.2.all (numB m))
def midB (m : Int) (l : List Pt) : List Bool := l.mapIdx fun i p => deedB (m + (i : Nat)) p
def rowB (m : Option Int) (mid : List Pt) (o : Option Int) : Bool := match m with
  | none => false
  | some m => decide (1 ≤ m ∧ m ≤ 3) && (decide (mid.length ≤ 8) && ((midB m mid).all id && numB (m + mid.length) o))
def midD (l : List Pt) : List Deed := l.map fun p => (p.1, p.2.map fun o => o.getD 0)
def readS (t : Str) : Option Rw :=
  let ps := partsO t
  let f := ps.headD ("", [])
  let l := ps.getLastD ("", [])
  if f.2.length = 1 ∧ f.1 = "in" ∧ l.2.length = 1 ∧ l.1 = "out" ∧ rowB (f.2.headD none) ((ps.drop 1).dropLast) (l.2.headD none) = true
  then some ⟨(f.2.headD none).getD 0, midD ((ps.drop 1).dropLast), (l.2.headD none).getD 0⟩ else none
theorem numB_some {m : Int} {x : Option Int} (h : numB m x = true) : ∃ i, x = some i ∧ 0 ≤ i ∧ i < m := by
  cases x with
  | none => cases h
  | some i =>
    unfold numB at h
    rw [Bool.and_eq_true] at h
    exact ⟨i, rfl, of_decide_eq_true h.1, of_decide_eq_true h.2⟩
theorem deedB_ok {m : Int} {p : Pt} (h : deedB m p = true) : ptOf (p.1, p.2.map fun o => o.getD 0) = p ∧ DeedOk m (p.1, p.2.map fun o => o.getD 0) := by
  unfold deedB at h
  obtain ⟨q, hq, hb⟩ := List.any_eq_true.mp h
  rw [Bool.and_eq_true, Bool.and_eq_true] at hb
  obtain ⟨h1, h2, h3⟩ := hb
  have h1 := of_decide_eq_true h1
  have h2 := of_decide_eq_true h2
  have h4 := List.all_eq_true.mp h3
  refine ⟨?_, ?_, ?_⟩
  · unfold ptOf
    rw [List.map_map]
    have : p.2.map (some ∘ fun o => o.getD 0) = p.2 := by
      conv => rhs; rw [← List.map_id p.2]
      refine List.map_congr_left fun x hx => ?_
      obtain ⟨i, rfl, _⟩ := numB_some (h4 x hx)
      rfl
    rw [this]
  · show (p.1, ((p.2.map _).length : Int)) ∈ fwL
    rw [List.length_map, ← h1, ← h2]
    exact hq
  · intro i hi
    obtain ⟨x, hx, rfl⟩ := List.mem_map.mp hi
    obtain ⟨i, rfl, h0, h5⟩ := numB_some (h4 x hx)
    exact ⟨h0, h5⟩
theorem deedB_of {m : Int} {d : Deed} (h : DeedOk m d) : deedB m (ptOf d) = true := by
  unfold deedB
  refine List.any_eq_true.mpr ⟨_, h.word, ?_⟩
  rw [Bool.and_eq_true, Bool.and_eq_true]
  refine ⟨decide_eq_true rfl, decide_eq_true ?_, List.all_eq_true.mpr fun x hx => ?_⟩
  · show (d.2.length : Int) = ((d.2.map some).length : Int)
    rw [List.length_map]
  · obtain ⟨i, hi, rfl⟩ := List.mem_map.mp hx
    obtain ⟨h0, h1⟩ := h.ahead i hi
    show (decide (0 ≤ i) && decide (i < m)) = true
    rw [decide_eq_true h0, decide_eq_true h1]
    rfl
theorem midB_at {m : Int} {l : List Pt} (h : (midB m l).all id = true) {k : Nat} {p : Pt} (hk : l[k]? = some p) : deedB (m + (k : Nat)) p = true := by
  refine List.all_eq_true.mp h _ ?_
  refine List.mem_of_getElem? (i := k) ?_
  unfold midB
  rw [List.getElem?_mapIdx, hk]
  rfl
theorem midB_of {m : Int} {l : List Pt} (h : ∀ k p, l[k]? = some p → deedB (m + (k : Nat)) p = true) : (midB m l).all id = true := by
  refine List.all_eq_true.mpr fun b hb => ?_
  obtain ⟨k, hk⟩ := List.mem_iff_getElem?.mp hb
  unfold midB at hk
  rw [List.getElem?_mapIdx] at hk
  obtain ⟨p, hp, rfl⟩ := Option.map_eq_some_iff.mp hk
  exact h k p hp
theorem rowB_ok {m o : Option Int} {mid : List Pt} (h : rowB m mid o = true) : m = some (m.getD 0) ∧ o = some (o.getD 0) ∧ (midD mid).map ptOf = mid ∧ RwOk ⟨m.getD 0, midD mid, o.getD 0⟩ := by
  cases m with
  | none => cases h
  | some m =>
    unfold rowB at h
    simp only [Bool.and_eq_true] at h
    obtain ⟨h1, h2, h3, h4⟩ := h
    have h1 := of_decide_eq_true h1
    have h2 := of_decide_eq_true h2
    obtain ⟨i, rfl, i0, i1⟩ := numB_some h4
    have ld : (midD mid).length = mid.length := by unfold midD; rw [List.length_map]
    refine ⟨rfl, rfl, ?_, h1.1, h1.2, by show (midD mid).length ≤ 8; rw [ld]; exact h2, ⟨fun k d hk => ?_⟩, i0, by show i < m + ((midD mid).length : Int); rw [ld]; exact i1⟩
    · unfold midD
      rw [List.map_map]
      conv => rhs; rw [← List.map_id mid]
      refine List.map_congr_left fun p hp => ?_
      obtain ⟨k, hk⟩ := List.mem_iff_getElem?.mp hp
      exact (deedB_ok (midB_at h3 hk)).1
    · have hk' : (midD mid)[k]? = some d := hk
      unfold midD at hk'
      rw [List.getElem?_map] at hk'
      obtain ⟨p, hp, rfl⟩ := Option.map_eq_some_iff.mp hk'
      exact (deedB_ok (midB_at h3 hp)).2
theorem rowB_of {r : Rw} (h : RwOk r) : rowB (some r.m) (r.ds.map ptOf) (some r.o) = true := by
  unfold rowB
  simp only [Bool.and_eq_true]
  have h1 := h.m1
  have h3 := h.m3
  have o0 := h.o0
  have o1 := h.o1
  refine ⟨decide_eq_true ⟨h1, h3⟩, decide_eq_true (by rw [List.length_map]; exact h.len), midB_of fun k p hk => ?_, ?_⟩
  · rw [List.getElem?_map] at hk
    obtain ⟨d, hd, rfl⟩ := Option.map_eq_some_iff.mp hk
    exact deedB_of (h.deeds.each k d hd)
  · show (decide (0 ≤ r.o) && decide (r.o < r.m + ((r.ds.map ptOf).length : Int))) = true
    rw [List.length_map, decide_eq_true o0, decide_eq_true o1]
    rfl
theorem midD_of (ds : List Deed) : midD (ds.map ptOf) = ds := by
  unfold midD
  rw [List.map_map]
  conv => rhs; rw [← List.map_id ds]
  refine List.map_congr_left fun d _ => ?_
  show (d.1, (d.2.map some).map fun o => o.getD 0) = d
  rw [List.map_map]
  have : d.2.map ((fun o => o.getD 0) ∘ some) = d.2 := by
    conv => rhs; rw [← List.map_id d.2]
    exact List.map_congr_left fun _ _ => rfl
  rw [this]
theorem len1 {l : List (Option Int)} (h : l.length = 1) : l = [l.headD none] := by
  cases l with
  | nil => simp at h
  | cons x xs =>
    have : xs = [] := List.length_eq_zero_iff.mp (by simpa using h)
    rw [this]
    rfl
theorem mem_joinL {c : Nat} {S : List Nat} : ∀ {ps : List (List Nat)}, c ∈ TL.joinL S ps → c ∈ S ∨ ∃ p ∈ ps, c ∈ p
  | [], h => by cases h
  | [p], h => .inr ⟨p, List.mem_cons_self, h⟩
  | p :: q :: r, h => by
    rcases List.mem_append.mp h with h | h
    · exact .inr ⟨p, List.mem_cons_self, h⟩
    · rcases List.mem_append.mp h with h | h
      · exact .inl h
      · rcases mem_joinL h with h | ⟨p', hp, h⟩
        · exact .inl h
        · exact .inr ⟨p', List.mem_cons_of_mem _ hp, h⟩
theorem fw_signs : ∀ p ∈ fwL, ¬ 32 ∈ TL.tl p.1 ∧ ¬ 59 ∈ TL.tl p.1 := by decide +kernel
theorem part_free {x : Str} {l : List Int} (hx : 59 ∉ TL.tl x) (hl : ∀ i ∈ l, 0 ≤ i) : 59 ∉ TL.tl (partS x l) := by
  rw [tl_part]
  intro h
  rcases mem_joinL h with h | ⟨p, hp, h⟩
  · exact absurd h (by decide)
  · rcases List.mem_cons.mp hp with rfl | hp
    · exact hx h
    · obtain ⟨i, hi, rfl⟩ := List.mem_map.mp hp
      obtain ⟨k, rfl⟩ := Int.eq_ofNat_of_zero_le (hl i hi)
      rw [tl_iS] at h
      exact TL.numL_free (by omega) h
theorem read_show {r : Rw} (h : RwOk r) : readS (rowS r.m r.ds r.o) = some r := by
  have m1 := h.m1
  have m3 := h.m3
  have o0 := h.o0
  have o1 := h.o1
  have h8 := h.len
  have hd : ∀ d ∈ r.ds, ∃ k, DeedOk k d ∧ k ≤ 11 := by
    intro d hd'
    obtain ⟨k, hk⟩ := List.mem_iff_getElem?.mp hd'
    have := (List.getElem?_eq_some_iff.mp hk).1
    exact ⟨_, h.deeds.each k d hk, by omega⟩
  have hs : Txt.split (Txt.join "; " (partsS r.m r.ds r.o)) "; " = partsS r.m r.ds r.o := TL.split_join (y := "; ") (s := 59) (S := [32]) (by decide +kernel) (by decide +kernel) (by unfold partsS; simp) (fun p hp => by
    unfold partsS at hp
    rcases List.mem_append.mp hp with hp | hp
    · rcases List.mem_cons.mp hp with rfl | hp
      · exact part_free (by decide +kernel) fun i hi => by rw [List.mem_singleton.mp hi]; omega
      · obtain ⟨d, hd', rfl⟩ := List.mem_map.mp hp
        obtain ⟨k, ok, _⟩ := hd d hd'
        exact part_free (fw_signs _ ok.word).2 fun i hi => (ok.ahead i hi).1
    · rw [List.mem_singleton.mp hp]
      exact part_free (by decide +kernel) fun i hi => by rw [List.mem_singleton.mp hi]; exact o0)
  have hp : partsO (rowS r.m r.ds r.o) = ptOf ("in", [r.m]) :: (r.ds.map ptOf ++ [ptOf ("out", [r.o])]) := by
    unfold partsO rowS
    rw [hs]
    unfold partsS
    rw [List.map_append, List.map_cons, List.map_map]
    have e1 : partO (partS "in" [r.m]) = ptOf ("in", [r.m]) := partO_of (d := ("in", [r.m])) (show ¬ 32 ∈ TL.tl (Str.ofString "in") by decide +kernel) fun i hi => by rw [List.mem_singleton.mp hi]; omega
    have e2 : partO (partS "out" [r.o]) = ptOf ("out", [r.o]) := partO_of (d := ("out", [r.o])) (show ¬ 32 ∈ TL.tl (Str.ofString "out") by decide +kernel) fun i hi => by rw [List.mem_singleton.mp hi]; omega
    have e3 : r.ds.map (partO ∘ fun d => partS d.1 d.2) = r.ds.map ptOf := List.map_congr_left fun d hd' => by
      obtain ⟨k, ok, k11⟩ := hd d hd'
      exact partO_of (fw_signs _ ok.word).1 fun i hi => by have := ok.ahead i hi; omega
    rw [e1, e3]
    show _ :: _ ++ [partO (partS "out" [r.o])] = _
    rw [e2]
    rfl
  unfold readS
  simp only
  rw [hp]
  have eh : (ptOf ("in", [r.m]) :: (r.ds.map ptOf ++ [ptOf ("out", [r.o])])).headD ("", []) = ptOf ("in", [r.m]) := rfl
  have el : (ptOf ("in", [r.m]) :: (r.ds.map ptOf ++ [ptOf ("out", [r.o])])).getLastD ("", []) = ptOf ("out", [r.o]) := lastD _ _ _ _
  have em : ((ptOf ("in", [r.m]) :: (r.ds.map ptOf ++ [ptOf ("out", [r.o])])).drop 1).dropLast = r.ds.map ptOf := midL _ _ _
  rw [eh, el, em]
  rw [if_pos ⟨rfl, rfl, rfl, rfl, rowB_of h⟩, midD_of]
  rfl
def oV : Option Int → V
  | some i => .int i
  | none => .non
def pV (p : Pt) : List V := .str p.1 :: p.2.map oV
abbrev PtsAt (H : Hp) : List Addr → List Pt → Prop := Paired fun r p => H r = some (.tup (pV p))
theorem stayPts {H H' : Hp} (t : TupsStay H H') {rs : List Addr} {ps : List Pt} (h : PtsAt H rs ps) : PtsAt H' rs ps := awMap (fun r _ e => t r _ e) h
theorem deedB_at {m n : Int} {p : Pt} (h : (p.1, n) ∈ fwL) : deedB m p = (decide (n = (p.2.length : Int)) && p.2.all (numB m)) := by
  unfold deedB
  cases e : (decide (n = (p.2.length : Int)) && p.2.all (numB m)) with
  | true => exact List.any_eq_true.mpr ⟨_, h, by rw [decide_eq_true rfl, Bool.true_and]; exact e⟩
  | false =>
    refine List.any_eq_false.mpr fun q hq => ?_
    by_cases hx : q.1 = p.1
    · have := fw_uniq q hq _ h hx
      rw [decide_eq_true hx, Bool.true_and, this]
      show ¬ (decide (n = (p.2.length : Int)) && p.2.all (numB m)) = true
      rw [e]
      exact Bool.false_ne_true
    · rw [decide_eq_false hx, Bool.false_and]
      exact Bool.false_ne_true
theorem deedB_no {m : Int} {p : Pt} (h : ∀ q ∈ fwL, ¬ q.1 = p.1) : deedB m p = false := List.any_eq_false.mpr fun q hq => by
  rw [decide_eq_false (h q hq), Bool.false_and]
  exact Bool.false_ne_true
def spWhO : Sp := fun vs H Q _ => ∃ x : Option Int, vs = [oV x] ∧ Q (.bl x.isSome) H
theorem ok_whO {f : Addr} {fd : FuncData} {k : Nat} (F : Fun K "is_whole" "is_whole" s_is_whole f fd) (mi : mg "isinstance" = none) (mI : mg "int" = none) (mB : mg "bool" = none) : FnOk P w K mg base CX0 (k + 1) f fd ["thing"] spWhO := by
  refine F.ok sc_is_whole (fun vs H Q E h => ?_) (fun cdv A outer s H vs Q E hr h => ?_)
  · obtain ⟨i, rfl, _⟩ := h
    rfl
  · obtain ⟨x, rfl, q⟩ := h
    refine ⟨_, pss_one (ps_ret (pe_and (pe_callB call_isi (by rfl) mi (by decide +kernel) (pa_cons (pv 0) (pa_cons (pe_bltn (v := .ty "int") (by rfl) mI (by decide +kernel) rfl) pa_nil))) (pe_one (pe_not (pe_callB call_isi (by rfl) mi (by decide +kernel) (pa_cons (pv 0) (pa_cons (pe_bltn (v := .ty "bool") (by rfl) mB (by decide +kernel) rfl) pa_nil))))))), ?_⟩
    cases x with
    | some i =>
      refine ⟨.int i, rfl, .int i, .ty "int", .type "int", .type "int", true, rfl, .ty "int", .base (.int i), kit_ty (by decide +kernel), true, rfl, iteT ?_⟩
      exact ⟨.int i, rfl, .int i, .ty "bool", .type "int", .type "bool", false, rfl, .ty "bool", .base (.int i), kit_ty (by decide +kernel), false, rfl, q⟩
    | none => exact ⟨.non, rfl, .non, .ty "int", .type "NoneType", .type "int", false, rfl, .ty "int", .base .non, kit_ty (by decide +kernel), false, rfl, iteF q⟩
def spNbO : Sp := fun vs H Q _ => ∃ (x : Option Int) (m : Int), vs = [oV x, .int m] ∧ Q (.bl (numB m x)) H
theorem ok_nbO {f fW : Addr} {fd fdW : FuncData} {k : Nat} (F : Fun K "is_number_below" "is_number_below" s_is_number_below f fd) (GW : FnOk P w K mg base CX0 (k + 1) fW fdW ["thing"] spWhO) (kW : PySem.W.keepIn K (.ref fW) = true) (bW : Binds K fdW ["thing"] []) (gW : mg "is_whole" = some (.ref fW)) :
    FnOk P w K mg base CX0 (k + 2) f fd ["thing", "many"] spNbO := by
  refine F.ok sc_is_number_below (fun vs H Q E h => ?_) (fun cdv A outer s H vs Q E hr h => ?_)
  · obtain ⟨i, m, rfl, _⟩ := h
    rfl
  · obtain ⟨x, m, rfl, q⟩ := h
    refine ⟨_, pss_one (ps_ret (pe_and (pe_call GW hr (by rfl) gW kW bW .nil pass0 (pa_cons (pv 0) pa_nil)) (pe_one (pe_chain op_le op_lt pe_int (pv 0) (pv 1))))), ?_⟩
    cases x with
    | none => exact ⟨.non, rfl, none, rfl, false, rfl, iteF q⟩
    | some i =>
      refine ⟨.int i, rfl, some i, rfl, true, rfl, iteT ?_⟩
      have q' : Q (.bl (decide (0 ≤ i) && decide (i < m))) H := q
      refine ⟨.int i, rfl, 0, i, rfl, rfl, _, rfl, ite2 (fun h0 => ?_) (fun h0 => ?_)⟩
      · rw [h0, Bool.true_and] at q'
        exact ⟨.int m, rfl, i, m, rfl, rfl, q'⟩
      · have h0' : decide (0 ≤ i) = false := by simpa using h0
        rw [h0', Bool.false_and] at q'
        exact q'
def spDeO : Sp := fun vs H Q _ => ∃ (r : Addr) (p : Pt) (m : Int), vs = [.ref r, .int m] ∧ H r = some (.tup (pV p)) ∧ p.2.length ≤ 100000 ∧ ∀ H', Same H H' → Q (.bl (deedB m p)) H'
theorem ok_deO {f fN pl : Addr} {es : Array DictEntry} {n : Nat} {fd fdN : FuncData} {k : Nat} (F : Fun K "is_deed" "is_deed" s_is_deed f fd) (GN : FnOk P w K mg base CX0 (k + 2) fN fdN ["thing", "many"] spNbO) (kN : PySem.W.keepIn K (.ref fN) = true) (bN : Binds K fdN ["thing", "many"] []) (gN : mg "is_number_below" = some (.ref fN))
    (D : PlOk K w pl es n) (gP : mg "PLACES" = some (.ref pl)) (mi : mg "isinstance" = none) (mt : mg "tuple" = none) (mS : mg "str" = none) (mn : mg "len" = none) (ma : mg "all" = none) : FnOk P w K mg base CX0 (k + 3) f fd ["thing", "ahead"] spDeO := by
  refine F.ok sc_is_deed (fun vs H Q E h => ?_) (fun cdv A outer s H vs Q E hr h => ?_)
  · obtain ⟨r, d, m, rfl, _⟩ := h
    rfl
  · obtain ⟨r, p, m, rfl, er, hlen, q⟩ := h
    refine ⟨_, pss_cons (ps_if (PW.pt (pw_or (pt_not (pt_val (pe_callB call_isi (by rfl) mi (by decide +kernel) (pa_cons (pv 0) (pa_cons (pe_bltn (v := .ty "tuple") (by rfl) mt (by decide +kernel) rfl) pa_nil))))) (pw_or1 (pt_cmpR op_eq (pe_callB call_len_seq (by rfl) mn PySem.boot_len (pa_cons (pv 0) pa_nil)) pe_int (nomark _))))) (pss_one (ps_ret pe_bl)) pss_nil)
      (pss_cons (ps_set (i := 2) sc_is_deed.nd rfl (.inl rfl) (pe_ix ix_tup (pv 0) pe_int (fun _ _ => rfl)))
      (pss_cons (ps_if (PW.pt (pw_or (pt_not (pt_val (pe_callB call_isi (by rfl) mi (by decide +kernel) (pa_cons (pv 2) (pa_cons (pe_bltn (v := .ty "str") (by rfl) mS (by decide +kernel) rfl) pa_nil))))) (pw_or1 (pt_cmpR (op_notIn_kd D.d) (pv 2) (pe_glob (v := .ref pl) (by rfl) gP rfl) (by rfl))))) (pss_one (ps_ret pe_bl)) pss_nil)
      (pss_cons (ps_set (i := 3) sc_is_deed.nd rfl (.inl rfl) (pe_slice sl_tup (pv 0) (po_some pe_int) po_none))
      (pss_one (ps_ret (pe_and (pe_cmpR op_eq (pe_callB call_len_seq (by rfl) mn PySem.boot_len (pa_cons (pv 3) pa_nil)) (pe_ix ix_kdict (pe_glob (v := .ref pl) (by rfl) gP rfl) (pv 2) (fun _ _ => rfl)) (nomark _))
        (pe_one (pe_callB (cr_all rfl) (by rfl) ma (by decide +kernel) (pa_cons
          (pe_lc (own := [("number", 4)]) (g := gName 4) (by rfl) sc_is_deed.nd (pi_tup (pv 3)) (blkOk_by (own := [("number", 4)]) (N := N_is_deed) (sc := defScope s_is_deed) (by decide +kernel))
            (fun _ _ _ _ _ => pg_name (i := 4) sc_is_deed.nd rfl (Or.inl rfl)) (fun _ _ _ _ _ => pts_nil)
            (fun _ _ _ _ _ => pe_call GN hr (by rfl) gN kN bN .nil pass0 (pa_cons (pv 4) (pa_cons (pv 1) pa_nil)))) pa_nil))))))))), ?_⟩
    have ln : ((pV p).length : Int) = p.2.length + 1 := by
      show (((_ :: List.map _ _).length : Nat) : Int) = _
      rw [List.length_cons, List.length_map]
      omega
    refine ⟨.ref r, rfl, .ref r, .ty "tuple", .type "tuple", .type "tuple", true, rfl, .ty "tuple", .base (.tup er), kit_ty (by decide +kernel), true, rfl, ?_⟩
    refine ⟨.ref r, rfl, r, _, rfl, .inr (SqT.of er), ⟨rfl, _, rfl, ite2 (fun e => ?_) (fun e => ?_)⟩⟩
    · have e2 := intEq e
      exfalso
      omega
    refine ⟨.ref r, rfl, r, _, 0, .str p.1, rfl, rfl, SqT.of er, atI_nat (j := 0) rfl, ?_⟩
    refine ⟨.str p.1, rfl, .str p.1, .ty "str", .type "str", .type "str", true, rfl, .ty "str", .base (.str p.1), kit_ty (by decide +kernel), true, rfl, ?_⟩
    by_cases hw : ∃ c, (p.1, c) ∈ fwL
    · obtain ⟨c, hc⟩ := hw
      rw [deedB_at hc] at q
      obtain ⟨t, ht⟩ := D.at_ _ hc
      refine ⟨.str p.1, rfl, p.1, _, rfl, rfl, ht, false, rfl, ?_⟩
      refine ⟨.ref r, rfl, 1, rfl, r, pV p, rfl, SqT.of er, notWhole _ _, fun T hT => ?_⟩
      rw [show cutV (pV p) (some 1) none = p.2.map oV from cutTail _ _]
      have sT := same_new (o := .tup (p.2.map oV)) hT
      refine ⟨.ref T, rfl, T, _, rfl, .inr (SqT.of upd_same), .str p.1, rfl, pl, p.1, .int c, rfl, rfl, ⟨es, n, _, D.d.at_, D.d.lit, ht, ⟨t, rfl⟩⟩, ⟨rfl, _, rfl, ite2 (fun he => ?_) (fun he => ?_)⟩⟩
      · have e3 := intEq he
        rw [List.length_map] at e3
        rw [decide_eq_true e3.symm, Bool.true_and] at q
        refine ⟨.ref T, rfl, T, rfl, ⟨_, SqT.of upd_same⟩, fun C hC => ?_⟩
        have sC : ∀ o, Same (upd H T (.tup (p.2.map oV))) (upd (upd H T (.tup (p.2.map oV))) C o) := fun o => same_new hC
        refine lc_tup (K := K) (a := T) (xs := p.2.map oV) (fun j H4 => H4 = upd (upd H T (.tup (p.2.map oV))) C (.lst (((p.2.take j).map (numB m)).map V.bl))) rfl (fun j H4 _ h4 => ?_) (fun j x H4 hx h4 => ?_) (fun H4 h4 => ?_)
        · rw [h4]
          exact SqT.of (sC _ _ _ upd_same)
        · subst h4
          have hj := (List.getElem?_eq_some_iff.mp hx).1
          rw [List.length_map] at hj
          rw [List.getElem?_map] at hx
          obtain ⟨z, hz, rfl⟩ := Option.map_eq_some_iff.mp hx
          refine ⟨rfl, oV z, rfl, .int m, rfl, z, m, rfl, _, upd_same, ?_, ?_⟩
          · rw [List.length_map, List.length_map, List.length_take, sizeLine_eq]
            omega
          · rw [upd_upd, List.take_add_one, hz]
            simp
        · have eC : H4 C = some (.lst ((p.2.map (numB m)).map V.bl)) := by rw [h4, upd_same, List.length_map, List.take_length]
          have s4 : Same (upd H T (.tup (p.2.map oV))) H4 := by rw [h4]; exact sC _
          refine ⟨C, _, rfl, .inl (.inl eC), ?_⟩
          have ea : (p.2.map (numB m)).all id = p.2.all (numB m) := by rw [List.all_map]; rfl
          rw [ea]
          exact q H4 (sT.trans s4)
      · have e3 := intNe he
        rw [List.length_map] at e3
        rw [decide_eq_false (fun z => e3 z.symm), Bool.false_and] at q
        exact q _ sT
    · have hno : ∀ q ∈ fwL, ¬ q.1 = p.1 := fun q' hq e => hw ⟨q'.2, by rw [← e]; exact hq⟩
      rw [deedB_no hno] at q
      refine ⟨.str p.1, rfl, p.1, _, rfl, rfl, ns_no D.d.at_ D.ks hno, true, rfl, ?_⟩
      exact q H (Same.refl H)
def spAdO : Sp := fun vs H Q _ => ∃ (D : Addr) (rs : List Addr) (mid : List Pt) (m : Int), vs = [.ref D, .int m] ∧ H D = some (.tup (rs.map V.ref)) ∧ PtsAt H rs mid ∧ (∀ p ∈ mid, p.2.length ≤ 100000) ∧ ∀ H', Same H H' → Q (.bl (decide (mid.length ≤ 8) && (midB m mid).all id)) H'
theorem ok_adO {f fE : Addr} {t : Tok} {fd fdE : FuncData} {k : Nat} (F : Fun K "are_deeds" "are_deeds" s_are_deeds f fd) (GE : FnOk P w K mg base CX0 (k + 3) fE fdE ["thing", "ahead"] spDeO) (kE : PySem.W.keepIn K (.ref fE) = true) (bE : Binds K fdE ["thing", "ahead"] []) (gE : mg "is_deed" = some (.ref fE))
    (gM : mg "MOST_DEEDS" = some (.int 8 t)) (mi : mg "isinstance" = none) (mt : mg "tuple" = none) (mn : mg "len" = none) (ma : mg "all" = none) (me : mg "enumerate" = none) : FnOk P w K mg base CX0 (k + 4) f fd ["thing", "many"] spAdO := by
  refine F.ok sc_are_deeds (fun vs H Q E h => ?_) (fun cdv A outer s H vs Q E hr h => ?_)
  · obtain ⟨D, rs, ds, m, rfl, _⟩ := h
    rfl
  · obtain ⟨D, rs, mid, m, rfl, eD, hd, hls, q⟩ := h
    refine ⟨_, pss_cons (ps_if (PW.pt (pw_or (pt_not (pt_val (pe_callB call_isi (by rfl) mi (by decide +kernel) (pa_cons (pv 0) (pa_cons (pe_bltn (v := .ty "tuple") (by rfl) mt (by decide +kernel) rfl) pa_nil))))) (pw_or1 (pt_cmpR op_gt (pe_callB call_len_seq (by rfl) mn PySem.boot_len (pa_cons (pv 0) pa_nil)) (pe_glob (v := .int 8) (by rfl) gM ⟨t, rfl⟩) (nomark _))))) (pss_one (ps_ret pe_bl)) pss_nil)
      (pss_one (ps_ret (pe_callB (cr_all rfl) (by rfl) ma (by decide +kernel) (pa_cons
        (pe_lc (own := [("at", 2), ("deed", 3)]) (g := gTup K 2 (gCons (gName 2) (gCons (gName 3) gNil))) (by rfl) sc_are_deeds.nd (pi_enumT (by rfl) me (pa_cons (pv 0) pa_nil)) (blkOk_by (own := [("at", 2), ("deed", 3)]) (N := N_are_deeds) (sc := defScope s_are_deeds) (by decide +kernel))
          (fun _ _ _ _ _ => pg_tup rfl (pgs_cons (pg_name (i := 2) sc_are_deeds.nd rfl (.inl rfl)) (pgs_cons (pg_name (i := 3) sc_are_deeds.nd rfl (.inl rfl)) pgs_nil))) (fun _ _ _ _ _ => pts_nil)
          (fun _ _ _ _ _ => pe_call GE hr (by rfl) gE kE bE .nil pass0 (pa_cons (pv 3) (pa_cons (pe_op op_add (pv 1) (pv 2)) pa_nil)))) pa_nil)))), ?_⟩
    have lr := awLen hd
    refine ⟨.ref D, rfl, .ref D, .ty "tuple", .type "tuple", .type "tuple", true, rfl, .ty "tuple", .base (.tup eD), kit_ty (by decide +kernel), true, rfl, ?_⟩
    refine ⟨.ref D, rfl, D, _, rfl, .inr (SqT.of eD), _, 8, rfl, rfl, _, rfl, ite2 (fun e => ?_) (fun e => ?_)⟩
    · have e2 := of_decide_eq_true e
      rw [List.length_map, lr] at e2
      rw [decide_eq_false (by omega), Bool.false_and] at q
      exact q H (Same.refl H)
    have h8 : mid.length ≤ 8 := by
      by_cases h : mid.length ≤ 8
      · exact h
      · exact absurd (decide_eq_true (by rw [List.length_map, lr]; omega)) e
    rw [decide_eq_true h8, Bool.true_and] at q
    refine ⟨.ref D, rfl, D, _, rfl, SqT.of eD, fun C hC => ?_⟩
    refine lc_it (walk_enumT (K := K) (a := D) (xs := rs.map V.ref)) (fun j H4 => H4 C = some (.lst ((midB m (mid.take j)).map V.bl)) ∧ Same H H4) ⟨upd_same, same_new hC⟩ (fun j H4 _ h4 => SqT.of (h4.2 _ _ eD)) (fun j x H4 H5 hj h4 hx => ?_) (fun H4 h4 => ?_)
    · obtain ⟨eC, s4⟩ := h4
      obtain ⟨U, x1, x2, rfl, hU, rfl, g1, g2⟩ := hx
      have hj2 : j < rs.length := by rwa [List.length_map] at hj
      obtain rfl : x1 = .int (j : Nat) := (Option.some.inj g1).symm
      have e2 : x2 = .ref rs[j] := by
        have g2' : (rs.map V.ref)[j]? = some x2 := g2
        rw [List.getElem?_map, List.getElem?_eq_getElem hj2] at g2'
        exact (Option.some.inj g2').symm
      subst e2
      obtain ⟨p, hd1, hd2⟩ := awGet hd (List.getElem?_eq_getElem hj2)
      have sU := same_new (o := .tup [.int (j : Nat), .ref rs[j]]) hU
      refine ⟨U, [.int (j : Nat), .ref rs[j]], rfl, .inl (.inl upd_same), rfl, .int (j : Nat), [.ref rs[j]], rfl, .ref rs[j], [], rfl, rfl, rfl, .ref rs[j], rfl, .int m, rfl, .int (j : Nat), rfl, m, (j : Nat), rfl, rfl, rs[j], p, m + (j : Nat), rfl, sU _ _ (s4 _ _ hd2), hls p (List.mem_of_getElem? hd1), fun H6 s6 => ⟨_, s6 _ _ (sU _ _ eC), ?_, ?_, fun b u z => ?_⟩⟩
      · unfold midB
        rw [List.length_map, List.length_mapIdx, List.length_take]
        exact small1000 (by omega)
      · rw [upd_same, List.take_add_one, hd1]
        unfold midB
        rw [List.mapIdx_append, List.map_append, List.length_take, Nat.min_eq_left (by omega)]
        simp
      · rw [upd_ne (ne_of_none z hC)]
        exact s6 _ _ (sU _ _ (s4 b u z))
    · obtain ⟨eC, s4⟩ := h4
      rw [List.length_map, lr, List.take_length] at eC
      exact ⟨C, _, rfl, .inl (.inl eC), q H4 s4⟩
def spIrO : Sp := fun vs H Q _ => ∃ (R D : Addr) (rs : List Addr) (m o : Option Int) (mid : List Pt), vs = [.ref R] ∧ H R = some (.tup [oV m, .ref D, oV o]) ∧ H D = some (.tup (rs.map V.ref)) ∧ PtsAt H rs mid ∧ (∀ p ∈ mid, p.2.length ≤ 100000) ∧ ∀ H', Same H H' → Q (.bl (rowB m mid o)) H'
theorem ok_irO {f fW fA fN : Addr} {t : Tok} {fd fdW fdA fdN : FuncData} {k : Nat} (F : Fun K "is_row" "is_row" s_is_row f fd) (GW : FnOk P w K mg base CX0 (k + 1) fW fdW ["thing"] spWhO) (kW : PySem.W.keepIn K (.ref fW) = true) (bW : Binds K fdW ["thing"] []) (gW : mg "is_whole" = some (.ref fW))
    (GA : FnOk P w K mg base CX0 (k + 4) fA fdA ["thing", "many"] spAdO) (kA : PySem.W.keepIn K (.ref fA) = true) (bA : Binds K fdA ["thing", "many"] []) (gA : mg "are_deeds" = some (.ref fA))
    (GN : FnOk P w K mg base CX0 (k + 2) fN fdN ["thing", "many"] spNbO) (kN : PySem.W.keepIn K (.ref fN) = true) (bN : Binds K fdN ["thing", "many"] []) (gN : mg "is_number_below" = some (.ref fN))
    (gM : mg "MOST_INPUTS" = some (.int 3 t)) (mi : mg "isinstance" = none) (mt : mg "tuple" = none) (mn : mg "len" = none) : FnOk P w K mg base CX0 (k + 5) f fd ["thing"] spIrO := by
  refine F.ok sc_is_row (fun vs H Q E h => ?_) (fun cdv A outer s H vs Q E hr h => ?_)
  · obtain ⟨R, D, rs, m, o, mid, rfl, _⟩ := h
    rfl
  · obtain ⟨R, D, rs, m, o, mid, rfl, eR, eD, hd, hls, q⟩ := h
    have r1 := hr.mono (show k + 1 ≤ k + 4 by omega)
    have r2 := hr.mono (show k + 2 ≤ k + 4 by omega)
    refine ⟨_, pss_cons (ps_if (PW.pt (pw_or (pt_not (pt_val (pe_callB call_isi (by rfl) mi (by decide +kernel) (pa_cons (pv 0) (pa_cons (pe_bltn (v := .ty "tuple") (by rfl) mt (by decide +kernel) rfl) pa_nil))))) (pw_or1 (pt_cmpR op_ne (pe_callB call_len_seq (by rfl) mn PySem.boot_len (pa_cons (pv 0) pa_nil)) pe_int (nomark _))))) (pss_one (ps_ret pe_bl)) pss_nil)
      (pss_cons (ps_asg (pv 0) (pg_tup rfl (pgs_cons (pg_name (i := 1) sc_is_row.nd rfl (.inl rfl)) (pgs_cons (pg_name (i := 2) sc_is_row.nd rfl (.inl rfl)) (pgs_cons (pg_name (i := 3) sc_is_row.nd rfl (.inl rfl)) pgs_nil)))))
      (pss_cons (ps_if (PW.pt (pw_or (pt_not (pt_val (pe_call GW r1 (by rfl) gW kW bW .nil pass0 (pa_cons (pv 1) pa_nil)))) (pw_or1 (pt_not (pt_chain op_le op_le pe_int (pv 1) (pe_glob (v := .int 3) (by rfl) gM ⟨t, rfl⟩)))))) (pss_one (ps_ret pe_bl)) pss_nil)
      (pss_one (ps_ret (pe_and (pe_call GA hr (by rfl) gA kA bA .nil pass0 (pa_cons (pv 2) (pa_cons (pv 1) pa_nil))) (pe_one (pe_call GN r2 (by rfl) gN kN bN .nil pass0 (pa_cons (pv 3) (pa_cons (pe_op op_add (pv 1) (pe_callB call_len_seq (by rfl) mn PySem.boot_len (pa_cons (pv 2) pa_nil))) pa_nil))))))))), ?_⟩
    have lr := awLen hd
    refine ⟨.ref R, rfl, .ref R, .ty "tuple", .type "tuple", .type "tuple", true, rfl, .ty "tuple", .base (.tup eR), kit_ty (by decide +kernel), true, rfl, ?_⟩
    refine ⟨.ref R, rfl, R, _, rfl, .inr (SqT.of eR), ⟨rfl, _, rfl, iteNS rfl ?_⟩⟩
    refine ⟨.ref R, rfl, R, _, rfl, SqT.of eR, rfl, _, _, rfl, _, _, rfl, _, _, rfl, rfl, ?_⟩
    cases m with
    | none =>
      refine ⟨.non, rfl, none, rfl, false, rfl, ?_⟩
      exact q H (Same.refl H)
    | some m =>
      have q' : ∀ H', Same H H' → Q (.bl (decide (1 ≤ m ∧ m ≤ 3) && (decide (mid.length ≤ 8) && ((midB m mid).all id && numB (m + mid.length) o)))) H' := q
      refine ⟨.int m, rfl, some m, rfl, true, rfl, ?_⟩
      have no13 : ¬ (1 ≤ m ∧ m ≤ 3) → ∀ H', Same H H' → Q (.bl false) H' := fun hn H' s' => by
        have := q' H' s'
        rw [decide_eq_false hn, Bool.false_and] at this
        exact this
      refine ⟨.int m, rfl, 1, m, rfl, rfl, _, rfl, ?_⟩
      by_cases h1 : 1 ≤ m
      · rw [decide_eq_true h1]
        refine ⟨m, 3, rfl, rfl, _, rfl, ?_⟩
        by_cases h3 : m ≤ 3
        · rw [decide_eq_true h3]
          refine ⟨.ref D, rfl, .int m, rfl, D, rs, mid, m, rfl, eD, hd, hls, fun H2 s2 => ⟨_, rfl, ?_⟩⟩
          have q2 := q' H2 s2
          rw [decide_eq_true ⟨h1, h3⟩, Bool.true_and, ← Bool.and_assoc] at q2
          refine ite2 (fun hb => ?_) (fun hb => ?_)
          · rw [hb, Bool.true_and] at q2
            refine ⟨oV o, rfl, .int m, rfl, .ref D, rfl, D, _, rfl, .inr (SqT.of (s2 _ _ eD)), m, _, rfl, rfl, o, m + (((rs.map V.ref).length : Nat) : Int), rfl, ?_⟩
            rw [List.length_map, lr]
            exact q2
          · have hb' : (decide (mid.length ≤ 8) && (midB m mid).all id) = false := by simpa using hb
            rw [hb', Bool.false_and] at q2
            exact q2
        · rw [decide_eq_false h3]
          exact no13 (fun z => h3 z.2) H (Same.refl H)
      · rw [decide_eq_false h1]
        exact ⟨false, rfl, no13 (fun z => h1 z.1) H (Same.refl H)⟩
theorem spl_ne (S : List Nat) : ∀ (l : List Nat) (k : Nat) (acc : List Nat), TL.spl S k acc l ≠ []
  | [], k, acc => by
    rw [TL.spl_nil]
    simp
  | c :: r, 0, acc => by
    show (if TL.pre S (c :: r) = true then acc :: TL.spl S (S.length - 1) [] r else TL.spl S 0 (acc ++ [c]) r) ≠ []
    split
    · simp
    · exact spl_ne S r 0 _
  | c :: r, k + 1, acc => spl_ne S r k acc
theorem split_ne {t y : Str} (hy : TL.tl y ≠ []) (hk : y.cps.all (· < 256) = true) : Txt.split t y ≠ [] := by
  intro h
  have e := TL.split_spl t y hy (TL.kind_ok hk)
  rw [h] at e
  exact spl_ne _ _ _ _ e.symm
theorem mem_len {S p : List Nat} : ∀ {ps : List (List Nat)}, p ∈ ps → p.length ≤ (TL.joinL S ps).length
  | [q], h => by
    rw [List.mem_singleton.mp h]
    exact Nat.le_refl _
  | q :: q2 :: r, h => by
    show p.length ≤ (q ++ (S ++ TL.joinL S (q2 :: r))).length
    rw [List.length_append, List.length_append]
    rcases List.mem_cons.mp h with rfl | h
    · omega
    · have := mem_len (S := S) h
      omega
theorem split_part {t y p : Str} (h : p ∈ Txt.split t y) : p.length ≤ t.length := by
  have e := PySem.StrLaws.join_split t y
  have e2 : TL.tl t = TL.joinL (TL.tl y) ((Txt.split t y).map TL.tl) := by
    rw [← TL.tl_join, e]
  rw [TL.len_tl, TL.len_tl t, e2]
  exact mem_len (List.mem_map.mpr ⟨p, h, rfl⟩)
theorem fig_list : (Str.ofString "0123456789").cps.toList = [48, 49, 50, 51, 52, 53, 54, 55, 56, 57] := by decide +kernel
theorem fig_in (c : Nat) : decide (c ∈ (Str.ofString "0123456789").cps.toList) = figB c := by
  rw [fig_list]
  unfold figB
  by_cases h : 48 ≤ c ∧ c ≤ 57
  · rw [decide_eq_true h]
    apply decide_eq_true
    have : c = 48 ∨ c = 49 ∨ c = 50 ∨ c = 51 ∨ c = 52 ∨ c = 53 ∨ c = 54 ∨ c = 55 ∨ c = 56 ∨ c = 57 := by omega
    simpa using this
  · rw [decide_eq_false h]
    apply decide_eq_false
    intro hm
    simp only [List.mem_cons, List.not_mem_nil, or_false] at hm
    omega
theorem zero_tl : TL.tl (Str.ofString "0") = [48] := by decide +kernel
def spRn : Sp := fun vs H Q _ => ∃ w : Str, vs = [.str w] ∧ w.length ≤ 100000 ∧ ∀ H', Same H H' → Q (oV (numO w)) H'
theorem ok_rn {f : Addr} {t1 t2 : Tok} {fd : FuncData} {k : Nat} (F : Fun K "read_number" "read_number" s_read_number f fd) (gF : mg "FIGURES" = some (.str "0123456789" t1)) (gM : mg "MOST_FIGURES" = some (.int 19 t2)) (mn : mg "len" = none) (ma : mg "all" = none) (mI : mg "int" = none) :
    FnOk P w K mg base CX0 (k + 1) f fd ["word"] spRn := by
  refine F.ok sc_read_number (fun vs H Q E h => ?_) (fun cdv A outer s H vs Q E hr h => ?_)
  · obtain ⟨w', rfl, _⟩ := h
    rfl
  · obtain ⟨z, rfl, hz, q⟩ := h
    refine ⟨_, pss_cons (ps_if (PW.pt (pw_or (pt_not (pt_chain op_le op_le pe_int (pe_callB call_len_str (by rfl) mn PySem.boot_len (pa_cons (pv 0) pa_nil)) (pe_glob (v := .int 19) (by rfl) gM ⟨t2, rfl⟩)))
        (pw_or1 (pt_not (pt_val (pe_callB (cr_all rfl) (by rfl) ma (by decide +kernel) (pa_cons
          (pe_lc (own := [("sign", 1)]) (g := gName 1) (by rfl) sc_read_number.nd (pi_str (pv 0)) (blkOk_by (own := [("sign", 1)]) (N := N_read_number) (sc := defScope s_read_number) (by decide +kernel))
            (fun _ _ _ _ _ => pg_name (i := 1) sc_read_number.nd rfl (Or.inl rfl)) (fun _ _ _ _ _ => pts_nil)
            (fun _ _ _ _ _ => pe_cmpR op_in_sign (pv 1) (pe_glob (v := .str "0123456789") (by rfl) gF ⟨t1, rfl⟩) (by rfl))) pa_nil))))))) (pss_one (ps_ret pe_non)) pss_nil)
      (pss_cons (ps_if (PW.pt (pw_and (pt_cmpR op_eq (pe_item_str (pv 0) pe_int (fun _ _ => rfl)) pe_str (nomark _)) (pw_and1 (pt_cmpR op_ne (pv 0) pe_str (nomark _))))) (pss_one (ps_ret pe_non)) pss_nil)
      (pss_one (ps_ret (pe_callTy call_int_str (by rfl) mI (by decide +kernel) (pa_cons (pv 0) pa_nil))))), ?_⟩
    have lz := TL.len_tl z
    have hzs : z.length ≤ sizeLine := by rw [sizeLine_eq]; omega
    have bad : numOk (TL.tl z) = false → ∀ H', Same H H' → Q .non H' := fun hb H' s' => by
      have := q H' s'
      unfold numO at this
      rw [if_neg (by rw [hb]; exact Bool.false_ne_true)] at this
      exact this
    have nlen : ¬ (1 ≤ (TL.tl z).length ∧ (TL.tl z).length ≤ 19) → numOk (TL.tl z) = false := fun hn => by
      unfold numOk
      rw [decide_eq_false hn, Bool.false_and, Bool.false_and]
    refine ⟨.str z, rfl, z, rfl, hzs, 1, _, rfl, rfl, _, rfl, ?_⟩
    by_cases h1 : (1 : Int) ≤ (z.length : Int)
    · rw [decide_eq_true h1]
      refine ⟨_, 19, rfl, rfl, _, rfl, ?_⟩
      by_cases h19 : (z.length : Int) ≤ 19
      · rw [decide_eq_true h19]
        have hl : 1 ≤ (TL.tl z).length ∧ (TL.tl z).length ≤ 19 := by omega
        refine ⟨.str z, rfl, z, rfl, fun C hC => ?_⟩
        have sC : ∀ o, Same H (upd H C o) := fun o => same_new hC
        refine lc_it (walk_str (z := z)) (fun j H4 => H4 = upd H C (.lst ((((TL.tl z).take j).map figB).map V.bl))) rfl (fun _ _ _ _ => trivial) (fun j x H4 H5 hj h4 hx => ?_) (fun H4 h4 => ?_)
        · obtain ⟨rfl, c, hc, rfl⟩ := hx
          subst h4
          have hc' : (TL.tl z)[j]? = some c := by
            show z.cps.toList[j]? = some c
            rw [Array.getElem?_toList]
            exact hc
          refine ⟨rfl, .str ⟨#[c]⟩, rfl, c, _, rfl, rfl, _, upd_same, ?_, ?_⟩
          · rw [List.length_map, List.length_map, List.length_take]
            exact small1000 (by omega)
          · rw [upd_upd, List.take_add_one, hc', fig_in]
            simp
        · have esz : z.cps.size = (TL.tl z).length := by rw [← lz]; rfl
          have eC : H4 C = some (.lst (((TL.tl z).map figB).map V.bl)) := by rw [h4, upd_same, esz, List.take_length]
          have s4 : Same H H4 := by rw [h4]; exact sC _
          have ea : ((TL.tl z).map figB).all id = (TL.tl z).all figB := by rw [List.all_map]; rfl
          refine ⟨C, _, rfl, .inl (.inl eC), _, rfl, ?_⟩
          rw [ea]
          by_cases hall : (TL.tl z).all figB = true
          · rw [hall]
            have h63 : (0 : Int) < 2 ^ 63 := by decide
            obtain ⟨c, r, ecr⟩ : ∃ c r, TL.tl z = c :: r := by
              cases e : TL.tl z with
              | nil => rw [e] at hl; simp at hl
              | cons c r => exact ⟨c, r, rfl⟩
            have hc0 : z.cps[(0 : Int).toNat]? = some c := by
              have : z.cps.toList[0]? = some c := by
                show (TL.tl z)[0]? = some c
                rw [ecr]
                rfl
              rw [Array.getElem?_toList] at this
              exact this
            refine ⟨.str z, rfl, z, 0, c, rfl, rfl, by decide, h63, by omega, hc0, ⟨rfl, _, rfl, ?_⟩⟩
            have good : (c = 48 → TL.tl z = [48]) → ∃ v, (Sum.inl () : Unit ⊕ Unit) = Sum.inl () ∧ numO z = some v ∧ PySem.intText? z = some v := fun hh => by
              have hok : numOk (TL.tl z) = true := by
                unfold numOk
                rw [decide_eq_true hl, hall, Bool.true_and, Bool.true_and]
                by_cases e48 : c = 48
                · rw [decide_eq_true (hh e48), Bool.not_true, Bool.and_false]
                  rfl
                · rw [ecr, decide_eq_false (show ¬ (c :: r).head? = some 48 from fun z => e48 (Option.some.inj z)), Bool.false_and]
                  rfl
              obtain ⟨g1, g2, g3, g4⟩ := numOk_parts hok
              refine ⟨_, rfl, by unfold numO; rw [if_pos hok], ?_⟩
              exact PySem.intText_digits g3 (fun z' => by have : TL.tl z = [] := z'; rw [this] at hl; simp at hl) (by omega)
            have ec : decide (V.str ⟨#[c]⟩ = V.str (Str.ofString "0")) = decide (c = 48) := by
              by_cases e48 : c = 48
              · subst e48
                rw [decide_eq_true rfl]
                exact decide_eq_true (by decide +kernel)
              · rw [decide_eq_false e48]
                apply decide_eq_false
                intro e
                have e2 := congrArg TL.tl (V.str.inj e)
                rw [zero_tl] at e2
                have e3 : ([c] : List Nat) = [48] := e2
                exact e48 (List.cons.inj e3).1
            rw [ec]
            by_cases e48 : c = 48
            · rw [decide_eq_true e48]
              refine ⟨.str z, rfl, ⟨rfl, _, rfl, ite2 (fun hne => ?_) (fun heq => ?_)⟩⟩
              · have hne2 : ¬ TL.tl z = [48] := fun e => by
                  have : z = Str.ofString "0" := TL.ext_tl (by rw [zero_tl]; exact e)
                  rw [this, decide_eq_true rfl] at hne
                  cases hne
                refine bad ?_ H4 s4
                unfold numOk
                rw [decide_eq_false hne2, ecr, e48, decide_eq_true (show (48 :: r).head? = some 48 from rfl)]
                simp
              · have he : TL.tl z = [48] := by
                  by_cases e : z = Str.ofString "0"
                  · rw [e, zero_tl]
                  · exact absurd (by rw [decide_eq_false (fun y => e (V.str.inj y))]; rfl) heq
                obtain ⟨v, _, hv, hi⟩ := good fun _ => he
                have := q H4 s4
                rw [hv] at this
                exact ⟨.str z, rfl, z, v, rfl, hi, by omega, this⟩
            · rw [decide_eq_false e48]
              obtain ⟨v, _, hv, hi⟩ := good fun e => absurd e e48
              have := q H4 s4
              rw [hv] at this
              exact ⟨.str z, rfl, z, v, rfl, hi, by omega, this⟩
          · have hall' : (TL.tl z).all figB = false := by simpa using hall
            rw [hall']
            refine bad ?_ H4 s4
            unfold numOk
            rw [hall', Bool.and_false, Bool.false_and]
      · rw [decide_eq_false h19]
        exact bad (nlen (by omega)) H (Same.refl H)
    · rw [decide_eq_false h1]
      exact ⟨false, rfl, bad (nlen (by omega)) H (Same.refl H)⟩
def spRp : Sp := fun vs H Q _ => ∃ t : Str, vs = [.str t] ∧ t.length ≤ 100000 ∧ ∀ H' r, Same H H' → H' r = some (.tup (pV (partO t))) → Q (.ref r) H'
theorem ok_rp {f fN : Addr} {fd fdN : FuncData} {k : Nat} (F : Fun K "read_part" "read_part" s_read_part f fd) (GN : FnOk P w K mg base CX0 (k + 1) fN fdN ["word"] spRn) (kN : PySem.W.keepIn K (.ref fN) = true) (bN : Binds K fdN ["word"] []) (gN : mg "read_number" = some (.ref fN)) (mt : mg "tuple" = none) :
    FnOk P w K mg base CX0 (k + 2) f fd ["text"] spRp := by
  refine F.ok sc_read_part (fun vs H Q E h => ?_) (fun cdv A outer s H vs Q E hr h => ?_)
  · obtain ⟨w', rfl, _⟩ := h
    rfl
  · obtain ⟨t, rfl, ht, q⟩ := h
    refine ⟨_, pss_cons (ps_set (i := 1) sc_read_part.nd rfl (.inl rfl) (pe_split (pv 0) pe_str))
      (pss_one (ps_ret (pe_op op_catZ (pe_tup (pa_cons (pe_ix ix_list (pv 1) pe_int (fun _ _ => rfl)) pa_nil)) (pe_callTy call_tuple_of (by rfl) mt (by decide +kernel) (pa_cons
        (pe_lc (own := [("word", 2)]) (g := gName 2) (by rfl) sc_read_part.nd (pi_list (pe_slice sl_list (pv 1) (po_some pe_int) po_none)) (blkOk_by (own := [("word", 2)]) (N := N_read_part) (sc := defScope s_read_part) (by decide +kernel))
          (fun _ _ _ _ _ => pg_name (i := 2) sc_read_part.nd rfl (Or.inl rfl)) (fun _ _ _ _ _ => pts_nil)
          (fun _ _ _ _ _ => pe_call GN hr (by rfl) gN kN bN .nil pass0 (pa_cons (pv 2) pa_nil))) pa_nil))))), ?_⟩
    have hne : Txt.split t " " ≠ [] := split_ne (by decide +kernel) (by decide +kernel)
    have hle := PyProof.Rows.split_le t " "
    have hpt : ∀ p ∈ Txt.split t " ", p.length ≤ 100000 := fun p hp => Nat.le_trans (split_part hp) ht
    obtain ⟨wd, ws, ews⟩ : ∃ wd ws, Txt.split t " " = wd :: ws := by
      cases e : Txt.split t " " with
      | nil => exact absurd e hne
      | cons x xs => exact ⟨x, xs, rfl⟩
    have eP : partO t = (wd, ws.map numO) := by unfold partO; rw [ews]
    rw [ews] at hle hpt
    refine ⟨.str t, rfl, ⟨_, rfl⟩, t, " ", rfl, rfl, by decide +kernel, by rw [sizeLine_eq]; omega, fun L hL => ?_⟩
    rw [ews]
    have sL := same_new (o := .lst ((wd :: ws).map V.str)) hL
    refine ⟨.ref L, rfl, L, _, 0, .str wd, rfl, rfl, .inl (.inl upd_same), atI_nat (j := 0) rfl, (by show 1 ≤ sizeLine; decide), fun U hU => ?_⟩
    have sU := same_new (o := .tup [.str wd]) hU
    refine ⟨.ref L, rfl, 1, rfl, L, _, rfl, .inl (.inl (sU _ _ upd_same)), fun T hT => ?_⟩
    rw [show cutV ((wd :: ws).map V.str) (some 1) none = ws.map V.str from cutTail _ _]
    have sT := same_new (o := .lst (ws.map V.str)) hT
    obtain ⟨H3, hH3⟩ : ∃ H3, H3 = upd (upd (upd H L (.lst ((wd :: ws).map V.str))) U (.tup [.str wd])) T (.lst (ws.map V.str)) := ⟨_, rfl⟩
    have eT : H3 T = some (.lst (ws.map V.str)) := by rw [hH3]; exact upd_same
    have eU : H3 U = some (.tup [.str wd]) := by rw [hH3]; exact sT _ _ upd_same
    have s3 : Same H H3 := by rw [hH3]; exact sL.trans (sU.trans sT)
    rw [← hH3]
    refine ⟨T, rfl, ⟨_, .inl (.inl eT)⟩, fun C hC => ?_⟩
    refine lc_list (K := K) (a := T) (xs := ws.map V.str) (fun j H4 => H4 C = some (.lst (((ws.take j).map numO).map oV)) ∧ Same H3 H4) ⟨upd_same, same_new hC⟩ (fun j H4 _ h4 => .inl (.inl (h4.2 _ _ eT))) (fun j x H4 hx h4 => ?_) (fun H4 h4 => ?_)
    · obtain ⟨eC, s4⟩ := h4
      have hj := (List.getElem?_eq_some_iff.mp hx).1
      rw [List.length_map] at hj
      rw [List.getElem?_map] at hx
      obtain ⟨z, hz, rfl⟩ := Option.map_eq_some_iff.mp hx
      refine ⟨rfl, .str z, rfl, z, rfl, hpt z (List.mem_cons_of_mem _ (List.mem_of_getElem? hz)), fun H5 s5 => ⟨_, s5 _ _ eC, ?_, ?_, ?_⟩⟩
      · rw [List.length_map, List.length_map, List.length_take, sizeLine_eq]
        rw [List.length_cons] at hle
        omega
      · rw [upd_same, List.take_add_one, hz]
        simp
      · intro b u e
        rw [upd_ne (ne_of_none e hC)]
        exact s5 _ _ (s4 _ _ e)
    · obtain ⟨eC, s4⟩ := h4
      rw [List.length_map, List.take_length] at eC
      refine ⟨C, _, rfl, .inl ⟨.inl (.inl eC), fun Z hZ => ?_⟩⟩
      have sZ := same_new (o := .tup ((ws.map numO).map oV)) hZ
      refine ⟨U, Z, _, _, rfl, rfl, sZ _ _ (s4 _ _ eU), upd_same, ?_, fun p H5 s5 e5 => ?_⟩
      · rw [List.length_map, List.length_map, sizeLine_eq]
        rw [List.length_cons] at hle
        show 1 + ws.length ≤ _
        omega
      · refine q H5 p (s3.trans (s4.trans (sZ.trans s5))) ?_
        rw [eP]
        exact e5
theorem neT {x y : Int} (h : (!decide (V.int x = V.int y)) = true) : ¬ x = y := fun e => by
  rw [decide_eq_true (congrArg V.int e)] at h
  cases h
theorem neF {x y : Int} (h : ¬ (!decide (V.int x = V.int y)) = true) : x = y := by
  by_cases e : x = y
  · exact e
  · exfalso
    apply h
    rw [decide_eq_false (fun z => e (V.int.inj z))]
    rfl
/-- a class of the program whose instances are raised -/
structure Rai (K : PySem.W.Frag) (mg : Str → Option Value) (x : Str) (C : Addr) : Prop where
  q : PySem.W.excIn K C [.type "ValueError", .type "Exception", .type "BaseException", .type "object"] "ValueError.__new__" = true
  g : mg x = some (.ref C)
  k : PySem.W.keepIn K (.ref C) = true
  s : PySem.W.subIn K (.ref C) (.type "BaseException") = some true
  t : PySem.W.typeIn K (.ref C) = some (.type "type")
theorem atI_last (l : List V) (x : V) : atI (l ++ [x]) (-1) = some x := by
  unfold atI ixN
  rw [if_neg (by decide), if_pos (by rw [List.length_append, List.length_singleton]; omega)]
  have e : ((-1 : Int) + ((l ++ [x]).length : Int)).toNat = l.length := by rw [List.length_append, List.length_singleton]; omega
  show (l ++ [x])[((-1 : Int) + ((l ++ [x]).length : Int)).toNat]? = some x
  rw [e, List.getElem?_append_right (Nat.le_refl _), Nat.sub_self]
  rfl
theorem cutMid {xs : List V} (h : xs ≠ []) : cutV xs (some 1) (some (-1)) = (xs.drop 1).dropLast := by
  have hl : 1 ≤ xs.length := by
    cases xs with
    | nil => exact absurd rfl h
    | cons x l => rw [List.length_cons]; omega
  have h1 : HT.sIx xs.length 0 (some 1) = 1 := by
    have : HT.sIx xs.length 0 (some 1) = min 1 xs.length := HT.sIx_nat _ _ 1
    rw [this]
    omega
  have h2 : HT.sIx xs.length xs.length (some (-1)) = xs.length - 1 := by
    show (if (-1 : Int) < 0 then ((-1 : Int) + (xs.length : Int)).toNat else min (-1 : Int).toNat xs.length) = _
    rw [if_pos (by decide)]
    omega
  unfold cutV
  rw [h1, h2, List.dropLast_eq_take, List.length_drop]
theorem awDrop {α β : Type} {F : α → β → Prop} : ∀ {l : List α} {l2 : List β} (k : Nat), Paired F l l2 → Paired F (l.drop k) (l2.drop k)
  | _, _, 0, h => h
  | _, _, _ + 1, .nil => .nil
  | _, _, k + 1, .cons _ t => awDrop k t
theorem awDropLast {α β : Type} {F : α → β → Prop} : ∀ {l : List α} {l2 : List β}, Paired F l l2 → Paired F l.dropLast l2.dropLast
  | _, _, .nil => .nil
  | _, _, .cons _ .nil => .nil
  | _, _, .cons r (.cons r2 t) => .cons r (awDropLast (.cons r2 t))
theorem lastD' {α : Type} (l : List α) (y d : α) : (l ++ [y]).getLastD d = y := by
  cases l with
  | nil => rfl
  | cons x l => exact lastD x l y d
theorem pV_deed (d : Deed) : pV (ptOf d) = dV d := by
  unfold pV ptOf dV
  rw [List.map_map]
  rfl
theorem ptsDs {H : Hp} : ∀ {as : List Addr} {ds : List Deed}, PtsAt H as (ds.map ptOf) → DsAt H as ds
  | [], [], _ => .nil
  | [], _ :: _, h => by cases h
  | _ :: _, [], h => by cases h
  | a :: as, d :: ds, h => by
    cases h with
    | cons r t => exact .cons (by rw [← pV_deed]; exact r) (ptsDs t)
theorem part_nums {s : Str} : (partO s).2.length ≤ s.length + 2 := by
  have h := PyProof.Rows.split_le s " "
  unfold partO
  split
  · exact Nat.zero_le _
  · rename_i w ws e
    rw [e, List.length_cons] at h
    rw [List.length_map]
    omega
def readC (ps : List Pt) : Prop := (ps.headD ("", [])).2.length = 1 ∧ (ps.headD ("", [])).1 = "in" ∧ (ps.getLastD ("", [])).2.length = 1 ∧ (ps.getLastD ("", [])).1 = "out" ∧ rowB ((ps.headD ("", [])).2.headD none) ((ps.drop 1).dropLast) ((ps.getLastD ("", [])).2.headD none) = true
theorem read_none {t : Str} (h : ¬ readC (partsO t)) : readS t = none := if_neg h
theorem read_some {t : Str} (h : readC (partsO t)) : readS t = some ⟨((partsO t).headD ("", [])).2.headD none |>.getD 0, midD (((partsO t).drop 1).dropLast), ((partsO t).getLastD ("", [])).2.headD none |>.getD 0⟩ := if_pos h
def spRr (cN : Addr) : Sp := fun vs H Q E => ∃ t : Str, vs = [.str t] ∧ t.length ≤ 90000 ∧ (∀ r, readS t = some r → ∀ H' Z, Same H H' → RwAt H' Z r → Q (.ref Z) H') ∧ (readS t = none → ∀ H', Same H H' → E (.ref cN) none H')
theorem ok_rr {f fP fI cN : Addr} {fd fdP fdI : FuncData} {k : Nat} (F : Fun K "read_row" "read_row" s_read_row f fd) (rN : Rai K mg "NoText" cN) (GP : FnOk P w K mg base CX0 (k + 2) fP fdP ["text"] spRp) (kP : PySem.W.keepIn K (.ref fP) = true) (bP : Binds K fdP ["text"] []) (gP : mg "read_part" = some (.ref fP))
    (GI : FnOk P w K mg base CX0 (k + 5) fI fdI ["thing"] spIrO) (kI : PySem.W.keepIn K (.ref fI) = true) (bI : Binds K fdI ["thing"] []) (gI : mg "is_row" = some (.ref fI)) (mi : mg "isinstance" = none) (mS : mg "str" = none) (mn : mg "len" = none) (mt : mg "tuple" = none) :
    FnOk P w K mg base (L2.CX P w) (k + 6) f fd ["text"] (spRr cN) := by
  refine F.okX sc_read_row (fun vs H Q E h => ?_) (fun cdv A outer s H vs Q E hr h => ?_)
  · obtain ⟨t, rfl, _⟩ := h
    rfl
  · obtain ⟨t, rfl, ht, qS, qN⟩ := h
    have r2 := hr.mono (show k + 2 ≤ k + 5 by omega)
    refine ⟨_, pss_cons (ps_if (pt_not (pt_val (pe_callB call_isi (by rfl) mi (by decide +kernel) (pa_cons (pv 0) (pa_cons (pe_bltn (v := .ty "str") (by rfl) mS (by decide +kernel) rfl) pa_nil)))))
        (pss_one (ps_raise rfl (takes_of rfl rfl rfl rfl) (SkE.pmk_own1 PySem.F.excBase_ValueError rN.q rN.g rN.k (raises_own rN.s rN.t) (by rfl) pe_str))) pss_nil)
      (pss_cons (ps_setLc (i := 1) (own := [("part", 5)]) (g := gName 5) (by rfl) sc_read_row.nd rfl rfl (sw_true rfl rfl rfl (by decide +kernel)) (pi_list (pe_split (pv 0) pe_str)) (blkOk_by (own := [("part", 5)]) (N := N_read_row) (sc := defScope s_read_row) (by decide +kernel))
          (fun _ _ _ _ _ => pg_name (i := 5) sc_read_row.nd rfl (Or.inl rfl)) (fun _ _ _ _ _ => pts_nil) (fun _ _ _ _ _ => pe_call GP r2 (by rfl) gP kP bP .nil pass0 (pa_cons (pv 5) pa_nil)))
      (pss_cons (ps_par (i := 2) (j := 3) rfl sc_read_row.nd rfl rfl (by decide) rfl rfl (pa_cons (pe_ix ix_list (pv 1) pe_int (fun _ _ => rfl)) (pa_cons (pe_ix ix_list (pv 1) (pe_un un_neg pe_int) (fun _ _ => rfl)) pa_nil)) (by rfl))
      (pss_cons (ps_if (PW.pt (pw_or (pt_cmpR op_ne (pe_callB call_len_seq (by rfl) mn PySem.boot_len (pa_cons (pv 2) pa_nil)) pe_int (nomark _)) (pw_or (pt_cmpR op_ne (pe_ix ix_tup (pv 2) pe_int (fun _ _ => rfl)) pe_str (nomark _))
          (pw_or (pt_cmpR op_ne (pe_callB call_len_seq (by rfl) mn PySem.boot_len (pa_cons (pv 3) pa_nil)) pe_int (nomark _)) (pw_or1 (pt_cmpR op_ne (pe_ix ix_tup (pv 3) pe_int (fun _ _ => rfl)) pe_str (nomark _)))))))
        (pss_one (ps_raise rfl (takes_of rfl rfl rfl rfl) (SkE.pmk_own1 PySem.F.excBase_ValueError rN.q rN.g rN.k (raises_own rN.s rN.t) (by rfl) pe_str))) pss_nil)
      (pss_cons (ps_set (i := 4) sc_read_row.nd rfl (.inl rfl) (pe_tup (pa_cons (pe_ix ix_tup (pv 2) pe_int (fun _ _ => rfl)) (pa_cons (pe_callTy call_tuple_of (by rfl) mt (by decide +kernel) (pa_cons (pe_slice sl_list (pv 1) (po_some pe_int) (po_some (pe_un un_neg pe_int))) pa_nil)) (pa_cons (pe_ix ix_tup (pv 3) pe_int (fun _ _ => rfl)) pa_nil)))))
      (pss_cons (ps_if (pt_not (pt_val (pe_call GI hr (by rfl) gI kI bI .nil pass0 (pa_cons (pv 4) pa_nil))))
        (pss_one (ps_raise rfl (takes_of rfl rfl rfl rfl) (SkE.pmk_own1 PySem.F.excBase_ValueError rN.q rN.g rN.k (raises_own rN.s rN.t) (by rfl) pe_str))) pss_nil)
      (pss_one (ps_ret (pv 4)))))))), ?_⟩
    have hne : Txt.split t "; " ≠ [] := split_ne (by decide +kernel) (by decide +kernel)
    have hle := PyProof.Rows.split_le t "; "
    obtain ⟨S, hS⟩ : ∃ S, S = Txt.split t "; " := ⟨_, rfl⟩
    have hpt : ∀ p ∈ S, p.length ≤ 90000 := fun p hp => by
      rw [hS] at hp
      exact Nat.le_trans (split_part hp) ht
    have hps : partsO t = S.map partO := by rw [hS]; rfl
    refine ⟨.str t, rfl, .str t, .ty "str", .type "str", .type "str", true, rfl, .ty "str", .base (.str t), kit_ty (by decide +kernel), true, rfl, ?_⟩
    refine ⟨.str t, rfl, ⟨_, rfl⟩, t, "; ", rfl, rfl, by decide +kernel, by rw [sizeLine_eq]; omega, fun L0 hL0 => ?_⟩
    rw [← hS] at hne hle ⊢
    have sL0 := same_new (o := .lst (S.map V.str)) hL0
    refine ⟨L0, rfl, ⟨_, .inl (.inl upd_same)⟩, fun L hL => ?_⟩
    have eL0 : ∀ {H4 : Hp}, Same (upd H L0 (.lst (S.map V.str))) H4 → H4 L0 = some (.lst (S.map V.str)) := fun s4 => s4 _ _ upd_same
    refine lc_list (K := K) (a := L0) (xs := S.map V.str) (fun j H4 => ∃ as, H4 L = some (.lst (as.map V.ref)) ∧ PtsAt H4 as ((S.take j).map partO) ∧ Same (upd H L0 (.lst (S.map V.str))) H4) ⟨[], upd_same, .nil, same_new hL⟩ (fun j H4 _ h4 => by
      obtain ⟨_, _, _, s4⟩ := h4
      exact .inl (.inl (eL0 s4))) (fun j x H4 hx h4 => ?_) (fun H4 h4 => ?_)
    · obtain ⟨as, eL, has, s4⟩ := h4
      have hj := (List.getElem?_eq_some_iff.mp hx).1
      rw [List.length_map] at hj
      rw [List.getElem?_map] at hx
      obtain ⟨z, hz, rfl⟩ := Option.map_eq_some_iff.mp hx
      have la := awLen has
      rw [List.length_map, List.length_take] at la
      refine ⟨rfl, .str z, rfl, z, rfl, Nat.le_trans (hpt z (List.mem_of_getElem? hz)) (by decide), fun H5 r s5 er => ⟨_, s5 _ _ eL, ?_, as ++ [r], ?_, ?_, ?_⟩⟩
      · rw [List.length_map, sizeLine_eq]
        omega
      · rw [upd_same, List.map_append]
        rfl
      · rw [List.take_add_one, hz, List.map_append]
        exact stayPts (tups_put (s5 _ _ eL)) (awSnoc (F := fun r p => H5 r = some (.tup (pV p))) er (stayPts (Same.tups s5) has))
      · intro b u e
        rw [upd_ne (ne_of_none e hL)]
        exact s5 _ _ (s4 _ _ e)
    · obtain ⟨as, eL, has, s4⟩ := h4
      rw [List.length_map, List.take_length, ← hps] at has
      have s04 := sL0.trans s4
      obtain ⟨ps, hpsd⟩ : ∃ ps, ps = partsO t := ⟨_, rfl⟩
      rw [← hpsd] at has
      have la := awLen has
      have lps : ps.length = S.length := by rw [hpsd, hps, List.length_map]
      have psne : ps ≠ [] := fun z => by
        rw [z, List.length_nil] at lps
        exact hne (List.length_eq_zero_iff.mp lps.symm)
      have asne : as ≠ [] := fun z => by
        rw [z, List.length_nil] at la
        exact psne (List.length_eq_zero_iff.mp la.symm)
      obtain ⟨a0, as0, ha0⟩ : ∃ a0 as0, as = a0 :: as0 := by
        cases as with
        | nil => exact absurd rfl asne
        | cons x l => exact ⟨x, l, rfl⟩
      obtain ⟨p0, ps0, hp0⟩ : ∃ p0 ps0, ps = p0 :: ps0 := by
        cases ps with
        | nil => exact absurd rfl psne
        | cons x l => exact ⟨x, l, rfl⟩
      obtain ⟨as1, al, hal⟩ := snocOf asne
      obtain ⟨ps1, pl, hpl⟩ := snocOf psne
      have e0 : H4 a0 = some (.tup (pV p0)) := by
        have := has
        rw [ha0, hp0] at this
        cases this with
        | cons r _ => exact r
      have el : H4 al = some (.tup (pV pl)) := by
        have l1 : as1.length = ps1.length := by
          rw [hal, hpl, List.length_append, List.length_append] at la
          simpa using la
        obtain ⟨y, hy, hF⟩ := awGet (i := as1.length) (x := al) has (by rw [hal, List.getElem?_append_right (Nat.le_refl _), Nat.sub_self]; rfl)
        rw [hpl, l1, List.getElem?_append_right (Nat.le_refl _), Nat.sub_self] at hy
        obtain rfl : pl = y := Option.some.inj hy
        exact hF
      have hd : ps.headD ("", []) = p0 := by rw [hp0]; rfl
      have hl : ps.getLastD ("", []) = pl := by rw [hpl]; exact lastD' _ _ _
      have SL : SqL K H4 L (as.map V.ref) := .inl (.inl eL)
      have at0 : atI (as.map V.ref) 0 = some (.ref a0) := awAt0 ha0
      have atl : atI (as.map V.ref) (-1) = some (.ref al) := by
        rw [hal, List.map_append]
        exact atI_last _ _
      refine ⟨.ref L, rfl, L, _, 0, .ref a0, rfl, rfl, SL, at0, .ref L, rfl, 1, rfl, L, _, -1, .ref al, rfl, rfl, SL, atl, _, _, rfl, ?_⟩
      have lenP : ∀ p : Pt, (((pV p).length : Nat) : Int) = p.2.length + 1 := fun p => by
        show (((_ :: List.map _ _).length : Nat) : Int) = _
        rw [List.length_cons, List.length_map]
        omega
      have no : ¬ readC ps → ∀ H', Same H H' → E (.ref cN) none H' := fun hn => qN (read_none (by rw [← hpsd]; exact hn))
      refine ⟨.ref a0, rfl, a0, _, rfl, .inr (SqT.of e0), ⟨rfl, _, rfl, ite2 (fun hne1 => ?_) (fun heq1 => ?_)⟩⟩
      · have z := neT hne1
        rw [lenP] at z
        exact no (fun c => by
          have := c.1
          rw [hd] at this
          omega) H4 s04
      have c1 : p0.2.length = 1 := by
        have z := neF heq1
        rw [lenP] at z
        omega
      refine ⟨.ref a0, rfl, a0, _, 0, .str p0.1, rfl, rfl, SqT.of e0, atI_nat (j := 0) rfl, ⟨rfl, _, rfl, ite2 (fun hne2 => ?_) (fun heq2 => ?_)⟩⟩
      · refine no (fun c => ?_) H4 s04
        have z := c.2.1
        rw [hd] at z
        rw [decide_eq_true (congrArg V.str z)] at hne2
        cases hne2
      have c2 : p0.1 = "in" := by
        by_cases e : p0.1 = "in"
        · exact e
        · exact absurd (by rw [decide_eq_false (fun y => e (V.str.inj y))]; rfl) heq2
      refine ⟨.ref al, rfl, al, _, rfl, .inr (SqT.of el), ⟨rfl, _, rfl, ite2 (fun hne3 => ?_) (fun heq3 => ?_)⟩⟩
      · have z := neT hne3
        rw [lenP] at z
        exact no (fun c => by
          have := c.2.2.1
          rw [hl] at this
          omega) H4 s04
      have c3 : pl.2.length = 1 := by
        have z := neF heq3
        rw [lenP] at z
        omega
      refine ⟨.ref al, rfl, al, _, 0, .str pl.1, rfl, rfl, SqT.of el, atI_nat (j := 0) rfl, ⟨rfl, _, rfl, ite2 (fun hne4 => ?_) (fun heq4 => ?_)⟩⟩
      · refine no (fun c => ?_) H4 s04
        have z := c.2.2.2.1
        rw [hl] at z
        rw [decide_eq_true (congrArg V.str z)] at hne4
        cases hne4
      have c4 : pl.1 = "out" := by
        by_cases e : pl.1 = "out"
        · exact e
        · exact absurd (by rw [decide_eq_false (fun y => e (V.str.inj y))]; rfl) heq4
      have eV0 : pV p0 = [.str p0.1, oV (p0.2.headD none)] := by
        unfold pV
        conv => lhs; rw [len1 c1]
        rfl
      have eVl : pV pl = [.str pl.1, oV (pl.2.headD none)] := by
        unfold pV
        conv => lhs; rw [len1 c3]
        rfl
      rw [eV0] at e0
      rw [eVl] at el
      refine ⟨.ref a0, rfl, a0, _, 1, oV (p0.2.headD none), rfl, rfl, SqT.of e0, atI_nat (j := 1) rfl, .ref L, rfl, 1, rfl, 1, rfl, -1, rfl, L, _, rfl, SL, fun M hM => ?_⟩
      rw [cutMid (fun z => asne (List.map_eq_nil_iff.mp z)), List.map_drop.symm, List.map_dropLast.symm]
      have sM := same_new (o := .lst (((as.drop 1).dropLast).map V.ref)) hM
      refine ⟨M, _, rfl, .inl ⟨.inl (.inl upd_same), fun D hD => ?_⟩⟩
      have sD := same_new (o := .tup (((as.drop 1).dropLast).map V.ref)) hD
      refine ⟨.ref al, rfl, al, _, 1, oV (pl.2.headD none), rfl, rfl, SqT.of (sD _ _ (sM _ _ el)), atI_nat (j := 1) rfl, (by show 3 ≤ sizeLine; decide), fun Z hZ => ?_⟩
      have sZ := same_new (o := .tup [oV (p0.2.headD none), .ref D, oV (pl.2.headD none)]) hZ
      have s4Z := sM.trans (sD.trans sZ)
      have hmid := stayPts (Same.tups s4Z) (awDropLast (awDrop 1 has))
      refine ⟨.ref Z, rfl, Z, D, (as.drop 1).dropLast, p0.2.headD none, pl.2.headD none, (ps.drop 1).dropLast, rfl, upd_same, sZ _ _ upd_same, hmid, fun p hp => ?_, fun H6 s6 => ?_⟩
      · have hp1 : p ∈ ps := List.mem_of_mem_drop ((List.dropLast_sublist _).subset hp)
        rw [hpsd, hps] at hp1
        obtain ⟨z, hz, rfl⟩ := List.mem_map.mp hp1
        have := hpt z hz
        have := part_nums (s := z)
        omega
      have sH6 := s04.trans (s4Z.trans s6)
      refine ⟨_, rfl, ?_⟩
      cases hb : rowB (p0.2.headD none) ((ps.drop 1).dropLast) (pl.2.headD none) with
      | false =>
        refine no (fun c => ?_) H6 sH6
        have z := c.2.2.2.2
        rw [hd, hl, hb] at z
        cases z
      | true =>
        have hc : readC ps := ⟨by rw [hd]; exact c1, by rw [hd]; exact c2, by rw [hl]; exact c3, by rw [hl]; exact c4, by rw [hd, hl]; exact hb⟩
        have hrd := read_some (t := t) (by rw [← hpsd]; exact hc)
        rw [← hpsd, hd, hl] at hrd
        obtain ⟨b1, b2, b3, b4⟩ := rowB_ok hb
        refine ⟨.ref Z, rfl, qS _ hrd H6 Z sH6 ⟨D, (as.drop 1).dropLast, ?_, s6 _ _ (sZ _ _ upd_same), ?_⟩⟩
        · have z := s6 _ _ (upd_same (H := upd (upd H4 M (.lst (((as.drop 1).dropLast).map V.ref))) D (.tup (((as.drop 1).dropLast).map V.ref))) (a := Z) (o := .tup [oV (p0.2.headD none), .ref D, oV (pl.2.headD none)]))
          rw [b1, b2] at z
          exact z
        · refine ptsDs ?_
          rw [b3]
          exact stayPts (Same.tups s6) hmid
def formsL : List (Str × Str) := [("tell", "NAME TEXT"), ("forget", "NAME"), ("back", ""), ("show", "NAME"), ("names", ""), ("kinds", ""), ("worth", "NAME WIDTH WORDS"), ("alike", "NAME NAME"), ("turned", "NAME"), ("most", "NAME NAME"), ("states", "NAME"), ("agree", "NAME NAME WIDTH"), ("mend", "NAME"), ("put", "NAME NAME NAMES")]
structure FmOk (K : PySem.W.Frag) (w : World) (fm : Addr) (es : Array DictEntry) (n : Nat) : Prop where
  d : KDict K w fm es n
  at_ : ∀ p ∈ formsL, ∃ t, PySem.W.nsIn K fm p.1 = some (some (.str p.2 t))
def widthB (z : Str) : Bool := match numO z with
  | some n => decide (1 ≤ n) && decide (n ≤ 60)
  | none => false
def okPlace (z p : Str) : Bool := if p = "NAME" ∨ p = "NAMES" then nameS z else if p = "WIDTH" then widthB z else if p = "WORDS" then (numO z).isSome else true
def spIw : Sp := fun vs H Q _ => ∃ z : Str, vs = [.str z] ∧ z.length ≤ 100000 ∧ ∀ H', Same H H' → Q (.bl (widthB z)) H'
theorem ok_iw {f fN : Addr} {t : Tok} {fd fdN : FuncData} {k : Nat} (F : Fun K "is_width" "is_width" s_is_width f fd)
    (GN : FnOk P w K mg base CX0 (k + 1) fN fdN ["word"] spRn) (kN : PySem.W.keepIn K (.ref fN) = true) (bN : Binds K fdN ["word"] []) (gN : mg "read_number" = some (.ref fN)) (gW : mg "WIDEST" = some (.int 60 t)) : FnOk P w K mg base CX0 (k + 2) f fd ["word"] spIw := by
  refine F.ok sc_is_width (fun vs H Q E h => ?_) (fun cdv A outer s H vs Q E hr h => ?_)
  · obtain ⟨z, rfl, _⟩ := h
    rfl
  · obtain ⟨z, rfl, hz, q⟩ := h
    refine ⟨_, pss_cons (ps_set (i := 1) sc_is_width.nd rfl (.inl rfl) (pe_call GN hr (by rfl) gN kN bN .nil pass0 (pa_cons (pv 0) pa_nil)))
      (pss_one (ps_ret (pe_and (pe_cmpR op_notN (pv 1) pe_non (nomark _)) (pe_one (pe_chain op_le op_le pe_int (pv 1) (pe_glob (v := .int 60) (by rfl) gW ⟨t, rfl⟩)))))), ?_⟩
    refine ⟨.str z, rfl, z, rfl, hz, fun H1 s1 => ?_⟩
    have q1 := q H1 s1
    unfold widthB at q1
    cases e : numO z with
    | none =>
      rw [e] at q1
      exact ⟨.non, rfl, rfl, false, rfl, iteF q1⟩
    | some n =>
      rw [e] at q1
      have q1 : Q (.bl (decide (1 ≤ n) && decide (n ≤ 60))) H1 := q1
      refine ⟨.int n, rfl, rfl, true, rfl, iteT ⟨.int n, rfl, 1, n, rfl, rfl, decide (1 ≤ n), rfl, ?_⟩⟩
      by_cases h1 : 1 ≤ n
      · rw [decide_eq_true h1] at q1 ⊢
        exact iteT ⟨n, 60, rfl, rfl, q1⟩
      · rw [decide_eq_false h1] at q1 ⊢
        exact iteF q1
def spIp : Sp := fun vs H Q _ => ∃ z p : Str, vs = [.str z, .str p] ∧ z.length ≤ 100000 ∧ ∀ H', Same H H' → Q (.bl (okPlace z p)) H'
theorem ok_ip {f fI fW fN : Addr} {fd fdI fdW fdN : FuncData} {k : Nat} (F : Fun K "is_in_place" "is_in_place" s_is_in_place f fd)
    (GI : FnOk P w K mg base CX0 (k + 1) fI fdI ["thing"] spIn) (kI : PySem.W.keepIn K (.ref fI) = true) (bI : Binds K fdI ["thing"] []) (gI : mg "is_name" = some (.ref fI))
    (GW : FnOk P w K mg base CX0 (k + 2) fW fdW ["word"] spIw) (kW : PySem.W.keepIn K (.ref fW) = true) (bW : Binds K fdW ["word"] []) (gW : mg "is_width" = some (.ref fW))
    (GN : FnOk P w K mg base CX0 (k + 1) fN fdN ["word"] spRn) (kN : PySem.W.keepIn K (.ref fN) = true) (bN : Binds K fdN ["word"] []) (gN : mg "read_number" = some (.ref fN)) : FnOk P w K mg base CX0 (k + 3) f fd ["word", "place"] spIp := by
  refine F.ok sc_is_in_place (fun vs H Q E h => ?_) (fun cdv A outer s H vs Q E hr h => ?_)
  · obtain ⟨z, p, rfl, _⟩ := h
    rfl
  · obtain ⟨z, p, rfl, hz, q⟩ := h
    have R1 := hr.mono (show k + 1 ≤ k + 2 by omega)
    refine ⟨_, pss_cons (ps_if (PW.pt (pw_or (pt_cmpR op_eq (pv 1) pe_str (nomark _)) (pw_or1 (pt_cmpR op_eq (pv 1) pe_str (nomark _))))) (pss_one (ps_ret (pe_call GI R1 (by rfl) gI kI bI .nil pass0 (pa_cons (pv 0) pa_nil)))) pss_nil)
      (pss_cons (ps_if (pt_cmpR op_eq (pv 1) pe_str (nomark _)) (pss_one (ps_ret (pe_call GW hr (by rfl) gW kW bW .nil pass0 (pa_cons (pv 0) pa_nil)))) pss_nil)
      (pss_cons (ps_if (pt_cmpR op_eq (pv 1) pe_str (nomark _)) (pss_one (ps_ret (pe_cmpR op_notN (pe_call GN R1 (by rfl) gN kN bN .nil pass0 (pa_cons (pv 0) pa_nil)) pe_non (nomark _)))) pss_nil)
      (pss_one (ps_ret pe_bl)))), ?_⟩
    have strD : ∀ a b : Str, decide (V.str a = V.str b) = decide (a = b) := fun a b => by
      by_cases e : a = b
      · rw [e, decide_eq_true rfl, decide_eq_true rfl]
      · rw [decide_eq_false e, decide_eq_false fun y => e (V.str.inj y)]
    have name : (p = "NAME" ∨ p = "NAMES") → (.str z : V) = .str z ∧ (∃ (N : Addr → Prop) (x : V) (d : PyData), [V.str z] = [x] ∧ AnyAt N H x d ∧ (∀ t, d = .str t → t.length ≤ 100000) ∧ ∀ H', Same H H' → Q (.bl (nameB d)) H') := fun e => ⟨rfl, fun _ => False, .str z, .str z, rfl, .str z, fun t2 e2 => by injection e2 with e2; rw [← e2]; exact hz, fun H1 s1 => by
      have := q H1 s1
      unfold okPlace at this
      rw [if_pos e] at this
      exact this⟩
    refine ⟨.str p, rfl, rfl, _, rfl, ?_⟩
    rw [strD]
    by_cases e1 : p = "NAME"
    · rw [decide_eq_true e1]
      exact iteT ⟨.str z, rfl, (name (.inl e1)).2⟩
    rw [decide_eq_false e1]
    refine ⟨.str p, rfl, rfl, _, rfl, ?_⟩
    rw [strD]
    by_cases e2 : p = "NAMES"
    · rw [decide_eq_true e2]
      exact iteT ⟨.str z, rfl, (name (.inr e2)).2⟩
    rw [decide_eq_false e2]
    have e12 : ¬ (p = "NAME" ∨ p = "NAMES") := fun h => h.elim e1 e2
    refine iteF ⟨.str p, rfl, rfl, _, rfl, ?_⟩
    rw [strD]
    by_cases e3 : p = "WIDTH"
    · rw [decide_eq_true e3]
      refine iteT ⟨.str z, rfl, z, rfl, hz, fun H1 s1 => ?_⟩
      have := q H1 s1
      unfold okPlace at this
      rw [if_neg e12, if_pos e3] at this
      exact this
    rw [decide_eq_false e3]
    refine iteF ⟨.str p, rfl, rfl, _, rfl, ?_⟩
    rw [strD]
    by_cases e4 : p = "WORDS"
    · rw [decide_eq_true e4]
      refine iteT ⟨.str z, rfl, z, rfl, hz, fun H1 s1 => ?_⟩
      have := q H1 s1
      unfold okPlace at this
      rw [if_neg e12, if_neg e3, if_pos e4] at this
      cases e : numO z with
      | none => rw [e] at this; exact ⟨rfl, this⟩
      | some n => rw [e] at this; exact ⟨rfl, this⟩
    rw [decide_eq_false e4]
    have := q H (Same.refl H)
    unfold okPlace at this
    rw [if_neg e12, if_neg e3, if_neg e4] at this
    exact iteF this
def severalL : List Str := ["TEXT", "WORDS", "NAMES"]
def extL (form : Str) (ws : List Str) : List Str := match (Txt.words form).getLast? with
  | some l => if l ∈ severalL then Txt.words form ++ List.replicate (ws.length - (Txt.words form).length) l else Txt.words form
  | none => Txt.words form
def fitsF (form : Str) (ws : List Str) : Bool := decide (ws.length = (extL form ws).length) && ((ws.zip (extL form ws)).map fun e => okPlace e.1 e.2).all id
theorem inV_strs (t : Str) (l : List Str) : inV (.str t) (l.map V.str) = decide (t ∈ l) := by
  have h : inV (.str t) (l.map V.str) = true ↔ t ∈ l := by
    unfold inV
    rw [List.any_map, List.any_eq_true]
    constructor
    · rintro ⟨x, h1, h2⟩
      have h2' : (x == t) = true ∨ (t == x) = true := by first | exact .inl h2 | exact .inr h2
      rcases h2' with h2 | h2
      · rw [← eq_of_beq h2]; exact h1
      · rw [eq_of_beq h2]; exact h1
    · intro h
      exact ⟨t, h, by show (t == t) = true; exact beq_self_eq_true t⟩
  by_cases e : t ∈ l
  · rw [decide_eq_true e]; exact h.mpr e
  · rw [decide_eq_false e]
    cases e2 : inV (.str t) (l.map V.str) with
    | false => rfl
    | true => exact absurd (h.mp e2) e
theorem flat_strs (l : List Str) : (l.map V.str).all flatV = true := List.all_eq_true.mpr fun v hv => by
  obtain ⟨t, _, rfl⟩ := List.mem_map.mp hv
  rfl
def spFo : Sp := fun vs H Q _ => ∃ (L : Addr) (ws : List Str) (form : Str), vs = [.ref L, .str form] ∧ H L = some (.lst (ws.map V.str)) ∧ ws.length ≤ 100000 ∧ (∀ z ∈ ws, z.length ≤ 100000) ∧ form.length ≤ 100 ∧ ∀ H', Same H H' → Q (.bl (fitsF form ws)) H'
set_option maxHeartbeats 1000000 in
theorem ok_fo {f fP sv : Addr} {fd fdP : FuncData} {k : Nat} (F : Fun K "is_of_form" "is_of_form" s_is_of_form f fd)
    (GP : FnOk P w K mg base CX0 (k + 3) fP fdP ["word", "place"] spIp) (kP : PySem.W.keepIn K (.ref fP) = true) (bP : Binds K fdP ["word", "place"] []) (gP : mg "is_in_place" = some (.ref fP))
    (gS : mg "SEVERAL" = some (.ref sv)) (hsv : ∀ H, SqT K H sv (severalL.map V.str)) (mn : mg "len" = none) (mz : mg "zip" = none) (ma : mg "all" = none) : FnOk P w K mg base CX0 (k + 4) f fd ["words", "form"] spFo := by
  refine F.ok sc_is_of_form (fun vs H Q E h => ?_) (fun cdv A outer s H vs Q E hr h => ?_)
  · obtain ⟨L, ws, form, rfl, _⟩ := h
    rfl
  · obtain ⟨L, ws, form, rfl, eL, hl, hz, hf, q⟩ := h
    refine ⟨_, pss_cons (ps_set (i := 2) sc_is_of_form.nd rfl (.inl rfl) (pe_words (pv 1)))
      (pss_mid (ps_if (PW.pt (pw_and (pt_truth (pv 2) (fun _ => rfl)) (pw_and1 (pt_cmpR op_in_seq (pe_ix ix_list (pv 2) (pe_un un_neg pe_int) (fun _ _ => rfl)) (pe_glob (v := .ref sv) (by rfl) gS rfl) (by rfl)))))
        (pss_one (ps_set (i := 2) sc_is_of_form.nd rfl (.inl rfl) (pe_op op_cat (pv 2) (pe_op op_rep (pe_lst (pa_cons (pe_ix ix_list (pv 2) (pe_un un_neg pe_int) (fun _ _ => rfl)) pa_nil)) (pe_op op_sub (pe_callB call_len_seq (by rfl) mn PySem.boot_len (pa_cons (pv 0) pa_nil)) (pe_callB call_len_seq (by rfl) mn PySem.boot_len (pa_cons (pv 2) pa_nil))))))) pss_nil)
      (pss_cons (ps_if (pt_cmpR op_ne (pe_callB call_len_seq (by rfl) mn PySem.boot_len (pa_cons (pv 0) pa_nil)) (pe_callB call_len_seq (by rfl) mn PySem.boot_len (pa_cons (pv 2) pa_nil)) (nomark _)) (pss_one (ps_ret pe_bl)) pss_nil)
      (pss_one (ps_ret (pe_callB (cr_all rfl) (by rfl) ma (by decide +kernel) (pa_cons
        (pe_lc (own := [("word", 3), ("place", 4)]) (g := gTup K 2 (gCons (gName 3) (gCons (gName 4) gNil))) (by rfl) sc_is_of_form.nd (pi_zip (by rfl) mz (pa_cons (pv 0) (pa_cons (pv 2) pa_nil))) (blkOk_by (own := [("word", 3), ("place", 4)]) (N := N_is_of_form) (sc := defScope s_is_of_form) (by decide +kernel))
          (fun _ _ _ _ _ => pg_tup rfl (pgs_cons (pg_name (i := 3) sc_is_of_form.nd rfl (Or.inl rfl)) (pgs_cons (pg_name (i := 4) sc_is_of_form.nd rfl (Or.inl rfl)) pgs_nil))) (fun _ _ _ _ _ => pts_nil)
          (fun _ _ _ _ _ => pe_call GP hr (by rfl) gP kP bP .nil pass0 (pa_cons (pv 3) (pa_cons (pv 4) pa_nil)))) pa_nil)))))), ?_⟩
    obtain ⟨ps, hps⟩ : ∃ ps, ps = Txt.words form := ⟨_, rfl⟩
    have hpl : ps.length ≤ 101 := by
      have := words_le form
      rw [hps]
      omega
    refine ⟨.str form, rfl, ⟨_, rfl⟩, form, rfl, rfl, by rw [sizeLine_eq]; omega, fun W hW => ?_⟩
    rw [← hps]
    have sW := same_new (o := .lst (ps.map V.str)) hW
    have eW : upd H W (.lst (ps.map V.str)) W = some (.lst (ps.map V.str)) := upd_same
    generalize upd H W (.lst (ps.map V.str)) = H1 at sW eW
    have eL1 := sW _ _ eL
    -- behind the first if: the places in full
    refine ⟨fun σ' H' => ∃ X : Addr, σ' = [some (.ref L), some (.str form), some (.ref X), none, none] ∧ H' X = some (.lst ((extL form ws).map V.str)) ∧ Same H H', ?_, ?_⟩
    · cases hlast : ps.getLast? with
      | none =>
        have e0 : ps = [] := List.getLast?_eq_none_iff.mp hlast
        refine ⟨.ref W, rfl, false, .inl ⟨_, .inl (.inl eW), by rw [e0]; rfl⟩, ?_⟩
        refine ⟨W, rfl, ?_, sW⟩
        unfold extL
        rw [← hps, hlast]
        exact eW
      | some l =>
        obtain ⟨ps0, e0⟩ := List.getLast?_eq_some_iff.mp hlast
        have atl : atI (ps.map V.str) (-1) = some (.str l) := by
          rw [e0, List.map_append]
          exact atI_last _ _
        refine ⟨.ref W, rfl, true, .inl ⟨_, .inl (.inl eW), by rw [e0, List.map_append]; simp⟩, ?_⟩
        refine ⟨.ref W, rfl, 1, rfl, W, _, -1, .str l, rfl, rfl, .inl (.inl eW), atl, sv, severalL.map V.str, rfl, .inr (hsv _), rfl, flat_strs _, _, rfl, ?_⟩
        rw [show (if (false : Bool) = true then !inV (.str l) (severalL.map V.str) else inV (.str l) (severalL.map V.str)) = decide (l ∈ severalL) from inV_strs l severalL]
        by_cases hin : l ∈ severalL
        · rw [decide_eq_true hin]
          refine ⟨.ref W, rfl, .ref W, rfl, 1, rfl, W, _, -1, .str l, rfl, rfl, .inl (.inl eW), atl, (by show 1 ≤ sizeLine; decide), fun Z hZ => ?_⟩
          have sZ := same_new (o := .lst [V.str l]) hZ
          have eZ : upd H1 Z (.lst [V.str l]) Z = some (.lst [V.str l]) := upd_same
          generalize upd H1 Z (.lst [V.str l]) = H2 at sZ eZ
          have ek : (((ws.map V.str).length : Int) - ((ps.map V.str).length : Int)).toNat = ws.length - ps.length := by
            rw [List.length_map, List.length_map]
            omega
          refine ⟨.ref L, rfl, L, _, rfl, .inl (.inl (.inl (sZ _ _ eL1))), .ref W, rfl, W, _, rfl, .inl (.inl (.inl (sZ _ _ eW))), _, _, rfl, rfl, Z, _, _, rfl, rfl, eZ, by rw [List.length_map, List.length_map]; omega, by rw [List.length_map, List.length_map]; omega, by rw [ek, sizeLine_eq]; show 1 * _ ≤ _; omega, fun R hR => ?_⟩
          rw [ek]
          have er : (List.replicate (ws.length - ps.length) [V.str l]).flatten = (List.replicate (ws.length - ps.length) l).map V.str := by
            rw [List.map_replicate]
            generalize ws.length - ps.length = n
            induction n with
            | zero => rfl
            | succ n ih => rw [List.replicate_succ, List.flatten_cons, ih, List.replicate_succ]; rfl
          rw [er]
          have sR := same_new (o := .lst ((List.replicate (ws.length - ps.length) l).map V.str)) hR
          refine ⟨W, R, _, _, rfl, rfl, sR _ _ (sZ _ _ eW), upd_same, by rw [List.length_map, List.length_map, List.length_replicate, sizeLine_eq]; omega, fun X hX => ?_⟩
          refine ⟨X, rfl, ?_, sW.trans (sZ.trans (sR.trans (same_new hX)))⟩
          unfold extL
          rw [← hps, hlast]
          show _ = some (HO.lst ((if l ∈ severalL then ps ++ List.replicate (ws.length - ps.length) l else ps).map V.str))
          rw [if_pos hin, upd_same, List.map_append]
        · rw [decide_eq_false hin]
          refine ⟨W, rfl, ?_, sW⟩
          unfold extL
          rw [← hps, hlast]
          show _ = some (HO.lst ((if l ∈ severalL then ps ++ List.replicate (ws.length - ps.length) l else ps).map V.str))
          rw [if_neg hin]
          exact eW
    rintro σ2 H2 ⟨X, rfl, eX, s2⟩
    have eL2 := s2 _ _ eL
    obtain ⟨ex, hex⟩ : ∃ ex, ex = extL form ws := ⟨_, rfl⟩
    rw [← hex] at eX
    have fit : fitsF form ws = (decide (ws.length = ex.length) && ((ws.zip ex).map fun e => okPlace e.1 e.2).all id) := by rw [hex]; rfl
    rw [fit] at q
    refine ⟨.ref L, rfl, L, _, rfl, .inl (.inl (.inl eL2)), .ref X, rfl, X, _, rfl, .inl (.inl (.inl eX)), rfl, _, rfl, ite2 (fun e => ?_) (fun e => ?_)⟩
    · have ne : ¬ ws.length = ex.length := fun z => by
        rw [List.length_map, List.length_map, z] at e
        simp at e
      rw [decide_eq_false ne, Bool.false_and] at q
      exact q H2 s2
    have el : ws.length = ex.length := by
      by_cases z : ws.length = ex.length
      · exact z
      · refine absurd ?_ e
        rw [decide_eq_false fun y => z (by
          have := V.int.inj y
          rw [List.length_map, List.length_map] at this
          omega)]
        rfl
    rw [decide_eq_true el, Bool.true_and] at q
    refine ⟨.ref L, rfl, .ref X, rfl, L, X, _, _, rfl, .inl (.inl eL2), .inl (.inl eX), fun C hC => ?_⟩
    refine lc_it (walk_zip (K := K) (a := L) (b := X) (xs := ws.map V.str) (ys := ex.map V.str) rfl) (fun j H4 => H4 C = some (.lst ((((ws.zip ex).map fun e => okPlace e.1 e.2).take j).map V.bl)) ∧ Same H2 H4) ⟨upd_same, same_new hC⟩ (fun j H4 _ h4 => ⟨.inl (.inl (h4.2 _ _ eL2)), .inl (.inl (h4.2 _ _ eX))⟩) (fun j x H4 H5 hj h4 hx => ?_) (fun H4 h4 => ?_)
    · obtain ⟨eC, s4⟩ := h4
      obtain ⟨U, x1, x2, rfl, hU, rfl, g1, g2⟩ := hx
      rw [List.length_map, List.length_map] at hj
      have hjw : j < ws.length := by omega
      have hje : j < ex.length := by omega
      have hw := List.getElem?_eq_getElem hjw
      have he := List.getElem?_eq_getElem hje
      have g1 : (ws.map V.str)[j]? = some x1 := g1
      have g2 : (ex.map V.str)[j]? = some x2 := g2
      rw [List.getElem?_map, hw] at g1
      rw [List.getElem?_map, he] at g2
      obtain rfl := Option.some.inj g1
      obtain rfl := Option.some.inj g2
      have sU := same_new (o := .tup [V.str ws[j], V.str ex[j]]) hU
      have hzj : ((ws.zip ex).map fun e => okPlace e.1 e.2)[j]? = some (okPlace ws[j] ex[j]) := by
        rw [List.getElem?_map, List.getElem?_eq_getElem (by rw [List.length_zip]; omega), List.getElem_zip]
        rfl
      refine ⟨U, _, rfl, SqT.of upd_same, rfl, .str ws[j], [.str ex[j]], rfl, .str ex[j], [], rfl, rfl, rfl, .str ws[j], rfl, .str ex[j], rfl, ws[j], ex[j], rfl, hz _ (List.getElem_mem hjw), fun H6 s6 => ⟨_, s6 _ _ (sU _ _ eC), ?_, ?_, fun b u z => ?_⟩⟩
      · rw [List.length_map, List.length_take, sizeLine_eq]
        omega
      · rw [upd_same, List.take_add_one, hzj, List.map_append]
        rfl
      · rw [upd_ne (ne_of_none z hC)]
        exact s6 _ _ (sU _ _ (s4 _ _ z))
    obtain ⟨eC, s4⟩ := h4
    have hall : (((ws.zip ex).map fun e => okPlace e.1 e.2).take (min (ws.map V.str).length (ex.map V.str).length)) = (ws.zip ex).map fun e => okPlace e.1 e.2 := List.take_of_length_le (by rw [List.length_map, List.length_zip, List.length_map, List.length_map]; exact Nat.le_refl _)
    rw [hall] at eC
    exact ⟨C, _, rfl, .inl (.inl eC), q H4 (s2.trans s4)⟩
def spWs : Sp := fun vs H Q _ => ∃ (t x : Str) (ws : List Str) (form : Str), vs = [.str t] ∧ t.length ≤ 90000 ∧ Txt.split t " " = x :: ws ∧ ("" : Str) ∉ x :: ws ∧ (x, form) ∈ formsL ∧ fitsF form ws = true ∧ ∀ H' L, Same H H' → H L = none → H' L = some (.lst ((x :: ws).map V.str)) → Q (.ref L) H'
theorem forms_len : ∀ p ∈ formsL, p.2.length ≤ 100 := by decide +kernel
set_option maxHeartbeats 1000000 in
theorem ok_ws {f fO fm : Addr} {es : Array DictEntry} {n : Nat} {fd fdO : FuncData} {k : Nat} (F : Fun K "words_said" "words_said" s_words_said f fd)
    (GO : FnOk P w K mg base CX0 (k + 4) fO fdO ["words", "form"] spFo) (kO : PySem.W.keepIn K (.ref fO) = true) (bO : Binds K fdO ["words", "form"] []) (gO : mg "is_of_form" = some (.ref fO))
    (D : FmOk K w fm es n) (gF : mg "FORMS" = some (.ref fm)) (mi : mg "isinstance" = none) (mS : mg "str" = none) : FnOk P w K mg base CX0 (k + 5) f fd ["row"] spWs := by
  refine F.ok sc_words_said (fun vs H Q E h => ?_) (fun cdv A outer s H vs Q E hr h => ?_)
  · obtain ⟨t, x, ws, form, rfl, _⟩ := h
    rfl
  · obtain ⟨t, x, ws, form, rfl, ht, hS, hne, hform, hfit, q⟩ := h
    refine ⟨_, pss_cons (ps_if (pt_not (pt_val (pe_callB call_isi (by rfl) mi (by decide +kernel) (pa_cons (pv 0) (pa_cons (pe_bltn (v := .ty "str") (by rfl) mS (by decide +kernel) rfl) pa_nil))))) pss_neverB pss_nil)
      (pss_cons (ps_set (i := 1) sc_words_said.nd rfl (.inl rfl) (pe_split (pv 0) pe_str))
      (pss_cons (ps_if (PW.pt (pw_or (pt_cmpR op_in_seq pe_str (pv 1) (by rfl)) (pw_or (pt_cmpR (op_notIn_kd D.d) (pe_ix ix_list (pv 1) pe_int (fun _ _ => rfl)) (pe_glob (v := .ref fm) (by rfl) gF rfl) (by rfl))
          (pw_or1 (pt_not (pt_val (pe_call GO hr (by rfl) gO kO bO .nil pass0 (pa_cons (pe_slice sl_list (pv 1) (po_some pe_int) po_none) (pa_cons (pe_ix ix_kdict (pe_glob (v := .ref fm) (by rfl) gF rfl) (pe_ix ix_list (pv 1) pe_int (fun _ _ => rfl)) (fun _ _ => rfl)) pa_nil)))))))))
        pss_neverB pss_nil)
      (pss_one (ps_ret (pv 1))))), ?_⟩
    have hle := PyProof.Rows.split_le t " "
    have hpt : ∀ z ∈ x :: ws, z.length ≤ 90000 := fun z hz => Nat.le_trans (split_part (y := " ") (by rw [hS]; exact hz)) ht
    rw [hS] at hle
    rw [List.length_cons] at hle
    refine ⟨.str t, rfl, .str t, .ty "str", .type "str", .type "str", true, rfl, .ty "str", .base (.str t), kit_ty (by decide +kernel), true, rfl, ?_⟩
    refine ⟨.str t, rfl, ⟨_, rfl⟩, t, " ", rfl, rfl, by decide +kernel, by rw [sizeLine_eq]; omega, fun L hL => ?_⟩
    rw [hS]
    have sL := same_new (o := .lst ((x :: ws).map V.str)) hL
    have eL : upd H L (.lst ((x :: ws).map V.str)) L = some (.lst ((x :: ws).map V.str)) := upd_same
    generalize upd H L (.lst ((x :: ws).map V.str)) = H1 at sL eL
    obtain ⟨tk, hns⟩ := D.at_ _ hform
    refine ⟨.ref L, rfl, L, (x :: ws).map V.str, rfl, .inl (.inl (.inl eL)), rfl, flat_strs _, _, rfl, ?_⟩
    rw [show (if (false : Bool) = true then !inV (.str (Str.ofString "")) ((x :: ws).map V.str) else inV (.str (Str.ofString "")) ((x :: ws).map V.str)) = decide ((Str.ofString "") ∈ x :: ws) from inV_strs _ _, decide_eq_false hne]
    refine ⟨.ref L, rfl, L, _, 0, .str x, rfl, rfl, .inl (.inl eL), atI_nat (j := 0) rfl, x, _, rfl, rfl, hns, _, rfl, ?_⟩
    refine ⟨.ref L, rfl, 1, rfl, L, _, rfl, .inl (.inl eL), fun T hT => ?_⟩
    rw [show cutV ((x :: ws).map V.str) (some 1) none = ws.map V.str from cutTail _ _]
    have sT := same_new (o := .lst (ws.map V.str)) hT
    have eT : upd H1 T (.lst (ws.map V.str)) T = some (.lst (ws.map V.str)) := upd_same
    generalize upd H1 T (.lst (ws.map V.str)) = H2 at sT eT
    refine ⟨.ref L, rfl, L, _, 0, .str x, rfl, rfl, .inl (.inl (sT _ _ eL)), atI_nat (j := 0) rfl, fm, x, .str form, rfl, rfl, ⟨es, n, _, D.d.at_, D.d.lit, hns, ⟨tk, rfl⟩⟩, T, ws, form, rfl, eT, by omega, fun z hz => Nat.le_trans (hpt z (List.mem_cons_of_mem _ hz)) (by decide), forms_len _ hform, fun H3 s3 => ?_⟩
    rw [hfit]
    exact ⟨true, rfl, iteF ⟨.ref L, rfl, q H3 L (sL.trans (sT.trans s3)) hL (s3 _ _ (sT _ _ eL))⟩⟩
def spAt (C : Addr) : Sp := fun vs H Q _ => ∃ (p Kd Dn Lk L : Addr) (kvs : Kvs) (dn : List Dn1) (t : Str) (ws : List Str) (o : Option Addr) (r : Rw), vs = [.ref p, .ref L] ∧ BkAt C H p Kd Dn Lk kvs dn ∧ dn.length ≤ 100000 ∧ kvs.length ≤ 900000 ∧ nameS t = true ∧ H L = some (.lst ((t :: ws).map V.str)) ∧
  Txt.join " " ws = rowS r.m r.ds r.o ∧ (ws.map (·.length)).sum + ws.length ≤ 80000 ∧ RwOk r ∧ valV kvs (Sum.inr t) = o.map V.ref ∧ ∀ H' Z, RwAt H' Z r → BkAt C H' p Kd Dn Lk (putK kvs (Sum.inr t) (.ref Z)) (dn ++ [(t, o)]) → KpB p Kd Dn H H' → Q (.str "ok") H'
theorem ok_at {f fT fR C cN : Addr} {fd fdT fdR : FuncData} {k : Nat} (F : Fun K "answer_tell" "answer_tell" s_answer_tell f fd) (T : BCls K mg C)
    (MT : Meth K C "tell" fT) (GT : FnOk P w K mg base CX0 (k + 6) fT fdT ["self", "name", "row"] (spBt C)) (bT : Binds K fdT ["self", "name", "row"] [])
    (GR : FnOk P w K mg base (L2.CX P w) (k + 6) fR fdR ["text"] (spRr cN)) (kR : PySem.W.keepIn K (.ref fR) = true) (bR : Binds K fdR ["text"] []) (gR : mg "read_row" = some (.ref fR)) : FnOk P w K mg base CX0 (k + 7) f fd ["book", "words"] (spAt C) := by
  refine F.ok sc_answer_tell (fun vs H Q E h => ?_) (fun cdv A outer s H vs Q E hr h => ?_)
  · obtain ⟨p, Kd, Dn, Lk, L, kvs, dn, t, ws, o, r, rfl, _⟩ := h
    rfl
  · obtain ⟨p, Kd, Dn, Lk, L, kvs, dn, t, ws, o, r, rfl, hb, hl, hl2, ht, eL, hj, hs, ok, hv, q⟩ := h
    refine ⟨_, pss_cons (ps_expr (pe_meth (pv 0) T.cl MT GT hr bT .nil pass0 (pa_cons (pe_ix ix_list (pv 1) pe_int (fun _ _ => rfl)) (pa_cons (pe_call GR hr (by rfl) gR kR bR .nil passL (pa_cons (pe_join pe_str (pe_slice sl_list (pv 1) (po_some pe_int) po_none)) pa_nil)) pa_nil))))
      (pss_one (ps_ret pe_str)), ?_⟩
    obtain ⟨dx, ob⟩ := id hb.ob
    have hlt : (rowS r.m r.ds r.o).length ≤ 90000 := by
      rw [← hj, TL.len_tl, TL.join_eq, TL.tl_join]
      refine Nat.le_trans (joinL_len _ _) ?_
      have e1 : (TL.tl " ").length = 1 := by decide +kernel
      have e2 : ((ws.map TL.tl).map List.length).sum = (ws.map (·.length)).sum := by
        rw [List.map_map]
        exact congrArg List.sum (List.map_congr_left fun z _ => (TL.len_tl z).symm)
      rw [e1, e2, List.length_map]
      omega
    refine ⟨.ref p, rfl, p, dx, _, rfl, ob, bF_no _ _ _ (by decide +kernel) (by decide +kernel) (by decide +kernel), .ref L, rfl, L, _, 0, .str t, rfl, rfl, .inl (.inl eL), atI_nat (j := 0) rfl, ⟨_, rfl⟩, .ref L, rfl, 1, rfl, L, _, rfl, .inl (.inl eL), fun X hX => ?_⟩
    rw [show cutV ((t :: ws).map V.str) (some 1) none = ws.map V.str from cutTail _ _]
    have sX := same_new (o := .lst (ws.map V.str)) hX
    have eX : upd H X (.lst (ws.map V.str)) X = some (.lst (ws.map V.str)) := upd_same
    generalize upd H X (.lst (ws.map V.str)) = H1 at sX eX
    have e3 : (" " : Str).length = 1 := by decide +kernel
    have bnd : (ws.map (·.length)).sum + ws.length * (" " : Str).length ≤ 16777216 := by rw [e3]; omega
    refine ⟨" ", X, ws, rfl, rfl, .inl (.inl (.inl eX)), bnd, ?_⟩
    rw [hj]
    refine ⟨_, rfl, hlt, fun r' hr' H2 Z s2 hZ => ?_, fun z => ?_⟩
    · rw [read_show ok] at hr'
      obtain rfl := Option.some.inj hr'
      have hb2 := (hb.same sX).same s2
      refine ⟨p, Kd, Dn, Lk, Z, kvs, dn, t, o, noN, rowD r.m r.ds r.o, 459, 3, rfl, hb2, hl, hl2, ht, any_row hZ, nc_row ok, by decide, rowA_ok ok, hv, fun H3 bk3 kp3 => ?_⟩
      obtain ⟨ts, eD, _⟩ := id hb2.done
      have t3 : TupsStay H2 H3 := fun x xs e => kp3 x _ (ne_of e hb2.kept (fun z => nomatch z)) (ne_of e eD (fun z => nomatch z)) e
      exact q H3 Z (t3.row hZ) bk3 fun c o n1 n2 e => kp3 c o n1 n2 (s2 _ _ (sX _ _ e))
    · rw [read_show ok] at z
      cases z
def spAf (C : Addr) : Sp := fun vs H Q _ => ∃ (p Kd Dn Lk L : Addr) (kvs : Kvs) (dn : List Dn1) (t : Str) (r : Addr), vs = [.ref p, .ref L] ∧ BkAt C H p Kd Dn Lk kvs dn ∧ dn.length ≤ 100000 ∧ nameS t = true ∧ H L = some (.lst ([t].map V.str)) ∧ valV kvs (Sum.inr t) = some (.ref r) ∧
  ∀ H', BkAt C H' p Kd Dn Lk (dropK kvs (Sum.inr t)) (dn ++ [(t, some r)]) → KpB p Kd Dn H H' → Q (.str "ok") H'
theorem ok_af {f fF C : Addr} {fd fdF : FuncData} {k : Nat} (F : Fun K "answer_forget" "answer_forget" s_answer_forget f fd) (T : BCls K mg C)
    (MF : Meth K C "forget" fF) (GF : FnOk P w K mg base CX0 (k + 4) fF fdF ["self", "name"] (spBf C)) (bF : Binds K fdF ["self", "name"] []) : FnOk P w K mg base CX0 (k + 5) f fd ["book", "words"] (spAf C) := by
  refine F.ok sc_answer_forget (fun vs H Q E h => ?_) (fun cdv A outer s H vs Q E hr h => ?_)
  · obtain ⟨p, Kd, Dn, Lk, L, kvs, dn, t, r, rfl, _⟩ := h
    rfl
  · obtain ⟨p, Kd, Dn, Lk, L, kvs, dn, t, r, rfl, hb, hl, ht, eL, hv, q⟩ := h
    refine ⟨_, pss_cons (ps_expr (pe_meth (pv 0) T.cl MF GF hr bF .nil pass0 (pa_cons (pe_ix ix_list (pv 1) pe_int (fun _ _ => rfl)) pa_nil))) (pss_one (ps_ret pe_str)), ?_⟩
    obtain ⟨dx, ob⟩ := id hb.ob
    exact ⟨.ref p, rfl, p, dx, _, rfl, ob, bF_no _ _ _ (by decide +kernel) (by decide +kernel) (by decide +kernel), .ref L, rfl, L, _, 0, .str t, rfl, rfl, .inl (.inl eL), atI_nat (j := 0) rfl, p, Kd, Dn, Lk, kvs, dn, t, r, rfl, hb, hl, ht, hv, fun H' b2 kp => q H' b2 kp⟩
def spAb (C : Addr) : Sp := fun vs H Q _ => ∃ (p Kd Dn Lk L : Addr) (kvs : Kvs) (dn : List Dn1) (e : Dn1), vs = [.ref p, .ref L] ∧ BkAt C H p Kd Dn Lk kvs (dn ++ [e]) ∧ kvs.length ≤ 900000 ∧ (e.2 = none → (valV kvs (Sum.inr e.1)).isSome = true) ∧
  ∀ H', BkAt C H' p Kd Dn Lk (undo kvs e) dn → KpB p Kd Dn H H' → Q (.str "ok") H'
theorem ok_ab {f fB C : Addr} {fd fdB : FuncData} {k : Nat} (F : Fun K "answer_back" "answer_back" s_answer_back f fd) (T : BCls K mg C)
    (MB : Meth K C "back" fB) (GB : FnOk P w K mg base CX0 (k + 1) fB fdB ["self"] (spBb C)) (bB : Binds K fdB ["self"] []) : FnOk P w K mg base CX0 (k + 2) f fd ["book", "words"] (spAb C) := by
  refine F.ok sc_answer_back (fun vs H Q E h => ?_) (fun cdv A outer s H vs Q E hr h => ?_)
  · obtain ⟨p, Kd, Dn, Lk, L, kvs, dn, e, rfl, _⟩ := h
    rfl
  · obtain ⟨p, Kd, Dn, Lk, L, kvs, dn, e, rfl, hb, hl, he, q⟩ := h
    refine ⟨_, pss_cons (ps_expr (pe_meth0 (pv 0) T.cl MB GB hr bB .nil pass0)) (pss_one (ps_ret pe_str)), ?_⟩
    obtain ⟨dx, ob⟩ := id hb.ob
    exact ⟨.ref p, rfl, p, dx, _, rfl, ob, bF_no _ _ _ (by decide +kernel) (by decide +kernel) (by decide +kernel), p, Kd, Dn, Lk, kvs, dn, e, rfl, hb, hl, he, fun H' b2 kp => q H' b2 kp⟩
def spAs (C : Addr) : Sp := fun vs H Q _ => ∃ (p Kd Dn Lk L : Addr) (kvs : Kvs) (dn : List Dn1) (t : Str) (R : Addr) (r : Rw), vs = [.ref p, .ref L] ∧ BkAt C H p Kd Dn Lk kvs dn ∧ nameS t = true ∧ H L = some (.lst ([t].map V.str)) ∧ valV kvs (Sum.inr t) = some (.ref R) ∧ RwAt H R r ∧ RwOk r ∧ ∀ H', Same H H' → Q (.str (rowS r.m r.ds r.o)) H'
theorem ok_as {f fR fS C : Addr} {fd fdR fdS : FuncData} {k : Nat} (F : Fun K "answer_show" "answer_show" s_answer_show f fd) (T : BCls K mg C)
    (MR : Meth K C "row" fR) (GR : FnOk P w K mg base CX0 (k + 4) fR fdR ["self", "name"] (spBr C)) (bR : Binds K fdR ["self", "name"] [])
    (GS : FnOk P w K mg base CX0 (k + 2) fS fdS ["row"] spShow) (kS : PySem.W.keepIn K (.ref fS) = true) (bS : Binds K fdS ["row"] []) (gS : mg "show_row" = some (.ref fS)) : FnOk P w K mg base CX0 (k + 5) f fd ["book", "words"] (spAs C) := by
  refine F.ok sc_answer_show (fun vs H Q E h => ?_) (fun cdv A outer s H vs Q E hr h => ?_)
  · obtain ⟨p, Kd, Dn, Lk, L, kvs, dn, t, R, r, rfl, _⟩ := h
    rfl
  · obtain ⟨p, Kd, Dn, Lk, L, kvs, dn, t, R, r, rfl, hb, ht, eL, hv, hR, ok, q⟩ := h
    have R2 := hr.mono (show k + 2 ≤ k + 4 by omega)
    refine ⟨_, pss_one (ps_ret (pe_call GS R2 (by rfl) gS kS bS .nil pass0 (pa_cons (pe_meth (pv 0) T.cl MR GR hr bR .nil pass0 (pa_cons (pe_ix ix_list (pv 1) pe_int (fun _ _ => rfl)) pa_nil)) pa_nil))), ?_⟩
    obtain ⟨dx, ob⟩ := id hb.ob
    exact ⟨.ref p, rfl, p, dx, _, rfl, ob, bF_no _ _ _ (by decide +kernel) (by decide +kernel) (by decide +kernel), .ref L, rfl, L, _, 0, .str t, rfl, rfl, .inl (.inl eL), atI_nat (j := 0) rfl, p, Kd, Dn, Lk, kvs, dn, t, .ref R, rfl, hb, ht, hv, fun H1 s1 => ⟨R, r.m, r.o, r.ds, rfl, (Same.tups s1).row hR, ok, fun H2 s2 => q H2 (s1.trans s2)⟩⟩
/-- what stands where nothing does -/
def orNone (t : Str) : Str := if t.length = 0 then "none" else t
def spAn (C : Addr) : Sp := fun vs H Q _ => ∃ (p Kd Dn Lk L : Addr) (kvs : Kvs) (dn : List Dn1) (ks : List Str), vs = [.ref p, .ref L] ∧ BkAt C H p Kd Dn Lk kvs dn ∧ kvs.map (·.1) = ks.map Sum.inr ∧ ks.length < 64 ∧ (∀ t ∈ ks, t.length ≤ 100) ∧
  ∀ H' ys, Same H H' → ys.Perm ks → sortedS ys = true → Q (.str (orNone (Txt.join " " ys))) H'
theorem join_short {y : Str} {ys : List Str} {b : Nat} (hy : y.length ≤ 2) (h : ∀ t ∈ ys, t.length ≤ b) : (ys.map (·.length)).sum + ys.length * y.length ≤ ys.length * (b + 2) := by
  have h1 : (ys.map (·.length)).sum ≤ ys.length * b := by
    have := sum_le (l := ys.map (·.length)) (b := b) fun x hx => by
      obtain ⟨t, ht, rfl⟩ := List.mem_map.mp hx
      exact h t ht
    rwa [List.length_map] at this
  have h2 : ys.length * y.length ≤ ys.length * 2 := Nat.mul_le_mul_left _ hy
  rw [Nat.mul_add]
  omega
theorem join_len (y : Str) (ys : List Str) : (Txt.join y ys).length ≤ (ys.map (·.length)).sum + ys.length * y.length := by
  rw [TL.len_tl, TL.join_eq, TL.tl_join]
  refine Nat.le_trans (joinL_len _ _) ?_
  have e2 : ((ys.map TL.tl).map List.length).sum = (ys.map (·.length)).sum := by
    rw [List.map_map]
    exact congrArg List.sum (List.map_congr_left fun z _ => (TL.len_tl z).symm)
  rw [e2, List.length_map, ← TL.len_tl]
  exact Nat.le_refl _
theorem ok_an {f fN C : Addr} {fd fdN : FuncData} {k : Nat} (F : Fun K "answer_names" "answer_names" s_answer_names f fd) (T : BCls K mg C)
    (MN : Meth K C "names" fN) (GN : FnOk P w K mg base CX0 (k + 1) fN fdN ["self"] (spBn C)) (bN : Binds K fdN ["self"] []) : FnOk P w K mg base CX0 (k + 2) f fd ["book", "words"] (spAn C) := by
  refine F.ok sc_answer_names (fun vs H Q E h => ?_) (fun cdv A outer s H vs Q E hr h => ?_)
  · obtain ⟨p, Kd, Dn, Lk, L, kvs, dn, ks, rfl, _⟩ := h
    rfl
  · obtain ⟨p, Kd, Dn, Lk, L, kvs, dn, ks, rfl, hb, hk, hl, hs, q⟩ := h
    refine ⟨_, pss_one (ps_ret (pe_orT (pe_join pe_str (pe_meth0 (pv 0) T.cl MN GN hr bN .nil pass0)) (pe_one pe_str))), ?_⟩
    obtain ⟨dx, ob⟩ := id hb.ob
    refine ⟨⟨_, rfl⟩, .ref p, rfl, p, dx, _, rfl, ob, bF_no _ _ _ (by decide +kernel) (by decide +kernel) (by decide +kernel), p, Kd, Dn, Lk, kvs, dn, ks, rfl, hb, hk, hl, fun ys M pm srt hM => ?_⟩
    have sM := same_new (o := .lst (ys.map V.str)) hM
    have e1 : (" " : Str).length = 1 := by decide +kernel
    have hb1 := join_short (y := " ") (ys := ys) (b := 100) (by rw [e1]; decide) fun t ht => hs t (pm.mem_iff.mp ht)
    have yl := pm.length_eq
    have jl := join_len " " ys
    have bnd : (ys.map (·.length)).sum + ys.length * (" " : Str).length ≤ 16777216 := by omega
    refine ⟨" ", M, ys, rfl, rfl, .inl (.inl (.inl upd_same)), bnd, ?_⟩
    have q1 := q _ ys sM pm srt
    unfold orNone at q1
    refine ⟨_, ⟨by rw [sizeLine_eq]; omega, rfl⟩, ?_⟩
    by_cases e : (Txt.join " " ys).length = 0
    · rw [if_pos e] at q1
      rw [e]
      exact iteF q1
    · rw [if_neg e] at q1
      have : (((Txt.join " " ys).length : Int) != 0) = true := by simp; omega
      rw [this]
      exact iteT q1
section
variable {X : Cx} {o e : Expr} {to te : TE}
def rJoinK (K : PySem.W.Frag) : V → List V → Hp → VK → Prop := fun x xs H Q => ∃ a p, ∃ ys : List Str, x = .str a ∧ xs = [.ref p] ∧ (SqL K H p (ys.map V.str) ∨ SqT K H p (ys.map V.str)) ∧ (ys.map (·.length)).sum + ys.length * a.length ≤ 16777216 ∧ Q (.str (Txt.join a ys)) H
theorem pe_joinK {apos pos : Pos} (hK : X.K = K) (ho : PE X o to) (he : PE X e te) (hs : starEach [e] X.env = [(false, eval e X.env)] := by rfl) (hbase : attributeBase o "join" X.env (eval o X.env) = eval o X.env := by rfl) (hline : (apos.endLine == pos.line) = true := by rfl) :
    PE X (.Call (.Attribute o "join" apos) [e] [] pos) (tM1 (rJoinK K) to te) := by
  subst hK
  exact pe_join ho he hs hbase hline
end
def kindsS (gs : List (List Str)) : Str := orNone (Txt.join ", " (gs.map fun g => Txt.join " " g))
def spAk (P : Program) (w : World) (C : Addr) : Sp := fun vs H Q _ => ∃ (p Kd Dn Lk L : Addr) (dn : List Dn1) (kb : List Str) (adr : Str → Addr) (rowf : Str → Rw) (n : Nat), vs = [.ref p, .ref L] ∧ BkAt C H p Kd Dn Lk (kvE (fun t => .ref (adr t)) kb) dn ∧ LkAt P w H Lk n ∧ kb.Nodup ∧ kb.length < 64 ∧ (∀ t ∈ kb, t.length ≤ 8) ∧ (∀ t ∈ kb, RwAt H (adr t) (rowf t) ∧ RwOk (rowf t)) ∧
  ∀ (H' : Hp) (D : Addr) (ys : List Str) (lab : Str → List MRow), ys.Perm kb → Up ys → (∀ t ∈ kb, LmOk (rowf t).m.toNat (rowf t).ds (rowf t).o (lab t)) → BkAt C H' p Kd Dn D (kvE (fun t => .ref (adr t)) kb) dn → LkAt P w H' D 64 → H D = none → (∀ c o, c ≠ p → H c = some o → H' c = some o) → Q (.str (kindsS ((grpL (fun t => lookK (rowf t).m.toNat (lab t)) ys).map (·.2)))) H'
set_option maxHeartbeats 1000000 in
theorem ok_ak {f fK C : Addr} {fd fdK : FuncData} {k : Nat} (F : Fun K "answer_kinds" "answer_kinds" s_answer_kinds f fd) (T : BCls K mg C)
    (MK : Meth K C "kinds" fK) (GK : FnOk P w K mg base CX0 (k + 8) fK fdK ["self"] (spBk P w C)) (bK : Binds K fdK ["self"] []) : FnOk P w K mg base CX0 (k + 9) f fd ["book", "words"] (spAk P w C) := by
  refine F.ok sc_answer_kinds (fun vs H Q E h => ?_) (fun cdv A outer s H vs Q E hr h => ?_)
  · obtain ⟨p, Kd, Dn, Lk, L, dn, kb, adr, rowf, n, rfl, _⟩ := h
    rfl
  · obtain ⟨p, Kd, Dn, Lk, L, dn, kb, adr, rowf, n, rfl, hb, hlk, nd, h64, h8, hrows, q⟩ := h
    refine ⟨_, pss_one (ps_ret (pe_orT (pe_join pe_str (pe_lc (own := [("kind", 2)]) (g := gName 2) (by rfl) sc_answer_kinds.nd (pi_list (pe_meth0 (pv 0) T.cl MK GK hr bK .nil pass0)) (blkOk_by (own := [("kind", 2)]) (N := N_answer_kinds) (sc := defScope s_answer_kinds) (by decide +kernel)) (fun _ _ _ _ _ => pg_name (i := 2) sc_answer_kinds.nd rfl (Or.inl rfl)) (fun _ _ _ _ _ => pts_nil) (fun _ _ _ _ _ => pe_joinK (K := K) rfl pe_str (pv 2)))) (pe_one pe_str))), ?_⟩
    obtain ⟨dx, ob⟩ := id hb.ob
    refine ⟨⟨_, rfl⟩, .ref p, rfl, p, dx, _, rfl, ob, bF_no _ _ _ (by decide +kernel) (by decide +kernel) (by decide +kernel), p, Kd, Dn, Lk, dn, kb, adr, rowf, n, rfl, hb, hlk, nd, h64, hrows, fun H2 G D qs ys lab pm up hlab eG hqs hG hq ndq bk2 lk2 hD nDG nDq keep => ?_⟩
    have gl := grpL_len (fun t => lookK (rowf t).m.toNat (lab t)) ys
    have gf := grp_few (fun t => lookK (rowf t).m.toNat (lab t)) ys
    have gh := (grp_ok (fun t => lookK (rowf t).m.toNat (lab t)) up).has
    have qf := q
    obtain ⟨gg, hgg⟩ : ∃ gg, gg = grpL (fun t => lookK (rowf t).m.toNat (lab t)) ys := ⟨_, rfl⟩
    have q1 := fun H' s => q H' D ys lab pm up hlab ((bk2.same s : BkAt C H' p Kd Dn D _ dn)) (lk2.same s) hD (fun c o n e => s _ _ (keep c o n e))
    rw [← hgg] at gl gf gh hqs q1
    obtain ⟨gs, hgs⟩ : ∃ gs : List (List Str), gs = gg.map (·.2) := ⟨_, rfl⟩
    rw [← hgs] at hqs q1
    have yl := pm.length_eq
    have gsl : gs.length ≤ 64 := by rw [hgs, List.length_map]; omega
    have gm : ∀ g ∈ gs, g.length ≤ 64 ∧ ∀ t ∈ g, t.length ≤ 8 := fun g hg => by
      rw [hgs] at hg
      obtain ⟨g0, h0, rfl⟩ := List.mem_map.mp hg
      exact ⟨by have := gf g0 h0; omega, fun t ht => h8 t (pm.mem_iff.mp (gh g0 h0 t ht).1)⟩
    have ql := awLen hqs
    have e1 : (" " : Str).length = 1 := by decide +kernel
    have e2 : (", " : Str).length = 2 := by decide +kernel
    have jb : ∀ g ∈ gs, (g.map (·.length)).sum + g.length * (" " : Str).length ≤ 640 := fun g hg => by
      have := join_short (y := " ") (ys := g) (b := 8) (by rw [e1]; decide) (gm g hg).2
      have := (gm g hg).1
      omega
    refine ⟨G, rfl, ⟨_, .inl (.inl eG)⟩, fun W hW => ?_⟩
    refine lc_list (K := K) (a := G) (xs := qs.map V.ref) (fun j H4 => H4 W = some (.lst ((((gs.take j).map fun g => Txt.join " " g)).map V.str)) ∧ Same H2 H4) ⟨upd_same, same_new hW⟩ (fun j H4 _ h4 => .inl (.inl (h4.2 _ _ eG))) (fun j x H4 hx h4 => ?_) (fun H4 h4 => ?_)
    · obtain ⟨eW, s4⟩ := h4
      have hj := (List.getElem?_eq_some_iff.mp hx).1
      rw [List.length_map] at hj
      rw [List.getElem?_map] at hx
      obtain ⟨a, ha, rfl⟩ := Option.map_eq_some_iff.mp hx
      obtain ⟨g, hg, eg⟩ := awGet hqs ha
      have eg : H2 a = some (.lst (g.map V.str)) := eg
      have bnd : (g.map (·.length)).sum + g.length * (" " : Str).length ≤ 16777216 := Nat.le_trans (jb g (List.mem_of_getElem? hg)) (by decide)
      refine ⟨rfl, ⟨_, rfl⟩, .ref a, rfl, " ", a, g, rfl, rfl, .inl (.inl (.inl (s4 _ _ eg))), bnd, ?_⟩
      refine ⟨_, eW, by rw [List.length_map, List.length_map, List.length_take, sizeLine_eq]; omega, ?_, fun b u z => by rw [upd_ne (ne_of_none z hW)]; exact s4 _ _ z⟩
      rw [upd_same, List.take_add_one, hg, List.map_append, List.map_append]
      rfl
    obtain ⟨eW, s4⟩ := h4
    rw [List.length_map, ql, List.take_length] at eW
    have bnd2 : ((gs.map fun g => Txt.join " " g).map (·.length)).sum + (gs.map fun g => Txt.join " " g).length * (", " : Str).length ≤ 50000 := by
      have := join_short (y := ", ") (ys := gs.map fun g => Txt.join " " g) (b := 640) (by rw [e2]; exact Nat.le_refl _) (fun t ht => by
        obtain ⟨g, hg, rfl⟩ := List.mem_map.mp ht
        exact Nat.le_trans (join_len " " g) (jb g hg))
      rw [List.length_map] at this
      rw [List.length_map]
      omega
    have jl := join_len ", " (gs.map fun g => Txt.join " " g)
    refine ⟨", ", W, gs.map fun g => Txt.join " " g, rfl, rfl, .inl (.inl (.inl eW)), Nat.le_trans bnd2 (by decide), ?_⟩
    have q2 := q1 H4 s4
    unfold kindsS orNone at q2
    refine ⟨_, ⟨by rw [sizeLine_eq]; omega, rfl⟩, ?_⟩
    by_cases e : (Txt.join ", " (gs.map fun g => Txt.join " " g)).length = 0
    · rw [if_pos e] at q2
      rw [e]
      exact iteF q2
    · rw [if_neg e] at q2
      have : (((Txt.join ", " (gs.map fun g => Txt.join " " g)).length : Int) != 0) = true := by simp; omega
      rw [this]
      exact iteT q2
structure DkCls (K : PySem.W.Frag) (mg : Str → Option Value) (CD : Addr) : Prop where
  cl : Cls K CD
  nB : NoAttr K CD "book"
  mgC : mg "Desk" = some (.ref CD)
def dF (p : Addr) : List (Str × V) := putF "book" (.ref p) []
theorem dF_book (p : Addr) : (dF p).lookup ("book" : Str) = some (.ref p) := by
  unfold dF
  rw [lookup_putF, if_pos rfl]
theorem dF_no (p : Addr) {m : Str} (h : ¬ m = "book") : (dF p).lookup m = none := by
  unfold dF
  rw [lookup_putF, if_neg h]
  rfl
abbrev sDesk___init__ : Stmt := inClass c_Desk 0
abbrev sDesk_say : Stmt := inClass c_Desk 1
theorem scDi : FnScope ["self"] ["self"] (defScope sDesk___init__) := ⟨rfl, rfl, rfl, by decide +kernel, rfl, by decide +kernel, by decide +kernel⟩
abbrev N_Dsay : List Str := ["self", "row", "words", "answer"]
theorem scDs : FnScope N_Dsay ["self", "row"] (defScope sDesk_say) := ⟨rfl, rfl, rfl, by decide +kernel, rfl, by decide +kernel, by decide +kernel⟩
def spDi (P : Program) (w : World) (C CD : Addr) : Sp := fun vs H Q _ => ∃ (d dx : Addr), vs = [.ref d] ∧ H d = some (.ins CD dx []) ∧
  ∀ H' p Kd Dn Lk, H' d = some (.ins CD dx (dF p)) → BkAt C H' p Kd Dn Lk [] [] → H' Lk = some (NDO P w Lk []) → H p = none → H Kd = none → H Dn = none → (∀ c o, c ≠ d → H c = some o → H' c = some o) → Q .non H'
theorem ok_di {f fI C CD : Addr} {fd fdI : FuncData} {k : Nat} (F : Fun K "__init__" "Desk.__init__" sDesk___init__ f fd) (TD : DkCls K mg CD) (T : BCls K mg C)
    (KB : Mk K C fI) (GI : FnOk P w K mg base CX0 (k + 1) fI fdI ["self"] (spBi P w C)) (bI : Binds K fdI ["self"] []) : FnOk P w K mg base CX0 (k + 3) f fd ["self"] (spDi P w C CD) := by
  refine F.ok scDi (fun vs H Q E h => ?_) (fun cdv A outer s H vs Q E hr h => ?_)
  · obtain ⟨d, dx, rfl, _⟩ := h
    rfl
  · obtain ⟨d, dx, rfl, hd, q⟩ := h
    refine ⟨_, pss_one (ps_fld (pv 0) (pe_make0 KB GI hr (by rfl) T.mgC bI .nil pass0) rfl), ?_⟩
    intro p dx2 np ndx nxp
    refine ⟨p, dx2, rfl, upd_same, fun H1 Kd Dn Lk bk eLk nKd nDn nLk keep => ⟨rfl, ?_⟩⟩
    have s0 : Same H (upd (upd H dx2 (.own p)) p (.ins C dx2 [])) := fun x o e => by
      rw [upd_ne (ne_of_none e np), upd_ne (ne_of_none e ndx)]
      exact e
    have s1 : Same H H1 := fun x o e => keep _ _ (ne_of_none e np) (s0 _ _ e)
    have hd1 := s1 _ _ hd
    refine ⟨.ref d, rfl, d, CD, dx, _, rfl, hd1, TD.cl, TD.nB, (by show 0 < 1000; decide), ?_⟩
    have k2 : ∀ c o, c ≠ d → H1 c = some o → upd H1 d (.ins CD dx (dF p)) c = some o := fun c o n e => by
      rw [upd_ne n]
      exact e
    obtain ⟨dxp, ob⟩ := id bk.ob
    obtain ⟨ts, eD, _⟩ := id bk.done
    have npd : p ≠ d := (ne_of_none hd np).symm
    have nKd2 : Kd ≠ d := ne_of bk.kept hd1 (fun z => nomatch z)
    have nDd : Dn ≠ d := ne_of eD hd1 (fun z => nomatch z)
    have nLd : Lk ≠ d := ne_of eLk hd1 (fun z => nomatch z)
    refine q _ p Kd Dn Lk upd_same (bk.stay (fun c o z e => ?_) (fun x xs e => k2 x _ (ne_of e hd1 (fun z => nomatch z)) e)) (k2 _ _ nLd eLk) np (s0.free nKd) (s0.free nDn) (fun c o n e => k2 c o n (s1 _ _ e))
    rcases z with rfl | rfl | rfl
    · exact k2 _ _ npd e
    · exact k2 _ _ nKd2 e
    · exact k2 _ _ nDd e
def usedL : List Str := ["tell", "forget", "back", "show", "names", "kinds"]
def ansSp (P : Program) (w : World) (C : Addr) (x : Str) : Sp := if x = "tell" then spAt C else if x = "forget" then spAf C else if x = "back" then spAb C else if x = "show" then spAs C else if x = "names" then spAn C else if x = "kinds" then spAk P w C else fun _ _ _ _ => False
theorem ans_tell (P : Program) (w : World) (C : Addr) : ansSp P w C "tell" = spAt C := if_pos rfl
theorem ans_forget (P : Program) (w : World) (C : Addr) : ansSp P w C "forget" = spAf C := by
  unfold ansSp
  rw [if_neg (by decide +kernel), if_pos rfl]
theorem ans_back (P : Program) (w : World) (C : Addr) : ansSp P w C "back" = spAb C := by
  unfold ansSp
  rw [if_neg (by decide +kernel), if_neg (by decide +kernel), if_pos rfl]
theorem ans_show (P : Program) (w : World) (C : Addr) : ansSp P w C "show" = spAs C := by
  unfold ansSp
  rw [if_neg (by decide +kernel), if_neg (by decide +kernel), if_neg (by decide +kernel), if_pos rfl]
theorem ans_names (P : Program) (w : World) (C : Addr) : ansSp P w C "names" = spAn C := by
  unfold ansSp
  rw [if_neg (by decide +kernel), if_neg (by decide +kernel), if_neg (by decide +kernel), if_neg (by decide +kernel), if_pos rfl]
theorem ans_kinds (P : Program) (w : World) (C : Addr) : ansSp P w C "kinds" = spAk P w C := by
  unfold ansSp
  rw [if_neg (by decide +kernel), if_neg (by decide +kernel), if_neg (by decide +kernel), if_neg (by decide +kernel), if_neg (by decide +kernel), if_pos rfl]
theorem ans_mono {P : Program} {w : World} {C : Addr} {x : Str} {vs : List V} {H : Hp} {Q Q' : VK} {E : XK} (h : ansSp P w C x vs H Q E) (m : ∀ v H', Q v H' → Q' v H') : ansSp P w C x vs H Q' E := by
  unfold ansSp at h ⊢
  split at h
  · rename_i e
    rw [if_pos e]
    obtain ⟨p, Kd, Dn, Lk, L, kvs, dn, t, ws, o, r, h1, h2, h3, h4, h5, h6, h7, h8, h9, h10, q⟩ := h
    exact ⟨p, Kd, Dn, Lk, L, kvs, dn, t, ws, o, r, h1, h2, h3, h4, h5, h6, h7, h8, h9, h10, fun H' Z a b c => m _ _ (q H' Z a b c)⟩
  rename_i n1
  rw [if_neg n1]
  split at h
  · rename_i e
    rw [if_pos e]
    obtain ⟨p, Kd, Dn, Lk, L, kvs, dn, t, r, h1, h2, h3, h4, h5, h6, q⟩ := h
    exact ⟨p, Kd, Dn, Lk, L, kvs, dn, t, r, h1, h2, h3, h4, h5, h6, fun H' a b => m _ _ (q H' a b)⟩
  rename_i n2
  rw [if_neg n2]
  split at h
  · rename_i e
    rw [if_pos e]
    obtain ⟨p, Kd, Dn, Lk, L, kvs, dn, e', h1, h2, h3, h4, q⟩ := h
    exact ⟨p, Kd, Dn, Lk, L, kvs, dn, e', h1, h2, h3, h4, fun H' a b => m _ _ (q H' a b)⟩
  rename_i n3
  rw [if_neg n3]
  split at h
  · rename_i e
    rw [if_pos e]
    obtain ⟨p, Kd, Dn, Lk, L, kvs, dn, t, R, r, h1, h2, h3, h4, h5, h6, h7, q⟩ := h
    exact ⟨p, Kd, Dn, Lk, L, kvs, dn, t, R, r, h1, h2, h3, h4, h5, h6, h7, fun H' a => m _ _ (q H' a)⟩
  rename_i n4
  rw [if_neg n4]
  split at h
  · rename_i e
    rw [if_pos e]
    obtain ⟨p, Kd, Dn, Lk, L, kvs, dn, ks, h1, h2, h3, h4, h5, q⟩ := h
    exact ⟨p, Kd, Dn, Lk, L, kvs, dn, ks, h1, h2, h3, h4, h5, fun H' ys a b c => m _ _ (q H' ys a b c)⟩
  rename_i n5
  rw [if_neg n5]
  split at h
  · rename_i e
    rw [if_pos e]
    obtain ⟨p, Kd, Dn, Lk, L, dn, kb, adr, rowf, n, h1, h2, h3, h4, h5, h6, h7, q⟩ := h
    exact ⟨p, Kd, Dn, Lk, L, dn, kb, adr, rowf, n, h1, h2, h3, h4, h5, h6, h7, fun H' D ys lab a b c d e f g => m _ _ (q H' D ys lab a b c d e f g)⟩
  · exact h.elim
/-- a text of words that a desk takes -/
structure Said (t x : Str) (ws : List Str) (form : Str) : Prop where
  len : t.length ≤ 90000
  spl : Txt.split t " " = x :: ws
  ne : ("" : Str) ∉ x :: ws
  frm : (x, form) ∈ formsL
  fit : fitsF form ws = true
def spSay (P : Program) (w : World) (C CD : Addr) (used : List Str) : Sp := fun vs H Q _ => ∃ (d p dx : Addr) (t x : Str) (ws : List Str) (form : Str), vs = [.ref d, .str t] ∧ H d = some (.ins CD dx (dF p)) ∧ x ∈ used ∧ Said t x ws form ∧ ∀ H' L, Same H H' → H L = none → H' L = some (.lst (ws.map V.str)) → ansSp P w C x [.ref p, .ref L] H' Q E0
theorem ok_say {f fW C CD an : Addr} {es : Array DictEntry} {n : Nat} {fd fdW : FuncData} {k : Nat} {used : List Str} (F : Fun K "say" "Desk.say" sDesk_say f fd) (TD : DkCls K mg CD)
    (GW : FnOk P w K mg base CX0 (k + 9) fW fdW ["row"] spWs) (kW : PySem.W.keepIn K (.ref fW) = true) (bW : Binds K fdW ["row"] []) (gW : mg "words_said" = some (.ref fW))
    (D : KDict K w an es n) (gA : mg "ANSWERS" = some (.ref an)) (HA : ∀ x ∈ used, ∃ f, PySem.W.nsIn K an x = some (some (.ref f)) ∧ Held P w K mg base (k + 9) f (ansSp P w C x)) : FnOk P w K mg base CX0 (k + 10) f fd ["self", "row"] (spSay P w C CD used) := by
  refine F.ok scDs (fun vs H Q E h => ?_) (fun cdv A outer s H vs Q E hr h => ?_)
  · obtain ⟨d, p, dx, t, x, ws, form, rfl, _⟩ := h
    rfl
  · obtain ⟨d, p, dx, t, x, ws, form, rfl, hd, hu, hs, q⟩ := h
    obtain ⟨fx, hns, held⟩ := HA x hu
    refine ⟨_, pss_cons (ps_set (i := 2) scDs.nd rfl (.inl rfl) (pe_call GW hr (by rfl) gW kW bW .nil pass0 (pa_cons (pv 1) pa_nil)))
      (pss_cons (ps_set (i := 3) scDs.nd rfl (.inl rfl) (pe_ix ix_kdict (pe_glob (v := .ref an) (by rfl) gA rfl) (pe_ix ix_list (pv 2) pe_int (fun _ _ => rfl)) (fun _ _ => rfl)))
      (pss_one (ps_ret (pe_callA (i := 3) (S := fun g => if g = fx then some (ansSp P w C x) else none) (fun g sp hg => by
          by_cases e : g = fx
          · subst e
            rw [if_pos rfl] at hg
            obtain rfl := Option.some.inj hg
            exact held
          · rw [if_neg e] at hg
            cases hg) hr rfl (.inl rfl) (pa_cons (pe_fld (pv 0) rfl) (pa_cons (pe_slice sl_list (pv 2) (po_some pe_int) po_none) pa_nil)))))), ?_⟩
    refine ⟨.str t, rfl, t, x, ws, form, rfl, hs.len, hs.spl, hs.ne, hs.frm, hs.fit, fun H1 L s1 hL eL => ?_⟩
    refine ⟨.ref L, rfl, L, _, 0, .str x, rfl, rfl, .inl (.inl eL), atI_nat (j := 0) rfl, an, x, .ref fx, rfl, rfl, ⟨es, n, _, D.at_, D.lit, hns, rfl⟩, ?_⟩
    refine ⟨fx, ansSp P w C x, rfl, if_pos rfl, .ref d, rfl, d, CD, dx, _, _, rfl, s1 _ _ hd, TD.cl, TD.nB, dF_book p, .ref L, rfl, 1, rfl, L, _, rfl, .inl (.inl eL), fun T hT => ?_⟩
    rw [show cutV ((x :: ws).map V.str) (some 1) none = ws.map V.str from cutTail _ _]
    exact q _ T (s1.trans (same_new hT)) (s1.free hT) upd_same
def spSd (P : Program) (w : World) (C CD : Addr) (used : List Str) : Sp := fun vs H Q _ => ∃ (d p dx : Addr) (t x : Str) (ws : List Str) (form due : Str), vs = [.ref d, .str t, .str due] ∧ H d = some (.ins CD dx (dF p)) ∧ x ∈ used ∧ Said t x ws form ∧ ∀ H' L, Same H H' → H L = none → H' L = some (.lst (ws.map V.str)) → ansSp P w C x [.ref p, .ref L] H' (fun v H'' => v = .str due ∧ Q (.bl true) H'') E0
theorem ok_sd {f fS C CD : Addr} {fd fdS : FuncData} {k : Nat} {used : List Str} (F : Fun K "_law_said" "_law_said" s_law_said f fd) (TD : DkCls K mg CD)
    (MS : Meth K CD "say" fS) (GS : FnOk P w K mg base CX0 (k + 10) fS fdS ["self", "row"] (spSay P w C CD used)) (bS : Binds K fdS ["self", "row"] []) (mi : mg "isinstance" = none) (mS : mg "str" = none) : FnOk P w K mg base CX0 (k + 11) f fd ["desk", "row", "due"] (spSd P w C CD used) := by
  refine F.ok sc_law_said (fun vs H Q E h => ?_) (fun cdv A outer s H vs Q E hr h => ?_)
  · obtain ⟨d, p, dx, t, x, ws, form, due, rfl, _⟩ := h
    rfl
  · obtain ⟨d, p, dx, t, x, ws, form, due, rfl, hd, hu, hs, q⟩ := h
    refine ⟨_, pss_cons (ps_set (i := 3) sc_law_said.nd rfl (.inl rfl) (pe_meth (pv 0) TD.cl MS GS hr bS .nil pass0 (pa_cons (pv 1) pa_nil)))
      (pss_one (ps_ret (pe_and (pe_callB call_isi (by rfl) mi (by decide +kernel) (pa_cons (pv 3) (pa_cons (pe_bltn (v := .ty "str") (by rfl) mS (by decide +kernel) rfl) pa_nil))) (pe_one (pe_cmpR op_eq (pv 3) (pv 2) (nomark _)))))), ?_⟩
    refine ⟨.ref d, rfl, d, dx, _, rfl, hd, dF_no _ (by decide +kernel), .str t, rfl, d, p, dx, t, x, ws, form, rfl, hd, hu, hs, fun H' L s' hL eL => ?_⟩
    refine ans_mono (q H' L s' hL eL) fun v H2 hv => ?_
    obtain ⟨rfl, hq⟩ := hv
    refine ⟨.str due, rfl, .str due, .ty "str", .type "str", .type "str", true, rfl, .ty "str", .base (.str due), kit_ty (by decide +kernel), true, rfl, iteT ⟨.str due, rfl, .str due, rfl, rfl, ?_⟩⟩
    rw [decide_eq_true rfl]
    exact hq
theorem in_part {x y : Str} {i : Int} (h : TL.tl y = TL.tl x ++ [32]) : y ++ iS i = partS x [i] := by
  apply TL.ext_tl
  rw [TL.tl_append, tl_part, h]
  simp [TL.joinL]
abbrev rStrX : List V → Hp → VK → Prop := fun xs H Q => ∃ v, xs = [v] ∧ ((∃ i, v = .int i ∧ i.natAbs.log2 < 1920) ∨ ∃ a, v = .str a) ∧ Q (.str (vS v)) H
theorem ok_ltext {f : Addr} {fd : FuncData} {k : Nat} (F : Fun K "_law_text" "_law_text" s_law_text f fd) (mS : mg "str" = none) : FnOk P w K mg base CX0 (k + 1) f fd ["row"] spShow := by
  refine F.ok sc_law_text (fun vs H Q E h => ?_) (fun cdv A outer s H vs Q E hr h => ?_)
  · obtain ⟨R, m, o, ds, rfl, _⟩ := h
    rfl
  · obtain ⟨R, m, o, ds, rfl, hrow, hok, q⟩ := h
    obtain ⟨D, rs, eR, eD, hd⟩ := id hrow
    refine ⟨_, pss_cons (ps_set (i := 1) sc_law_text.nd rfl (.inl rfl) (pe_lst (pa_cons (pe_op op_add_str pe_str (pe_callTy (r := rStrX) call_str_any (by rfl) mS (by decide +kernel) (pa_cons (pe_ix ix_tup (pv 0) pe_int (fun _ _ => rfl)) pa_nil))) pa_nil)))
      (pss_cons (ps_for PassesOwn.never rfl (pi_tup (pe_ix ix_tup (pv 0) pe_int (fun _ _ => rfl))) (pg_name (i := 2) sc_law_text.nd rfl (.inl rfl))
        (pss_one (ps_expr (pe_bm PySem.F.plainAttrs_list PySem.F.slot_list_append PySem.F.type_list_append mt_append (pv 1) (pa_cons (pe_join pe_str (pe_op op_cat (pe_lst (pa_cons (pe_ix ix_tup (pv 2) pe_int (fun _ _ => rfl)) pa_nil))
          (pe_lc (own := [("number", 3)]) (g := gName 3) (by rfl) sc_law_text.nd (pi_tup (pe_slice sl_tup (pv 2) (po_some pe_int) po_none)) (blkOk_by (own := [("number", 3)]) (N := N_law_text) (sc := defScope s_law_text) (by decide +kernel))
            (fun _ _ _ _ _ => pg_name (i := 3) sc_law_text.nd rfl (Or.inl rfl)) (fun _ _ _ _ _ => pts_nil)
            (fun _ _ _ _ _ => pe_callTy (r := rStrX) call_str_any (by rfl) mS (by decide +kernel) (pa_cons (pv 3) pa_nil))))) pa_nil)))))
      (pss_one (ps_ret (pe_join pe_str (pe_op op_cat (pv 1) (pe_lst (pa_cons (pe_op op_add_str pe_str (pe_callTy (r := rStrX) call_str_any (by rfl) mS (by decide +kernel) (pa_cons (pe_ix ix_tup (pv 0) pe_int (fun _ _ => rfl)) pa_nil))) pa_nil))))))), ?_⟩
    have h8 := hok.len
    have lr := awLen hd
    have m1 := hok.m1
    have m3 := hok.m3
    have o0 := hok.o0
    have o1 := hok.o1
    have hm : m.natAbs < 1000 := by omega
    have ho : o.natAbs < 1000 := by omega
    have ein : ("in " : Str) ++ iS m = partS "in" [m] := in_part (by decide +kernel)
    have eout : ("out " : Str) ++ iS o = partS "out" [o] := in_part (by decide +kernel)
    have okd : ∀ d ∈ ds, PartOk d := by
      intro d hd'
      obtain ⟨kk, hk⟩ := List.mem_iff_getElem?.mp hd'
      have := (List.getElem?_eq_some_iff.mp hk).1
      exact partOk_deed (hok.deeds.each kk d hk) (by omega)
    refine ⟨.ref R, rfl, R, _, 0, .int m, rfl, rfl, SqT.of eR, rfl, .int m, rfl, .inl ⟨m, rfl, small_log hm⟩, "in ", iS m, rfl, rfl, ?_, (by show 1 ≤ sizeLine; decide), fun L hL => ?_⟩
    · have a1 : ("in " : Str).length = 3 := by decide +kernel
      have := iS_len hm
      rw [a1, sizeLine_eq]
      omega
    rw [ein]
    have sL : ∀ o, Same H (upd H L o) := fun o => same_new hL
    refine ⟨.ref R, rfl, R, _, 1, .ref D, rfl, rfl, SqT.of (sL _ _ _ eR), rfl, D, rfl, ⟨_, SqT.of (sL _ _ _ eD)⟩, for_tup (K := K) (a := D) (xs := rs.map V.ref) (fun j σ H3 => ∃ y, σ = [some (.ref R), some (.ref L), y, none] ∧ H3 L = some (.lst ((partS "in" [m] :: (ds.take j).map fun d => partS d.1 d.2).map V.str)) ∧ Same H H3) ⟨none, rfl, upd_same, sL _⟩ (fun j σ H3 _ h3 => ?_) (fun j x σ H3 hx h3 => ?_) (fun σ H3 h3 => ?_)⟩
    · obtain ⟨_, _, _, s3⟩ := h3
      exact SqT.of (s3 _ _ eD)
    · obtain ⟨y, rfl, eL, s3⟩ := h3
      have hjl := (List.getElem?_eq_some_iff.mp hx).1
      rw [List.length_map] at hjl
      rw [List.getElem?_map] at hx
      obtain ⟨b, hb, rfl⟩ := Option.map_eq_some_iff.mp hx
      obtain ⟨d, hd1, hd2⟩ := awGet hd hb
      have hp := okd d (List.mem_of_getElem? hd1)
      have hfew := hp.few
      have er := s3 _ _ hd2
      refine ⟨.ref L, rfl, .inl ⟨rfl, _, .inl (.inl eL)⟩, ⟨_, rfl⟩, .ref b, rfl, b, _, 0, .str d.1, rfl, rfl, SqT.of er, dv0 d, (by show 1 ≤ sizeLine; decide), fun U hU => ?_⟩
      have sU := same_new (o := .lst [.str d.1]) hU
      refine ⟨.ref b, rfl, 1, rfl, b, dV d, rfl, SqT.of (sU _ _ er), notWhole _ _, fun T hT => ?_⟩
      rw [show cutV (dV d) (some 1) none = d.2.map V.int from cutTail _ _]
      have sT := sU.trans (same_new (o := .tup (d.2.map V.int)) hT)
      have eU1 : upd (upd H3 U (.lst [.str d.1])) T (.tup (d.2.map V.int)) U = some (.lst [.str d.1]) := same_new hT _ _ upd_same
      obtain ⟨H5, hH5⟩ : ∃ H5, H5 = upd (upd H3 U (.lst [.str d.1])) T (.tup (d.2.map V.int)) := ⟨_, rfl⟩
      have eT5 : H5 T = some (.tup (d.2.map V.int)) := by rw [hH5]; exact upd_same
      rw [← hH5] at sT eU1 ⊢
      refine ⟨T, rfl, ⟨_, SqT.of eT5⟩, fun C hC => ?_⟩
      have sC : ∀ o, Same H5 (upd H5 C o) := fun o => same_new hC
      refine lc_tup (K := K) (a := T) (xs := d.2.map V.int) (fun j H6 => H6 = upd H5 C (.lst (((d.2.take j).map iS).map V.str))) rfl (fun j H6 _ h6 => ?_) (fun j x H6 hx h6 => ?_) (fun H6 h6 => ?_)
      · rw [h6]
        exact SqT.of (sC _ _ _ eT5)
      · subst h6
        rw [List.getElem?_map] at hx
        obtain ⟨i, hi, rfl⟩ := Option.map_eq_some_iff.mp hx
        refine ⟨rfl, .int i, rfl, .int i, rfl, .inl ⟨i, rfl, small_log (hp.nums i (List.mem_of_getElem? hi))⟩, _, upd_same, ?_, ?_⟩
        · rw [List.length_map, List.length_map, List.length_take]
          exact small1000 (by omega)
        · rw [upd_upd, List.take_add_one, hi]
          simp [vS]
      · have eC : H6 C = some (.lst ((d.2.map iS).map V.str)) := by
          rw [h6, upd_same, List.length_map, List.take_length]
        have s6 : Same H5 H6 := by rw [h6]; exact sC _
        refine ⟨U, C, _, _, rfl, rfl, s6 _ _ eU1, eC, ?_, fun p hp' => ?_⟩
        · rw [List.length_map, List.length_map]
          exact Nat.le_of_lt (small1000 (by show 1 + d.2.length ≤ 1000; omega))
        have sp := same_new (o := .lst ([V.str d.1] ++ (d.2.map iS).map V.str)) hp'
        have s36 : Same H3 (upd H6 p (.lst ([V.str d.1] ++ (d.2.map iS).map V.str))) := sT.trans (s6.trans sp)
        have eL6 := s36 _ _ eL
        refine ⟨" ", p, d.1 :: d.2.map iS, rfl, rfl, .inl (.inl (.inl upd_same)), ?_, L, _, _, rfl, rfl, eL6, ?_, some (.ref b), rfl, ?_, ?_⟩
        · have h1 : ∀ x ∈ (d.1 :: d.2.map iS).map Str.length, x ≤ 5 := by
            intro x hx
            obtain ⟨y, hy, rfl⟩ := List.mem_map.mp hx
            rcases List.mem_cons.mp hy with rfl | hy
            · exact hp.word
            · obtain ⟨i, hi, rfl⟩ := List.mem_map.mp hy
              exact Nat.le_trans (iS_len (hp.nums i hi)) (by decide)
          have h2 := sum_le h1
          have h3 : (" " : Str).length = 1 := by decide +kernel
          have h4 : ((d.1 :: d.2.map iS).map Str.length).length = d.2.length + 1 := by simp
          have h5 : (d.1 :: d.2.map iS).length = d.2.length + 1 := by simp
          rw [h4] at h2
          rw [h3, h5]
          show ((d.1 :: d.2.map iS).map Str.length).sum + _ ≤ _
          omega
        · rw [List.length_map, List.length_cons, List.length_map, List.length_take]
          exact small1000 (by omega)
        · rw [upd_same, List.take_add_one, hd1]
          simp [partS]
        · intro b' u e
          rw [upd_ne (ne_of_none e hL)]
          exact s36 _ _ (s3 _ _ e)
    · obtain ⟨y, rfl, eL, s3⟩ := h3
      rw [List.length_map, lr, List.take_length] at eL
      refine ⟨⟨_, rfl⟩, .ref L, rfl, .ref R, rfl, R, _, 2, .int o, rfl, rfl, SqT.of (s3 _ _ eR), rfl, .int o, rfl, .inl ⟨o, rfl, small_log ho⟩, "out ", iS o, rfl, rfl, ?_, (by show 1 ≤ sizeLine; decide), fun M hM => ?_⟩
      · have a1 : ("out " : Str).length = 4 := by decide +kernel
        have := iS_len ho
        rw [a1, sizeLine_eq]
        omega
      rw [eout]
      have sM := same_new (o := .lst [.str (partS "out" [o])]) hM
      refine ⟨L, M, _, _, rfl, rfl, sM _ _ eL, upd_same, ?_, fun p hp' => ?_⟩
      · rw [List.length_map, List.length_cons, List.length_map]
        exact Nat.le_of_lt (small1000 (by show ds.length + 1 + 1 ≤ 1000; omega))
      have e : (partS "in" [m] :: ds.map fun d => partS d.1 d.2).map V.str ++ [V.str (partS "out" [o])] = (partsS m ds o).map V.str := by
        unfold partsS
        simp
      rw [e]
      have sp := same_new (o := .lst ((partsS m ds o).map V.str)) hp'
      refine ⟨"; ", p, partsS m ds o, rfl, rfl, .inl (.inl (.inl upd_same)), ?_, q _ (s3.trans (sM.trans sp))⟩
      have h1 : ∀ x ∈ (partsS m ds o).map Str.length, x ≤ 20 := by
        intro x hx
        obtain ⟨y, hy, rfl⟩ := List.mem_map.mp hx
        rcases List.mem_append.mp hy with hy | hy
        · rcases List.mem_cons.mp hy with rfl | hy
          · exact part_len (by decide +kernel) (by show 1 ≤ 2; decide) fun i hi => by rw [List.mem_singleton.mp hi]; exact hm
          · obtain ⟨d, hd', rfl⟩ := List.mem_map.mp hy
            have := okd d hd'
            exact part_len this.word this.few this.nums
        · rw [List.mem_singleton.mp hy]
          exact part_len (by decide +kernel) (by show 1 ≤ 2; decide) fun i hi => by rw [List.mem_singleton.mp hi]; exact ho
      have h2 := sum_le h1
      have h3 : ("; " : Str).length = 2 := by decide +kernel
      have h5 : (partsS m ds o).length = ds.length + 2 := by unfold partsS; simp
      rw [List.length_map, h5] at h2
      rw [h3, h5]
      show ((partsS m ds o).map Str.length).sum + _ ≤ _
      omega
/-- signs that are words parted by single blanks -/
def Wds (l : List Nat) : Prop := ∃ W : List (List Nat), W ≠ [] ∧ (∀ p ∈ W, p ≠ [] ∧ 32 ∉ p) ∧ l = TL.joinL [32] W
theorem joinL_app {S : List Nat} : ∀ {a b : List (List Nat)}, a ≠ [] → b ≠ [] → TL.joinL S (a ++ b) = TL.joinL S a ++ (S ++ TL.joinL S b)
  | [], _, h, _ => absurd rfl h
  | [x], [], _, h => absurd rfl h
  | [x], y :: b, _, _ => rfl
  | x :: y :: a, b, _, h => by
    show x ++ (S ++ TL.joinL S (y :: a ++ b)) = (x ++ (S ++ TL.joinL S (y :: a))) ++ (S ++ TL.joinL S b)
    rw [joinL_app (a := y :: a) (by simp) h]
    simp only [List.append_assoc]
theorem wds_cat {a b : List Nat} (ha : Wds a) (hb : Wds b) : Wds (a ++ (32 :: b)) := by
  obtain ⟨A, a1, a2, rfl⟩ := ha
  obtain ⟨B, b1, b2, rfl⟩ := hb
  refine ⟨A ++ B, by simp [a1], fun p hp => ?_, ?_⟩
  · rcases List.mem_append.mp hp with hp | hp
    · exact a2 p hp
    · exact b2 p hp
  · rw [joinL_app a1 b1]
    rfl
theorem wds_snoc {a : List Nat} {c : Nat} (ha : Wds a) (hc : c ≠ 32) : Wds (a ++ [c]) := by
  obtain ⟨A, a1, a2, rfl⟩ := ha
  obtain ⟨A0, l, rfl⟩ := snocOf a1
  refine ⟨A0 ++ [l ++ [c]], by simp, fun p hp => ?_, ?_⟩
  · rcases List.mem_append.mp hp with hp | hp
    · exact a2 p (List.mem_append_left _ hp)
    · rw [List.mem_singleton.mp hp]
      obtain ⟨_, n2⟩ := a2 l (List.mem_append_right _ (List.mem_singleton_self l))
      refine ⟨by simp, fun z => ?_⟩
      rcases List.mem_append.mp z with z | z
      · exact n2 z
      · exact hc (List.mem_singleton.mp z).symm
  · cases A0 with
    | nil => rfl
    | cons x A0 =>
      rw [joinL_app (a := x :: A0) (by simp) (by simp), joinL_app (a := x :: A0) (by simp) (by simp)]
      show _ ++ ([32] ++ l) ++ [c] = _ ++ ([32] ++ (l ++ [c]))
      simp only [List.append_assoc]
theorem wds_join {ps : List (List Nat)} (h : ps ≠ []) (hp : ∀ p ∈ ps, Wds p) : Wds (TL.joinL [59, 32] ps) := by
  induction ps with
  | nil => exact absurd rfl h
  | cons p ps ih =>
    cases ps with
    | nil => exact hp p List.mem_cons_self
    | cons q r =>
      have h1 := ih (by simp) fun x hx => hp x (List.mem_cons_of_mem _ hx)
      have h2 := wds_cat (wds_snoc (c := 59) (hp p List.mem_cons_self) (by decide)) h1
      show Wds (p ++ ([59, 32] ++ TL.joinL [59, 32] (q :: r)))
      rw [show p ++ ([59, 32] ++ TL.joinL [59, 32] (q :: r)) = p ++ [59] ++ 32 :: TL.joinL [59, 32] (q :: r) by simp]
      exact h2
theorem wds_part {x : Str} {l : List Int} (hx : TL.tl x ≠ [] ∧ 32 ∉ TL.tl x) (hl : ∀ i ∈ l, 0 ≤ i) : Wds (TL.tl (partS x l)) := by
  rw [tl_part]
  refine ⟨_, by simp, fun p hp => ?_, rfl⟩
  rcases List.mem_cons.mp hp with rfl | hp
  · exact hx
  · obtain ⟨i, hi, rfl⟩ := List.mem_map.mp hp
    obtain ⟨k, rfl⟩ := Int.eq_ofNat_of_zero_le (hl i hi)
    rw [tl_iS]
    exact ⟨TL.numL_ne k, TL.numL_free (by omega)⟩
theorem fw_ne : ∀ p ∈ fwL, TL.tl p.1 ≠ [] := by decide +kernel
theorem row_wds {m o : Int} {ds : List Deed} (h : RowOk m ds o) : Wds (TL.tl (rowS m ds o)) := by
  have m1 := h.m1
  have o0 := h.o0
  have h8 := h.len
  have e : TL.tl (rowS m ds o) = TL.joinL [59, 32] ((partsS m ds o).map TL.tl) := by
    unfold rowS
    rw [TL.join_eq, TL.tl_join]
    rfl
  rw [e]
  have wi : ∀ i : Int, 0 ≤ i → ∀ j ∈ [i], 0 ≤ j := fun i hi j hj => by rw [List.mem_singleton.mp hj]; exact hi
  refine wds_join (by unfold partsS; simp) fun p hp => ?_
  obtain ⟨z, hz, rfl⟩ := List.mem_map.mp hp
  unfold partsS at hz
  rcases List.mem_append.mp hz with hz | hz
  · rcases List.mem_cons.mp hz with rfl | hz
    · exact wds_part ⟨by decide +kernel, by decide +kernel⟩ (wi m (by omega))
    · obtain ⟨d, hd, rfl⟩ := List.mem_map.mp hz
      obtain ⟨k, hk⟩ := List.mem_iff_getElem?.mp hd
      have okd := h.deeds.each k d hk
      exact wds_part ⟨fw_ne _ okd.word, (fw_signs _ okd.word).1⟩ fun i hi => (okd.ahead i hi).1
  · rw [List.mem_singleton.mp hz]
    exact wds_part ⟨by decide +kernel, by decide +kernel⟩ (wi o o0)
def GoodW (z : Str) : Prop := TL.tl z ≠ [] ∧ 32 ∉ TL.tl z
theorem name_good {t : Str} (h : nameS t = true) : GoodW t := by
  unfold nameS at h
  rw [Bool.and_eq_true] at h
  have h1 := (of_decide_eq_true h.1).1
  refine ⟨fun z => ?_, fun z => ?_⟩
  · rw [TL.len_tl, z] at h1
    exact absurd h1 (by decide)
  · have h2 := List.all_eq_true.mp h.2 32 z
    have h3 : (32 : Nat) ∈ letS.cps.toList := of_decide_eq_true h2
    exact absurd h3 (by decide +kernel)
theorem wds_strs {l : List Nat} (h : Wds l) : ∃ ws : List Str, ws ≠ [] ∧ (∀ z ∈ ws, GoodW z) ∧ l = TL.joinL [32] (ws.map TL.tl) := by
  obtain ⟨W, h1, h2, rfl⟩ := h
  have tlS : ∀ p : List Nat, TL.tl (⟨p.toArray⟩ : Str) = p := fun p => List.toList_toArray
  refine ⟨W.map fun p => ⟨p.toArray⟩, by simp [h1], fun z hz => ?_, ?_⟩
  · obtain ⟨p, hp, rfl⟩ := List.mem_map.mp hz
    unfold GoodW
    rw [tlS]
    exact h2 p hp
  · rw [List.map_map]
    have : W.map (TL.tl ∘ fun p => (⟨p.toArray⟩ : Str)) = W := by
      conv => rhs; rw [← List.map_id W]
      exact List.map_congr_left fun p _ => tlS p
    rw [this]
theorem split_words {t : Str} {W : List Str} (hne : W ≠ []) (hW : ∀ z ∈ W, GoodW z) (ht : TL.tl t = TL.joinL [32] (W.map TL.tl)) : Txt.split t " " = W ∧ ("" : Str) ∉ W := by
  have e : t = Txt.join " " W := TL.ext_tl (by
    rw [ht, TL.join_eq, TL.tl_join]
    rfl)
  refine ⟨?_, fun z => (hW _ z).1 (by decide +kernel)⟩
  rw [e]
  exact TL.split_join (y := " ") (s := 32) (S := []) (by decide +kernel) (by decide +kernel) hne fun p hp => (hW p hp).2
theorem sum_joinL : ∀ (W : List (List Nat)), W ≠ [] → (W.map List.length).sum + W.length = (TL.joinL [32] W).length + 1
  | [], h => absurd rfl h
  | [p], _ => by simp [TL.joinL]
  | p :: q :: r, _ => by
    have ih := sum_joinL (q :: r) (by simp)
    show ((p :: q :: r).map List.length).sum + (q :: r).length + 1 = (p ++ ([32] ++ TL.joinL [32] (q :: r))).length + 1
    rw [List.map_cons, List.sum_cons, List.length_append, List.length_append]
    have e1 : ([32] : List Nat).length = 1 := rfl
    rw [e1]
    omega
theorem row_words {r : Rw} (ok : RwOk r) : ∃ ws : List Str, ws ≠ [] ∧ (∀ z ∈ ws, GoodW z) ∧ TL.tl (rowS r.m r.ds r.o) = TL.joinL [32] (ws.map TL.tl) ∧ Txt.join " " ws = rowS r.m r.ds r.o ∧ (ws.map (·.length)).sum + ws.length = (rowS r.m r.ds r.o).length + 1 := by
  obtain ⟨ws, h1, h2, h3⟩ := wds_strs (row_wds ok)
  refine ⟨ws, h1, h2, h3, TL.ext_tl ?_, ?_⟩
  · rw [h3, TL.join_eq, TL.tl_join]
    rfl
  · have := sum_joinL (ws.map TL.tl) (by simp [h1])
    rw [← h3, List.length_map, List.map_map] at this
    rw [TL.len_tl (rowS r.m r.ds r.o), ← this]
    congr 2
theorem rowS_len {r : Rw} (h : RwOk r) : (rowS r.m r.ds r.o).length ≤ 300 := by
  have m1 := h.m1
  have m3 := h.m3
  have o0 := h.o0
  have o1 := h.o1
  have h8 := h.len
  have hb : (Txt.join "; " (partsS r.m r.ds r.o)).length ≤ ((partsS r.m r.ds r.o).map Str.length).sum + (partsS r.m r.ds r.o).length * ("; " : Str).length := join_len "; " (partsS r.m r.ds r.o)
  have h1 : ∀ x ∈ (partsS r.m r.ds r.o).map Str.length, x ≤ 20 := by
    intro x hx
    obtain ⟨y, hy, rfl⟩ := List.mem_map.mp hx
    rcases List.mem_append.mp hy with hy | hy
    · rcases List.mem_cons.mp hy with rfl | hy
      · exact part_len (by decide +kernel) (by show 1 ≤ 2; decide) fun i hi => by rw [List.mem_singleton.mp hi]; omega
      · obtain ⟨d, hd', rfl⟩ := List.mem_map.mp hy
        obtain ⟨kk, hk⟩ := List.mem_iff_getElem?.mp hd'
        have := (List.getElem?_eq_some_iff.mp hk).1
        have := partOk_deed (h.deeds.each kk d hk) (by omega)
        exact part_len this.word this.few this.nums
    · rw [List.mem_singleton.mp hy]
      exact part_len (by decide +kernel) (by show 1 ≤ 2; decide) fun i hi => by rw [List.mem_singleton.mp hi]; omega
  have h2 := sum_le h1
  have h3 : ("; " : Str).length = 2 := by decide +kernel
  have h5 : (partsS r.m r.ds r.o).length = r.ds.length + 2 := by unfold partsS; simp
  rw [List.length_map, h5] at h2
  rw [h3, h5] at hb
  show (Txt.join "; " (partsS r.m r.ds r.o)).length ≤ 300
  omega
theorem said_of {t x : Str} {ws : List Str} {form : Str} (hx : GoodW x) (hW : ∀ z ∈ ws, GoodW z) (ht : TL.tl t = TL.joinL [32] ((x :: ws).map TL.tl)) (hl : t.length ≤ 90000) (hf : (x, form) ∈ formsL) (fit : fitsF form ws = true) : Said t x ws form := by
  obtain ⟨h1, h2⟩ := split_words (t := t) (W := x :: ws) (by simp) (fun z hz => by
    rcases List.mem_cons.mp hz with rfl | hz
    · exact hx
    · exact hW z hz) ht
  exact ⟨hl, h1, h2, hf, fit⟩
theorem forms_good : ∀ p ∈ formsL, GoodW p.1 := by
  unfold GoodW
  decide +kernel
theorem wd_nt : Txt.words ("NAME TEXT" : Str) = (["NAME", "TEXT"] : List Str) := by decide +kernel
theorem wd_n : Txt.words ("NAME" : Str) = (["NAME"] : List Str) := by decide +kernel
theorem wd_0 : Txt.words ("" : Str) = [] := by decide +kernel
theorem ok_name {t : Str} (h : nameS t = true) : okPlace t "NAME" = true := by
  unfold okPlace
  rw [if_pos (.inl rfl)]
  exact h
theorem ok_text (z : Str) : okPlace z "TEXT" = true := by
  unfold okPlace
  rw [if_neg (by decide +kernel), if_neg (by decide +kernel), if_neg (by decide +kernel)]
theorem zip_text : ∀ (ws : List Str), ((ws.zip (List.replicate ws.length ("TEXT" : Str))).map fun e => okPlace e.1 e.2).all id = true
  | [] => rfl
  | z :: ws => by
    rw [List.length_cons, List.replicate_succ, List.zip_cons_cons, List.map_cons, List.all_cons, zip_text ws, ok_text]
    rfl
theorem fits_tell {t : Str} {ws : List Str} (ht : nameS t = true) (hw : ws ≠ []) : fitsF "NAME TEXT" (t :: ws) = true := by
  have hl : 1 ≤ ws.length := by
    cases ws with
    | nil => exact absurd rfl hw
    | cons _ _ => exact Nat.succ_pos _
  have e : extL "NAME TEXT" (t :: ws) = ("NAME" : Str) :: List.replicate ws.length ("TEXT" : Str) := by
    unfold extL
    rw [wd_nt]
    show (if ("TEXT" : Str) ∈ severalL then (["NAME", "TEXT"] : List Str) ++ List.replicate ((t :: ws).length - 2) ("TEXT" : Str) else ["NAME", "TEXT"]) = _
    rw [if_pos (by decide +kernel)]
    obtain ⟨n, hn⟩ : ∃ n, ws.length = n + 1 := ⟨ws.length - 1, by omega⟩
    rw [List.length_cons, hn, show n + 1 + 1 - 2 = n by omega, List.replicate_succ]
    rfl
  unfold fitsF
  rw [e, List.length_cons, List.length_cons, List.length_replicate, decide_eq_true rfl, Bool.true_and, List.zip_cons_cons, List.map_cons, List.all_cons, zip_text, ok_name ht]
  rfl
theorem fits_name {t : Str} (ht : nameS t = true) : fitsF "NAME" [t] = true := by
  have e : extL "NAME" [t] = (["NAME"] : List Str) := by
    unfold extL
    rw [wd_n]
    show (if ("NAME" : Str) ∈ severalL then _ else _) = _
    rw [if_neg (by decide +kernel)]
  unfold fitsF
  rw [e]
  show (decide (1 = 1) && ([okPlace t "NAME"].all id)) = true
  rw [ok_name ht]
  rfl
theorem fits_0 : fitsF "" [] = true := by
  have e : extL "" [] = [] := by
    unfold extL
    rw [wd_0]
    rfl
  unfold fitsF
  rw [e]
  rfl
theorem tl_sp : TL.tl (" " : Str) = [32] := by decide +kernel
/-- "tell NAME TEXT" as the law writes it -/
theorem said_tell {t : Str} {r : Rw} (ht : nameS t = true) (ok : RwOk r) : ∃ ws, Said ("tell " ++ t ++ " " ++ rowS r.m r.ds r.o) "tell" (t :: ws) "NAME TEXT" ∧ Txt.join " " ws = rowS r.m r.ds r.o ∧ (ws.map (·.length)).sum + ws.length ≤ 80000 := by
  obtain ⟨ws, h1, h2, h3, h4, h5⟩ := row_words ok
  have hl := rowS_len ok
  have hn := nameS_len ht
  refine ⟨ws, said_of (forms_good ("tell", "NAME TEXT") (by decide +kernel)) (fun z hz => ?_) ?_ ?_ (by decide +kernel) (fits_tell ht h1), h4, by omega⟩
  · rcases List.mem_cons.mp hz with rfl | hz
    · exact name_good ht
    · exact h2 z hz
  · obtain ⟨w0, wr, rfl⟩ : ∃ w0 wr, ws = w0 :: wr := by
      cases ws with
      | nil => exact absurd rfl h1
      | cons x l => exact ⟨x, l, rfl⟩
    rw [TL.tl_append, TL.tl_append, TL.tl_append, h3, tl_sp]
    have e : TL.tl ("tell " : Str) = TL.tl ("tell" : Str) ++ [32] := by decide +kernel
    rw [e]
    show TL.tl ("tell" : Str) ++ [32] ++ TL.tl t ++ [32] ++ _ = TL.tl ("tell" : Str) ++ ([32] ++ (TL.tl t ++ ([32] ++ TL.joinL [32] ((w0 :: wr).map TL.tl))))
    simp only [List.append_assoc]
  · have e : ∀ x y : Str, (x ++ y).length = x.length + y.length := fun x y => by
      rw [TL.len_tl, TL.len_tl x, TL.len_tl y, TL.tl_append, List.length_append]
    rw [e, e, e]
    have e5 : ("tell " : Str).length = 5 := by decide +kernel
    have e1 : (" " : Str).length = 1 := by decide +kernel
    rw [e5, e1]
    omega
/-- one word and a name -/
theorem said_name {x y t : Str} (hf : (x, ("NAME" : Str)) ∈ formsL) (hy : TL.tl y = TL.tl x ++ [32]) (hyl : y.length ≤ 100) (ht : nameS t = true) : Said (y ++ t) x [t] "NAME" := by
  have hn := nameS_len ht
  refine said_of (forms_good (_, _) hf) (fun z hz => by rw [List.mem_singleton.mp hz]; exact name_good ht) ?_ ?_ hf (fits_name ht)
  · rw [TL.tl_append, hy]
    show _ = TL.tl x ++ ([32] ++ TL.tl t)
    rw [List.append_assoc]
  · rw [TL.len_tl, TL.tl_append, List.length_append, ← TL.len_tl, ← TL.len_tl]
    omega
theorem said_0 {x : Str} (hf : (x, ("" : Str)) ∈ formsL) (hx : x.length ≤ 100) : Said x x [] "" := said_of (forms_good (_, _) hf) (fun _ z => nomatch z) rfl (by omega) hf fits_0
abbrev Tau := Str → Option Nat
def setT (τ : Tau) (t : Str) (o : Option Nat) : Tau := fun x => if x = t then o else τ x
theorem setT_set (τ : Tau) (t : Str) (a b : Option Nat) : setT (setT τ t a) t b = setT τ t b := by
  funext x
  unfold setT
  by_cases h : x = t
  · rw [if_pos h, if_pos h]
  · rw [if_neg h, if_neg h, if_neg h]
theorem setT_self (τ : Tau) (t : Str) : setT τ t (τ t) = τ := by
  funext x
  unfold setT
  by_cases h : x = t
  · rw [if_pos h, h]
  · rw [if_neg h]
theorem setT_at (τ : Tau) (t : Str) (o : Option Nat) : setT τ t o t = o := if_pos rfl
structure KsOk (τ : Tau) (ks : List Str) : Prop where
  nd : ks.Nodup
  mem : ∀ x, x ∈ ks ↔ (τ x).isSome = true
theorem KsOk.drop {τ : Tau} {ks : List Str} (h : KsOk τ ks) (t : Str) : KsOk (setT τ t none) (keysDrop ks t) := by
  refine ⟨kdrop_nd h.nd t, fun x => ?_⟩
  rw [kdrop_mem, h.mem]
  unfold setT
  by_cases e : x = t
  · rw [if_pos e]
    simp [e]
  · rw [if_neg e]
    simp [e]
theorem KsOk.put {τ : Tau} {ks : List Str} (h : KsOk τ ks) (t : Str) (n : Nat) : KsOk (setT τ t (some n)) (keysPut ks t) := by
  refine ⟨kput_nd h.nd t, fun x => ?_⟩
  rw [kput_mem, h.mem]
  unfold setT
  by_cases e : x = t
  · rw [if_pos e]
    simp [e]
  · rw [if_neg e]
    simp [e]
theorem KsOk.perm {τ : Tau} {ks kb : List Str} (h : KsOk τ ks) (k : KsOk τ kb) : ks.Perm kb := (List.perm_ext_iff_of_nodup h.nd k.nd).mpr fun x => (h.mem x).trans (k.mem x).symm
def gE (g : Nat → V) (τ : Tau) : Str → V := fun t => g ((τ t).getD 0)
theorem kd_drop (g : Nat → V) (τ : Tau) (ks : List Str) (t : Str) : dropK (kvE (gE g τ) ks) (Sum.inr t) = kvE (gE g (setT τ t none)) (keysDrop ks t) := by
  rw [kvE_drop]
  refine kvE_congr fun x hx => ?_
  have := (kdrop_mem.mp hx).1
  unfold gE setT
  rw [if_neg this]
theorem kd_put (g : Nat → V) (τ : Tau) (ks : List Str) (t : Str) (n : Nat) : putK (kvE (gE g τ) ks) (Sum.inr t) (g n) = kvE (gE g (setT τ t (some n))) (keysPut ks t) := by
  rw [kvE_put]
  refine kvE_congr fun x _ => ?_
  unfold gE setT
  by_cases e : x = t
  · rw [if_pos e, if_pos e]
    rfl
  · rw [if_neg e, if_neg e]
theorem kd_val {g : Nat → V} {τ : Tau} {ks : List Str} (h : KsOk τ ks) (t : Str) : valV (kvE (gE g τ) ks) (Sum.inr t) = (τ t).map g := by
  rw [kvE_val]
  cases e : τ t with
  | none =>
    have : ¬ t ∈ ks := fun z => by
      have := (h.mem t).mp z
      rw [e] at this
      cases this
    rw [if_neg this]
    rfl
  | some n =>
    have : t ∈ ks := (h.mem t).mpr (by rw [e]; rfl)
    rw [if_pos this]
    unfold gE
    rw [e]
    rfl
abbrev Ev := Str × Option Nat
def oI : Option Nat → V
  | some n => .int (n : Int)
  | none => .non
def Hist : List Ev → Tau → Prop
  | [], _ => True
  | e :: r, τ => (e.2 = none → (τ e.1).isSome = true) ∧ Hist r (setT τ e.1 e.2)
def HistOk (past : List Ev) (τ : Tau) : Prop := Hist past.reverse τ
theorem hist_snoc (past : List Ev) (e : Ev) (τ : Tau) : HistOk (past ++ [e]) τ ↔ (e.2 = none → (τ e.1).isSome = true) ∧ HistOk past (setT τ e.1 e.2) := by
  unfold HistOk
  rw [List.reverse_append]
  exact Iff.rfl
/-- the names and numbers that may be kept -/
def Rng (nms : List Str) (m : Nat) (τ : Tau) : Prop := ∀ t n, τ t = some n → t ∈ nms ∧ n < m
def PaR (nms : List Str) (m : Nat) (past : List Ev) : Prop := ∀ e ∈ past, e.1 ∈ nms ∧ ∀ n, e.2 = some n → n < m
theorem Rng.set {nms : List Str} {m : Nat} {τ : Tau} (h : Rng nms m τ) {t : Str} {o : Option Nat} (ht : t ∈ nms) (ho : ∀ n, o = some n → n < m) : Rng nms m (setT τ t o) := fun x n e => by
  unfold setT at e
  by_cases z : x = t
  · rw [if_pos z] at e
    exact ⟨z ▸ ht, ho n e⟩
  · rw [if_neg z] at e
    exact h x n e
theorem Rng.few {nms : List Str} {m : Nat} {τ : Tau} (h : Rng nms m τ) {ks : List Str} (k : KsOk τ ks) : ks.length ≤ nms.length := subs_len k.nd fun t ht => by
  have := (k.mem t).mp ht
  cases e : τ t with
  | none => rw [e] at this; cases this
  | some n => exact (h t n e).1
def exF {β : Type} (f : Nat → β) (c : Nat) (x : β) : Nat → β := fun n => if n = c then x else f n
theorem exF_at {β : Type} (f : Nat → β) (c : Nat) (x : β) : exF f c x c = x := if_pos rfl
theorem exF_lt {β : Type} (f : Nat → β) {c n : Nat} (x : β) (h : n < c) : exF f c x n = f n := if_neg (by omega)
abbrev gR (f : Nat → Addr) (n : Nat) : V := .ref (f n)
def dnB (f : Nat → Addr) (e : Ev) : Dn1 := (e.1, e.2.map f)
theorem gE_ex {f : Nat → Addr} {c : Nat} {x : Addr} {nms : List Str} {τ : Tau} {ks : List Str} (h : Rng nms c τ) (k : KsOk τ ks) : kvE (gE (gR (exF f c x)) τ) ks = kvE (gE (gR f) τ) ks := kvE_congr fun t ht => by
  have := (k.mem t).mp ht
  unfold gE
  cases e : τ t with
  | none => rw [e] at this; cases this
  | some n =>
    show V.ref (exF f c x n) = V.ref (f n)
    rw [exF_lt f x (h t n e).2]
theorem dn_ex {f : Nat → Addr} {c : Nat} {x : Addr} {nms : List Str} {past : List Ev} (h : PaR nms c past) : past.map (dnB (exF f c x)) = past.map (dnB f) := List.map_congr_left fun e he => by
  unfold dnB
  cases e2 : e.2 with
  | none => rfl
  | some n =>
    show (e.1, some (exF f c x n)) = (e.1, some (f n))
    rw [exF_lt f x ((h e he).2 n e2)]
theorem Rng.mono {nms : List Str} {m k : Nat} {τ : Tau} (h : Rng nms m τ) (hk : m ≤ k) : Rng nms k τ := fun t n e => ⟨(h t n e).1, Nat.lt_of_lt_of_le (h t n e).2 hk⟩
theorem PaR.mono {nms : List Str} {m k : Nat} {past : List Ev} (h : PaR nms m past) (hk : m ≤ k) : PaR nms k past := fun e he => ⟨(h e he).1, fun n z => Nat.lt_of_lt_of_le ((h e he).2 n z) hk⟩
theorem PaR.snoc {nms : List Str} {m : Nat} {past : List Ev} {e : Ev} (h : PaR nms m past) (ht : e.1 ∈ nms) (ho : ∀ n, e.2 = some n → n < m) : PaR nms m (past ++ [e]) := fun x hx => by
  rcases List.mem_append.mp hx with hx | hx
  · exact h x hx
  · rw [List.mem_singleton.mp hx]
    exact ⟨ht, ho⟩
structure BD (P : Program) (w : World) (C CD : Addr) (H : Hp) (d p Kd Dn Lk : Addr) (nms : List Str) (c : Nat) (ba : Nat → Addr) (rf : Nat → Rw) (τ : Tau) (kb : List Str) (past : List Ev) : Prop where
  dk : ∃ dx, H d = some (.ins CD dx (dF p))
  bk : BkAt C H p Kd Dn Lk (kvE (gE (gR ba) τ) kb) (past.map (dnB ba))
  lk : LkAt P w H Lk 64
  kb : KsOk τ kb
  rg : Rng nms c τ
  pr : PaR nms c past
  rw : ∀ n, n < c → RwAt H (ba n) (rf n) ∧ RwOk (rf n)
section dst
variable {C CD : Addr} {H H' : Hp} {d p Kd Dn Lk : Addr} {nms : List Str} {c : Nat} {ba : Nat → Addr} {rf : Nat → Rw} {τ : Tau} {kb : List Str} {past : List Ev}
theorem BD.stay (h : BD P w C CD H d p Kd Dn Lk nms c ba rf τ kb past) (k : ∀ x o, (x = d ∨ x = p ∨ x = Kd ∨ x = Dn ∨ x = Lk) → H x = some o → H' x = some o) (t : TupsStay H H') : BD P w C CD H' d p Kd Dn Lk nms c ba rf τ kb past := by
  obtain ⟨dx, hd⟩ := h.dk
  exact ⟨⟨dx, k _ _ (.inl rfl) hd⟩, h.bk.stay (fun x o z e => k x o (z.elim (fun z => .inr (.inl z)) fun z => z.elim (fun z => .inr (.inr (.inl z))) fun z => .inr (.inr (.inr (.inl z)))) e) t, h.lk.stay (fun o e => k _ _ (.inr (.inr (.inr (.inr rfl)))) e) t, h.kb, h.rg, h.pr, fun n hn => ⟨t.row (h.rw n hn).1, (h.rw n hn).2⟩⟩
theorem BD.same (h : BD P w C CD H d p Kd Dn Lk nms c ba rf τ kb past) (s : Same H H') : BD P w C CD H' d p Kd Dn Lk nms c ba rf τ kb past := h.stay (fun x o _ e => s x o e) (Same.tups s)
theorem BD.kpb (h : BD P w C CD H d p Kd Dn Lk nms c ba rf τ kb past) (kp : KpB p Kd Dn H H') : TupsStay H H' ∧ (∃ dx, H' d = some (.ins CD dx (dF p))) ∧ LkAt P w H' Lk 64 := by
  obtain ⟨dx, hd⟩ := h.dk
  obtain ⟨ts, eD, _⟩ := id h.bk.done
  obtain ⟨lx, ndL, _, _⟩ := id h.lk
  have tt : TupsStay H H' := fun x xs e => kp x _ (ne_of e h.bk.kept (fun z => nomatch z)) (ne_of e eD (fun z => nomatch z)) e
  exact ⟨tt, ⟨dx, kp _ _ (ne_of hd h.bk.kept (fun z => nomatch z)) (ne_of hd eD (fun z => nomatch z)) hd⟩, h.lk.stay (fun o e => kp _ _ (ne_of ndL.ob h.bk.kept (fun z => nomatch z)) (ne_of ndL.ob eD (fun z => nomatch z)) e) tt⟩
theorem BD.val (h : BD P w C CD H d p Kd Dn Lk nms c ba rf τ kb past) (t : Str) : valV (kvE (gE (gR ba) τ) kb) (Sum.inr t) = ((τ t).map ba).map V.ref := by
  rw [kd_val h.kb, Option.map_map]
  rfl
theorem BD.tell {t : Str} {Z : Addr} {r : Rw} (h : BD P w C CD H d p Kd Dn Lk nms c ba rf τ kb past) (ht : t ∈ nms) (hZ : RwAt H' Z r) (ok : RwOk r) (bk : BkAt C H' p Kd Dn Lk (putK (kvE (gE (gR ba) τ) kb) (Sum.inr t) (.ref Z)) (past.map (dnB ba) ++ [(t, (τ t).map ba)])) (kp : KpB p Kd Dn H H') :
    BD P w C CD H' d p Kd Dn Lk nms (c + 1) (exF ba c Z) (exF rf c r) (setT τ t (some c)) (keysPut kb t) (past ++ [(t, τ t)]) := by
  obtain ⟨tt, hd, lk⟩ := h.kpb kp
  refine ⟨hd, ?_, lk, h.kb.put t c, (h.rg.mono (Nat.le_succ c)).set ht (fun n e => by rw [← Option.some.inj e]; exact Nat.lt_succ_self c), (h.pr.mono (Nat.le_succ c)).snoc ht (fun n e => Nat.lt_succ_of_lt (h.rg t n e).2), fun n hn => ?_⟩
  · have e1 : putK (kvE (gE (gR ba) τ) kb) (Sum.inr t) (.ref Z) = kvE (gE (gR (exF ba c Z)) (setT τ t (some c))) (keysPut kb t) := by
      have := kd_put (gR (exF ba c Z)) τ kb t c
      rw [gE_ex h.rg h.kb] at this
      rw [← this]
      show _ = putK _ _ (V.ref (exF ba c Z c))
      rw [exF_at]
    have e2 : past.map (dnB ba) ++ [(t, (τ t).map ba)] = (past ++ [(t, τ t)]).map (dnB (exF ba c Z)) := by
      rw [List.map_append, dn_ex h.pr]
      congr 1
      show [(t, (τ t).map ba)] = [(t, (τ t).map (exF ba c Z))]
      cases e : τ t with
      | none => rfl
      | some n =>
        show [(t, some (ba n))] = [(t, some (exF ba c Z n))]
        rw [exF_lt ba Z (h.rg t n e).2]
    rw [← e1, ← e2]
    exact bk
  · by_cases e : n = c
    · subst e
      rw [exF_at, exF_at]
      exact ⟨hZ, ok⟩
    · rw [exF_lt ba Z (by omega), exF_lt rf r (by omega)]
      exact ⟨tt.row (h.rw n (by omega)).1, (h.rw n (by omega)).2⟩
theorem BD.forget {t : Str} {n : Nat} (h : BD P w C CD H d p Kd Dn Lk nms c ba rf τ kb past) (ht : t ∈ nms) (e : τ t = some n) (bk : BkAt C H' p Kd Dn Lk (dropK (kvE (gE (gR ba) τ) kb) (Sum.inr t)) (past.map (dnB ba) ++ [(t, some (ba n))])) (kp : KpB p Kd Dn H H') :
    BD P w C CD H' d p Kd Dn Lk nms c ba rf (setT τ t none) (keysDrop kb t) (past ++ [(t, some n)]) := by
  obtain ⟨tt, hd, lk⟩ := h.kpb kp
  refine ⟨hd, ?_, lk, h.kb.drop t, h.rg.set ht (fun n e => by cases e), h.pr.snoc ht (fun k z => by rw [← Option.some.inj z]; exact (h.rg t n e).2), fun n hn => ⟨tt.row (h.rw n hn).1, (h.rw n hn).2⟩⟩
  rw [kd_drop] at bk
  rw [List.map_append]
  exact bk
theorem BD.back {e : Ev} (h : BD P w C CD H d p Kd Dn Lk nms c ba rf τ kb (past ++ [e])) (bk : BkAt C H' p Kd Dn Lk (undo (kvE (gE (gR ba) τ) kb) (dnB ba e)) (past.map (dnB ba))) (kp : KpB p Kd Dn H H') :
    ∃ kb', BD P w C CD H' d p Kd Dn Lk nms c ba rf (setT τ e.1 e.2) kb' past := by
  obtain ⟨tt, hd, lk⟩ := h.kpb kp
  obtain ⟨he, hn⟩ := h.pr e (by simp)
  have rgo := h.rg.set he hn
  have pro : PaR nms c past := fun x hx => h.pr x (List.mem_append_left _ hx)
  have rwo : ∀ n, n < c → RwAt H' (ba n) (rf n) ∧ RwOk (rf n) := fun n hn => ⟨tt.row (h.rw n hn).1, (h.rw n hn).2⟩
  obtain ⟨t, o⟩ := e
  cases o with
  | none =>
    refine ⟨keysDrop kb t, hd, ?_, lk, h.kb.drop t, rgo, pro, rwo⟩
    have : undo (kvE (gE (gR ba) τ) kb) (dnB ba (t, none)) = kvE (gE (gR ba) (setT τ t none)) (keysDrop kb t) := kd_drop _ _ _ _
    rw [← this]
    exact bk
  | some n =>
    refine ⟨keysPut kb t, hd, ?_, lk, h.kb.put t n, rgo, pro, rwo⟩
    have : undo (kvE (gE (gR ba) τ) kb) (dnB ba (t, some n)) = kvE (gE (gR ba) (setT τ t (some n))) (keysPut kb t) := kd_put (gR ba) τ kb t n
    rw [← this]
    exact bk
end dst
def AlkB (r s : Rw) : Prop := r.m = s.m ∧ ∀ t, ¬ PrtS r.m.toNat r.ds r.o s.ds s.o t
theorem look_alk {r s : Rw} {a b : List MRow} (hr : RwOk r) (hs : RwOk s) (h1 : LmOk r.m.toNat r.ds r.o a) (h2 : LmOk s.m.toNat s.ds s.o b) : lookK r.m.toNat a = lookK s.m.toNat b ↔ AlkB r s := by
  have m1 : (1 : Int) ≤ r.m := hr.m1
  have m2 : (1 : Int) ≤ s.m := hs.m1
  constructor
  · intro e
    obtain ⟨e1, e2⟩ := lookK_inj e
    have em : r.m = s.m := by omega
    rw [← em] at h2
    exact ⟨em, (lm_eq h1 h2).mp e2⟩
  · rintro ⟨em, h⟩
    rw [← em] at h2
    rw [← em, (lm_eq h1 h2).mpr h]
def simD (m n : Nat) : List Deed := (List.range n).map fun (k : Nat) => ("not", [if k = 0 then 0 else (m : Int) + (k : Int) - 1])
def simO (m n : Nat) : Int := if n = 0 then 0 else (m : Int) + (n : Int) - 1
abbrev simR (m n : Nat) : Rw := ⟨(m : Int), simD m n, simO m n⟩
theorem sim_stay : ∀ m ∈ [1, 2], ∀ n ∈ [0, 1, 2, 3], ∀ bs ∈ allB m, nc (simD m n) ((simD m n).map fcD) bs = (simD m n).map fcD := by decide +kernel
theorem sim_bit : ∀ m ∈ [1, 2], ∀ n ∈ [0, 1, 2, 3], ∀ k ∈ [0, 1, 2, 3], (n % 2 = k % 2 ↔ ∀ bs ∈ allB m, ob (simD m n) (simO m n) ((simD m n).map fcD) bs = ob (simD m k) (simO m k) ((simD m k).map fcD) bs) := by decide +kernel
theorem in12 {m : Nat} (h : m = 1 ∨ m = 2) : m ∈ [1, 2] := by simpa using h
theorem in0123 {n : Nat} (h : n < 4) : n ∈ [0, 1, 2, 3] := by
  have : n = 0 ∨ n = 1 ∨ n = 2 ∨ n = 3 := by omega
  simpa using this
theorem sim_reach {m n k : Nat} (hm : m = 1 ∨ m = 2) (hn : n < 4) (hk : k < 4) : ∀ {t : Nat} {q : PC}, RtS m (simD m n) (simD m k) t q → q = ((simD m n).map fcD, (simD m k).map fcD)
  | 0, q, h => h
  | t + 1, q, ⟨q0, bs, h, hb, e⟩ => by
    have ih := sim_reach hm hn hk h
    rw [e, ih]
    show (nc _ _ bs, nc _ _ bs) = _
    rw [sim_stay m (in12 hm) n (in0123 hn) bs hb, sim_stay m (in12 hm) k (in0123 hk) bs hb]
theorem sim_alk {m n m2 k : Nat} (hm : m = 1 ∨ m = 2) (hn : n < 4) (hk : k < 4) : AlkB (simR m n) (simR m2 k) ↔ m = m2 ∧ n % 2 = k % 2 := by
  constructor
  · rintro ⟨e, h⟩
    have em : m = m2 := by
      have e' : (m : Int) = (m2 : Int) := e
      omega
    subst em
    refine ⟨rfl, (sim_bit m (in12 hm) n (in0123 hn) k (in0123 hk)).mpr fun bs hb => ?_⟩
    by_cases z : ob (simD m n) (simO m n) ((simD m n).map fcD) bs = ob (simD m k) (simO m k) ((simD m k).map fcD) bs
    · exact z
    · exact absurd (show PrtS (m : Int).toNat (simD m n) (simO m n) (simD m k) (simO m k) 0 from ⟨((simD m n).map fcD, (simD m k).map fcD), bs, rfl, by rw [Int.toNat_natCast]; exact hb, z⟩) (h 0)
  · rintro ⟨rfl, e⟩
    refine ⟨rfl, fun t => ?_⟩
    show ¬ PrtS (m : Int).toNat (simD m n) (simO m n) (simD m k) (simO m k) t
    rw [Int.toNat_natCast]
    rintro ⟨q, bs, hq, hb, hne⟩
    rw [sim_reach hm hn hk hq] at hne
    exact hne ((sim_bit m (in12 hm) n (in0123 hn) k (in0123 hk)).mp e bs hb)
theorem sim_ok {m n : Nat} (hm : m = 1 ∨ m = 2) (hn : n < 4) : RwOk (simR m n) := by
  have key : DsOk (m : Int) (simD m n) := by
    constructor
    intro k d hk
    unfold simD at hk
    rw [List.getElem?_map] at hk
    obtain ⟨j, hj, rfl⟩ := Option.map_eq_some_iff.mp hk
    have hkn := (List.getElem?_eq_some_iff.mp hj).1
    rw [List.length_range] at hkn
    rw [List.getElem?_range hkn] at hj
    obtain rfl := Option.some.inj hj
    refine ⟨by show (("not" : Str), (1 : Int)) ∈ fwL; decide +kernel, fun i hi => ?_⟩
    rw [List.mem_singleton.mp hi]
    split <;> omega
  have l : (simD m n).length = n := by unfold simD; rw [List.length_map, List.length_range]
  refine ⟨by show (1 : Int) ≤ (m : Int); omega, by show (m : Int) ≤ 3; omega, by rw [l]; omega, key, ?_, ?_⟩
  · show 0 ≤ simO m n
    unfold simO
    split <;> omega
  · show simO m n < (m : Int) + ((simD m n).length : Int)
    rw [l]
    unfold simO
    split <;> omega
/-- what a law keeps by a name: the row, and its kind -/
structure SimT (H : Hp) (T : Addr) (m n : Nat) : Prop where
  hm : m = 1 ∨ m = 2
  hn : n < 4
  at_ : ∃ R K2, H T = some (.tup [.ref R, .ref K2]) ∧ RwAt H R (simR m n) ∧ H K2 = some (.tup [.int (m : Int), .int ((n % 2 : Nat) : Int)])
theorem SimT.tups {H H' : Hp} {T : Addr} {m n : Nat} (h : SimT H T m n) (t : TupsStay H H') : SimT H' T m n := by
  obtain ⟨R, K2, h1, h2, h3⟩ := h.at_
  exact ⟨h.hm, h.hn, R, K2, t _ _ h1, t.row h2, t _ _ h3⟩
def spSi : Sp := fun vs H Q _ => ∃ a c : Addr, vs = [.ref a] ∧ WL H a c ∧ ∀ (H' : Hp) (T : Addr) (m n : Nat), SimT H' T m n → WL H' a c → Kp a c H H' → Q (.ref T) H'
set_option maxHeartbeats 1000000 in
theorem ok_si {f fD : Addr} {fd fdD : FuncData} {k : Nat} (F : Fun K "_law_simple" "_law_simple" s_law_simple f fd)
    (GD : FnOk P w K mg base CX0 (k + 1) fD fdD ["well", "many"] spDraw) (kD : PySem.W.keepIn K (.ref fD) = true) (bD : Binds K fdD ["well", "many"] []) (gD : mg "_law_draw" = some (.ref fD))
    (mr : mg "range" = none) (mI : mg "int" = none) (mt : mg "tuple" = none) : FnOk P w K mg base CX0 (k + 2) f fd ["well"] spSi := by
  refine F.ok sc_law_simple (fun vs H Q E h => ?_) (fun cdv A outer s H vs Q E hr h => ?_)
  · obtain ⟨a, c, rfl, _⟩ := h
    rfl
  · obtain ⟨a, c, rfl, hw, q⟩ := h
    refine ⟨_, pss_cons (ps_set (i := 1) sc_law_simple.nd rfl (.inl rfl) (pe_call GD hr (by rfl) gD kD bD .nil pass0 (pa_cons (pv 0) (pa_cons pe_int pa_nil))))
      (pss_cons (ps_set (i := 2) sc_law_simple.nd rfl (.inr rfl) (pe_op op_add pe_int (pe_call GD hr (by rfl) gD kD bD .nil pass0 (pa_cons (pv 0) (pa_cons pe_int pa_nil)))))
      (pss_cons (ps_setLc (i := 3) (own := [("k", 5)]) (g := gName 5) (by rfl) sc_law_simple.nd rfl rfl (sw_true rfl rfl rfl (by decide +kernel)) (pi_range1 (by rfl) mr (pa_cons (pv 1) pa_nil)) (blkOk_by (own := [("k", 5)]) (N := N_law_simple) (sc := defScope s_law_simple) (by decide +kernel)) (fun _ _ _ _ _ => pg_name (i := 5) sc_law_simple.nd rfl (Or.inl rfl)) (fun _ _ _ _ _ => pts_nil)
        (fun _ _ _ _ _ => pe_tup (pa_cons pe_str (pa_cons (pe_ix (r := rIxL K) ix_list (pe_lst (pa_cons pe_int (pa_cons (pe_op op_sub (pe_op op_add (pv 2) (pv 5)) pe_int) pa_nil))) (pe_callTy (T := "int") call_int1 (by rfl) mI (by decide +kernel) (pa_cons (pe_cmpR op_gt (pv 5) pe_int (nomark _)) pa_nil)) (fun _ _ => rfl)) pa_nil))))
      (pss_cons (ps_set (i := 4) sc_law_simple.nd rfl (.inl rfl) (pe_ix ix_list (pe_lst (pa_cons pe_int (pa_cons (pe_op op_sub (pe_op op_add (pv 2) (pv 1)) pe_int) pa_nil))) (pe_callTy call_int1 (by rfl) mI (by decide +kernel) (pa_cons (pe_cmpR op_gt (pv 1) pe_int (nomark _)) pa_nil)) (fun _ _ => rfl)))
      (pss_one (ps_ret (pe_tup (pa_cons (pe_tup (pa_cons (pv 2) (pa_cons (pe_callTy call_tuple_of (by rfl) mt (by decide +kernel) (pa_cons (pv 3) pa_nil)) (pa_cons (pv 4) pa_nil)))) (pa_cons (pe_tup (pa_cons (pv 2) (pa_cons (pe_op op_mod (pv 1) pe_int) pa_nil))) pa_nil)))))))), ?_⟩
    refine ⟨.ref a, rfl, a, c, 4, rfl, by decide, by decide, hw, fun H1 z z0 z1 w1 k1 => ?_⟩
    refine ⟨.ref a, rfl, a, c, 2, rfl, by decide, by decide, w1, fun H2 z2 z20 z21 w2 k2 => ⟨1, z2, rfl, rfl, ?_⟩⟩
    obtain ⟨n, rfl⟩ : ∃ n : Nat, z = (n : Int) := ⟨z.toNat, by omega⟩
    obtain ⟨m, hm⟩ : ∃ m : Nat, 1 + z2 = (m : Int) := ⟨(1 + z2).toNat, by omega⟩
    change gName 2 (V.int (1 + z2)) _ _ _
    rw [hm]
    have hm2 : m = 1 ∨ m = 2 := by omega
    have hn4 : n < 4 := by omega
    refine ⟨.int (n : Int), rfl, (n : Int), rfl, by omega, by omega, fun C hC => ?_⟩
    have pick : ∀ j : Nat, ((decide ((j : Int) > 0)) = true ∧ 0 < j) ∨ ((decide ((j : Int) > 0)) = false ∧ j = 0) := fun j => by
      by_cases e : (j : Int) > 0
      · exact .inl ⟨decide_eq_true e, by omega⟩
      · exact .inr ⟨decide_eq_false e, by omega⟩
    refine lc_range (lo := 0) (n := n) (fun i H4 => ∃ as, H4 C = some (.lst (as.map V.ref)) ∧ DsAt H4 as ((simD m n).take i) ∧ Same H2 H4) ⟨[], upd_same, by rw [List.take_zero]; exact .nil, same_new hC⟩ (fun i H4 hi h4 => ?_) (fun H5 h5 => ?_)
    · obtain ⟨as, eC, has, s4⟩ := h4
      have la := awLen has
      have lD : (simD m n).length = n := by unfold simD; rw [List.length_map, List.length_range]
      rw [List.length_take, lD] at la
      have hd : (simD m n)[i]? = some (("not" : Str), [if i = 0 then 0 else (m : Int) + (i : Int) - 1]) := by
        unfold simD
        rw [List.getElem?_map, List.getElem?_range (by omega)]
        rfl
      refine ⟨rfl, .int (m : Int), rfl, .int (0 + (i : Int)), rfl, (m : Int), 0 + (i : Int), rfl, rfl, (m : Int) + (0 + (i : Int)), 1, rfl, rfl, (by show 2 ≤ sizeLine; decide), fun X hX => ?_⟩
      have sX := same_new (o := .lst [.int 0, .int ((m : Int) + (0 + (i : Int)) - 1)]) hX
      have eX : upd H4 X (.lst [.int 0, .int ((m : Int) + (0 + (i : Int)) - 1)]) X = some (.lst [.int 0, .int ((m : Int) + (0 + (i : Int)) - 1)]) := upd_same
      generalize upd H4 X (.lst [.int 0, .int ((m : Int) + (0 + (i : Int)) - 1)]) = H5 at sX eX
      refine ⟨.int (0 + (i : Int)), rfl, 0 + (i : Int), 0, rfl, rfl, .inr ⟨_, rfl, ?_⟩⟩
      have fin : ∀ x : Int, x = (if i = 0 then 0 else (m : Int) + (i : Int) - 1) → 2 ≤ sizeLine ∧ ∀ U, H5 U = none → ∃ acc, upd H5 U (.tup [.str "not", .int x]) C = some (.lst acc) ∧ acc.length < sizeLine ∧ ∃ as, upd (upd H5 U (.tup [.str "not", .int x])) C (.lst (acc ++ [V.ref U])) C = some (.lst (as.map V.ref)) ∧ DsAt (upd (upd H5 U (.tup [.str "not", .int x])) C (.lst (acc ++ [V.ref U]))) as ((simD m n).take (i + 1)) ∧ Same H2 (upd (upd H5 U (.tup [.str "not", .int x])) C (.lst (acc ++ [V.ref U]))) := fun x hx => ⟨by decide, fun U hU => by
        have sU := same_new (o := .tup [.str "not", .int x]) hU
        have eU : upd H5 U (.tup [.str "not", .int x]) U = some (.tup [.str "not", .int x]) := upd_same
        generalize upd H5 U (.tup [.str "not", .int x]) = H6 at sU eU
        have s6 := s4.trans (sX.trans sU)
        have eC6 := sU _ _ (sX _ _ eC)
        refine ⟨_, eC6, by rw [List.length_map]; exact small1000 (by omega), as ++ [U], by rw [upd_same, List.map_append]; rfl, ?_, fun b o e => by rw [upd_ne (ne_of_none e hC)]; exact s6 _ _ e⟩
        rw [List.take_add_one, hd]
        have tt : TupsStay H6 (upd H6 C (.lst (as.map V.ref ++ [.ref U]))) := tups_put eC6
        refine awSnoc (F := fun (r : Addr) (d : Deed) => upd H6 C (.lst (as.map V.ref ++ [.ref U])) r = some (.tup (dV d))) (y := ("not", [if i = 0 then 0 else (m : Int) + (i : Int) - 1])) ?_ (awMap (fun r _ e => tt _ _ (sU _ _ (sX _ _ e))) has)
        rw [← hx]
        exact tt _ _ eU⟩
      rw [Int.zero_add] at eX ⊢
      rcases pick i with ⟨e, hi0⟩ | ⟨e, hi0⟩
      · rw [e]
        exact ⟨X, _, 1, .int ((m : Int) + (i : Int) - 1), rfl, rfl, .inl (.inl eX), atI_nat (j := 1) rfl, fin _ (by rw [if_neg (by omega)])⟩
      · rw [e]
        exact ⟨X, _, 0, .int 0, rfl, rfl, .inl (.inl eX), atI_nat (j := 0) rfl, fin _ (by rw [if_pos hi0])⟩
    obtain ⟨as, eC, has, s5⟩ := h5
    have lD : (simD m n).length = n := by unfold simD; rw [List.length_map, List.length_range]
    rw [List.take_of_length_le (by omega)] at has
    refine ⟨.int (m : Int), rfl, .int (n : Int), rfl, (m : Int), (n : Int), rfl, rfl, (m : Int) + (n : Int), 1, rfl, rfl, (by show 2 ≤ sizeLine; decide), fun X hX => ?_⟩
    have sX := same_new (o := .lst [.int 0, .int ((m : Int) + (n : Int) - 1)]) hX
    have eX : upd H5 X (.lst [.int 0, .int ((m : Int) + (n : Int) - 1)]) X = some (.lst [.int 0, .int ((m : Int) + (n : Int) - 1)]) := upd_same
    generalize upd H5 X (.lst [.int 0, .int ((m : Int) + (n : Int) - 1)]) = H6 at sX eX
    refine ⟨.int (n : Int), rfl, (n : Int), 0, rfl, rfl, .inr ⟨_, rfl, ?_⟩⟩
    have s6 := s5.trans sX
    have ato : atI [.int 0, .int ((m : Int) + (n : Int) - 1)] (if decide ((n : Int) > 0) = true then 1 else 0) = some (V.int (simO m n)) := by
      rcases pick n with ⟨e, hi0⟩ | ⟨e, hi0⟩
      · rw [e, show simO m n = (m : Int) + (n : Int) - 1 by unfold simO; rw [if_neg (by omega)]]
        exact atI_nat (j := 1) rfl
      · rw [e, show simO m n = 0 by unfold simO; rw [if_pos hi0]]
        exact atI_nat (j := 0) rfl
    refine ⟨X, _, _, .int (simO m n), rfl, rfl, .inl (.inl eX), ato, ?_⟩
    refine ⟨.int (m : Int), rfl, .ref C, rfl, C, _, rfl, .inl ⟨.inl (.inl (sX _ _ eC)), fun D hD => ?_⟩⟩
    have sD := same_new (o := .tup (as.map V.ref)) hD
    have eD : upd H6 D (.tup (as.map V.ref)) D = some (.tup (as.map V.ref)) := upd_same
    generalize upd H6 D (.tup (as.map V.ref)) = H7 at sD eD
    refine ⟨.int (simO m n), rfl, (by show 3 ≤ sizeLine; decide), fun R hR => ?_⟩
    have sR := same_new (o := .tup [.int (m : Int), .ref D, .int (simO m n)]) hR
    have eR : upd H7 R (.tup [.int (m : Int), .ref D, .int (simO m n)]) R = some (.tup [.int (m : Int), .ref D, .int (simO m n)]) := upd_same
    generalize upd H7 R (.tup [.int (m : Int), .ref D, .int (simO m n)]) = H8 at sR eR
    refine ⟨.int (m : Int), rfl, .int (n : Int), rfl, (n : Int), 2, rfl, rfl, (by show (0 : Int) < 2; decide), (by show 2 ≤ sizeLine; decide), fun K2 hK2 => ?_⟩
    have sK := same_new (o := .tup [.int (m : Int), .int ((n : Int) % 2)]) hK2
    have eK : upd H8 K2 (.tup [.int (m : Int), .int ((n : Int) % 2)]) K2 = some (.tup [.int (m : Int), .int ((n % 2 : Nat) : Int)]) := by
      rw [upd_same]
      congr 1
    generalize upd H8 K2 (.tup [.int (m : Int), .int ((n : Int) % 2)]) = H9 at sK eK
    refine ⟨(by show 2 ≤ sizeLine; decide), fun T hT => ?_⟩
    have sT := same_new (o := .tup [.ref R, .ref K2]) hT
    have s29 : Same H2 (upd H9 T (.tup [.ref R, .ref K2])) := s6.trans (sD.trans (sR.trans (sK.trans sT)))
    refine q _ T m n ⟨hm2, hn4, R, K2, upd_same, ⟨D, as, sT _ _ (sK _ _ eR), sT _ _ (sK _ _ (sR _ _ eD)), ?_⟩, sT _ _ eK⟩ (w2.same s29) ((k1.trans k2).trans (Same.kp s29))
    exact awMap (fun r _ e => sT _ _ (sK _ _ (sR _ _ (sD _ _ (sX _ _ e))))) has
def rNeL0 : R2 := fun x y H Q => ∃ (a b : Addr) (xs : List V), x = .ref a ∧ y = .ref b ∧ H a = some (.lst xs) ∧ H b = some (.lst []) ∧ Q (.bl (!xs.isEmpty)) H
theorem op_neL0 {X : Cx} (hu : X.A.units + 64 < cLine) : OpR X (compareOp .NotEq) rNeL0 := by
  intro pins s σ H x y v u Q I rx ry h
  obtain ⟨a, b, xs, rfl, rfl, ea, eb, q⟩ := h
  cases rx
  cases ry
  obtain ⟨i1, rv1, h1, _⟩ := I.list (.inl (.inl ea))
  obtain ⟨i2, rv2, h2, _⟩ := I.list (.inl (.inl eb))
  cases rv2
  cases rv1 with
  | nil =>
    have r := SeqAt.RcNeAt.lists (A := X.A) (s := s) (e := fun _ => true) h1.isList h2.isList rfl (by omega) (fun j j1 _ => absurd j1 (by simp))
    exact r _ _ _ _ ⟨.bl false, H, I, rfl, q⟩
  | cons r rs =>
    have r := SeqAt.RcNeAt.lists_lengths (A := X.A) (s := s) h1.isList h2.isList (by simp) (by omega)
    exact r _ _ _ _ ⟨.bl true, H, I, rfl, q⟩
theorem map_erase7 {α β : Type} (f : α → β) : ∀ (l : List α) (i : Nat), (l.map f).eraseIdx i = (l.eraseIdx i).map f
  | [], _ => rfl
  | _ :: _, 0 => rfl
  | x :: l, i + 1 => congrArg (f x :: ·) (map_erase7 f l i)
theorem seq_in {n k : Nat} (h : k < n) : seqIndex? (k : Int) n = some k := (ixN_seq (by unfold ixN; rw [if_pos (Int.natCast_nonneg k), if_pos (by omega)]; rfl)).1
theorem erase_perm {α : Type} : ∀ (l : List α) (j : Nat) (h : j < l.length), (l[j] :: l.eraseIdx j).Perm l
  | x :: l, 0, _ => .refl _
  | x :: l, j + 1, h => by
    have hl : j < l.length := by simpa using h
    have ih := erase_perm l j hl
    show (l[j] :: x :: l.eraseIdx j).Perm (x :: l)
    exact (List.Perm.swap x _ _).trans (ih.cons x)
def pl82 (f : Int) (k : Nat) : Int := (f + 27 * (k : Int)) % 676
def nm82 (x : Int) : Str := (⟨#[letS.cps.toList.getD (x / 26).toNat 0]⟩ : Str) ++ ⟨#[letS.cps.toList.getD (x % 26).toNat 0]⟩
theorem let_len : letS.length = 26 := by decide +kernel
theorem let_nd : letS.cps.toList.Nodup := by decide +kernel
theorem let_at {i : Nat} (h : i < 26) : letS.cps[i]? = some (letS.cps.toList.getD i 0) := by
  have h1 : i < letS.cps.size := by
    have : letS.cps.size = 26 := let_len
    omega
  rw [Array.getElem?_eq_getElem h1, List.getD_eq_getElem?_getD, Array.getElem?_toList, Array.getElem?_eq_getElem h1]
  rfl
theorem let_inj {i j : Nat} (hi : i < 26) (hj : j < 26) (h : letS.cps.toList.getD i 0 = letS.cps.toList.getD j 0) : i = j := by
  have ll : letS.cps.toList.length = 26 := let_len
  rw [List.getD_eq_getElem?_getD, List.getD_eq_getElem?_getD, List.getElem?_eq_getElem (by omega), List.getElem?_eq_getElem (by omega)] at h
  exact (List.getElem_inj let_nd).mp h
theorem let_mem {i : Nat} (h : i < 26) : letS.cps.toList.getD i 0 ∈ letS.cps.toList := by
  have ll : letS.cps.toList.length = 26 := let_len
  rw [List.getD_eq_getElem?_getD, List.getElem?_eq_getElem (by omega)]
  exact List.getElem_mem _
theorem nm82_ok {x : Int} (h0 : 0 ≤ x) (h1 : x < 676) : nameS (nm82 x) = true := by
  unfold nameS
  have e : (nm82 x).cps.toList = [letS.cps.toList.getD (x / 26).toNat 0, letS.cps.toList.getD (x % 26).toNat 0] := rfl
  have l : (nm82 x).length = 2 := rfl
  rw [e, l, decide_eq_true (by decide), Bool.true_and]
  refine List.all_eq_true.mpr fun c hc => decide_eq_true ?_
  simp only [List.mem_cons, List.not_mem_nil, or_false] at hc
  rcases hc with rfl | rfl
  · exact let_mem (by omega)
  · exact let_mem (by omega)
theorem nm82_inj {x y : Int} (h0 : 0 ≤ x) (h1 : x < 676) (k0 : 0 ≤ y) (k1 : y < 676) (h : nm82 x = nm82 y) : x = y := by
  have e : ([letS.cps.toList.getD (x / 26).toNat 0, letS.cps.toList.getD (x % 26).toNat 0] : List Nat) = [letS.cps.toList.getD (y / 26).toNat 0, letS.cps.toList.getD (y % 26).toNat 0] := congrArg (fun s : Str => s.cps.toList) h
  injection e with e1 e2
  injection e2 with e2 _
  have a1 := let_inj (by omega) (by omega) e1
  have a2 := let_inj (by omega) (by omega) e2
  omega
theorem pl82_nd {f : Int} {n : Nat} (hn : n ≤ 60) : ((List.range n).map (pl82 f)).Nodup := by
  refine List.pairwise_iff_getElem.mpr fun i j hi hj hij e => ?_
  rw [List.getElem_map, List.getElem_map, List.getElem_range, List.getElem_range] at e
  rw [List.length_map, List.length_range] at hj
  unfold pl82 at e
  omega
def spTl : Sp := fun vs H Q _ => ∃ (a c : Addr) (n : Nat), vs = [.ref a, .int (n : Int)] ∧ 1 ≤ n ∧ n ≤ 60 ∧ WL H a c ∧ ∀ (H' : Hp) (L : Addr) (ns : List Str), H' L = some (.lst (ns.map V.str)) → ns.length = n → (∀ t ∈ ns, nameS t = true) → ns.Nodup → L ≠ a → L ≠ c → WL H' a c → Kp a c H H' → Q (.ref L) H'
set_option maxHeartbeats 1000000 in
theorem ok_tl {f fD : Addr} {fd fdD : FuncData} {k : Nat} (F : Fun K "_law_two_letters" "_law_two_letters" s_law_two_letters f fd)
    (GD : FnOk P w K mg base CX0 (k + 1) fD fdD ["well", "many"] spDraw) (kD : PySem.W.keepIn K (.ref fD) = true) (bD : Binds K fdD ["well", "many"] []) (gD : mg "_law_draw" = some (.ref fD))
    (mr : mg "range" = none) (mn : mg "len" = none) : FnOk P w K mg base CX0 (k + 2) f fd ["well", "many"] spTl := by
  refine F.ok sc_law_two_letters (fun vs H Q E h => ?_) (fun cdv A outer s H vs Q E hr h => ?_)
  · obtain ⟨a, c, n, rfl, _⟩ := h
    rfl
  · obtain ⟨a, c, n, rfl, n1, n60, hw, q⟩ := h
    refine ⟨_, pss_cons (ps_set (i := 2) sc_law_two_letters.nd rfl (.inl rfl) pe_str)
      (pss_cons (ps_set (i := 3) sc_law_two_letters.nd rfl (.inr rfl) (pe_call GD hr (by rfl) gD kD bD .nil pass0 (pa_cons (pv 0) (pa_cons pe_int pa_nil))))
      (pss_cons (ps_setLc (i := 4) (own := [("k", 7)]) (g := gName 7) (by rfl) sc_law_two_letters.nd rfl rfl (sw_true rfl rfl rfl (by decide +kernel)) (pi_range1 (by rfl) mr (pa_cons (pv 1) pa_nil)) (blkOk_by (own := [("k", 7)]) (N := N_law_two_letters) (sc := defScope s_law_two_letters) (by decide +kernel)) (fun _ _ _ _ _ => pg_name (i := 7) sc_law_two_letters.nd rfl (Or.inl rfl)) (fun _ _ _ _ _ => pts_nil)
        (fun _ _ _ _ _ => pe_op op_mod (pe_op op_add (pv 3) (pe_op op_mul pe_int (pv 7))) pe_int))
      (pss_cons (ps_set (i := 5) sc_law_two_letters.nd rfl (.inl rfl) (pe_lst pa_nil))
      (pss_cons (ps_while PassesOwn.never (pt_cmpR (op_neL0 hr.units) (pv 4) (pe_lst pa_nil) (nomark _))
        (pss_cons (ps_set (i := 6) sc_law_two_letters.nd rfl (.inl rfl) (pe_bm PySem.F.plainAttrs_list PySem.F.slot_list_pop PySem.F.type_list_pop mt_popAt (pv 4) (pa_cons (pe_call GD hr (by rfl) gD kD bD .nil pass0 (pa_cons (pv 0) (pa_cons (pe_callB call_len_seq (by rfl) mn PySem.boot_len (pa_cons (pv 4) pa_nil)) pa_nil))) pa_nil)))
        (pss_one (ps_expr (pe_bm PySem.F.plainAttrs_list PySem.F.slot_list_append PySem.F.type_list_append mt_append (pv 5) (pa_cons (pe_op op_add_str (pe_item_str (pv 2) (pe_op op_fdiv (pv 6) pe_int) (fun _ _ => rfl)) (pe_item_str (pv 2) (pe_op op_mod (pv 6) pe_int) (fun _ _ => rfl))) pa_nil))))))
      (pss_one (ps_ret (pv 5))))))), ?_⟩
    refine ⟨.ref a, rfl, a, c, 676, rfl, by decide, by decide, hw, fun H1 f f0 f1 w1 k1 => ?_⟩
    refine ⟨.int (n : Int), rfl, (n : Int), rfl, by omega, by omega, fun C hC => ?_⟩
    have sC : ∀ o, Same H1 (upd H1 C o) := fun o => same_new hC
    refine lc_range (lo := 0) (n := n) (fun i H4 => H4 = upd H1 C (.lst (((List.range i).map (pl82 f)).map V.int))) rfl (fun i H4 hi h4 => ?_) (fun H4 h4 => ?_)
    · subst h4
      refine ⟨rfl, .int f, rfl, .int (0 + (i : Int)), rfl, 27, 0 + (i : Int), rfl, rfl, .inl ⟨by decide, by decide⟩, f, 27 * (0 + (i : Int)), rfl, rfl, f + 27 * (0 + (i : Int)), 676, rfl, rfl, (by show (0 : Int) < 676; decide), _, upd_same, by rw [List.length_map, List.length_map, List.length_range]; exact small1000 (by omega), ?_⟩
      rw [upd_upd, List.range_succ, List.map_append, List.map_append, Int.zero_add]
      rfl
    obtain ⟨nCa, nCc⟩ := w1.ne_new hC
    have eC : H4 C = some (.lst (((List.range n).map (pl82 f)).map V.int)) := by rw [h4, upd_same]
    have w4 : WL H4 a c := by rw [h4]; exact w1.upd nCa nCc
    have k4 : Kp a c H H4 := by rw [h4]; exact k1.trans (Same.kp (sC _))
    have hC4 : C ≠ C ∨ True := .inr trivial
    clear h4
    refine ⟨Nat.zero_le _, fun Fd hFd => ?_⟩
    have sF := same_new (o := .lst []) hFd
    have nCF : C ≠ Fd := ne_of_none eC hFd
    obtain ⟨nFa, nFc⟩ := w4.ne_new hFd
    have rg : ∀ x ∈ (List.range n).map (pl82 f), 0 ≤ x ∧ x < 676 := fun x hx => by
      obtain ⟨k, _, rfl⟩ := List.mem_map.mp hx
      unfold pl82
      exact ⟨Int.emod_nonneg _ (by decide), Int.emod_lt_of_pos _ (by decide)⟩
    have hH : H C = none ∨ H C ≠ none := Classical.em _
    refine ⟨fun mm σ H' => ∃ (y6 : Option V) (ps : List Int) (fs : List Str), mm = ps.length ∧ σ = [some (.ref a), some (.int (n : Int)), some (.str letS), some (.int f), some (.ref C), some (.ref Fd), y6, none] ∧ H' C = some (.lst (ps.map V.int)) ∧ H' Fd = some (.lst (fs.map V.str)) ∧ fs.length + ps.length = n ∧ (∀ x ∈ ps, 0 ≤ x ∧ x < 676) ∧ (∀ t ∈ fs, nameS t = true) ∧ (fs ++ ps.map nm82).Nodup ∧ WL H' a c ∧ ∀ x o, x ≠ a → x ≠ c → x ≠ C → x ≠ Fd → H4 x = some o → H' x = some o,
      ⟨_, none, (List.range n).map (pl82 f), [], rfl, rfl, sF _ _ eC, upd_same, by rw [List.length_map, List.length_range]; exact Nat.zero_add n, rg, (fun _ z => nomatch z), ?_, w4.same sF, fun x o _ _ _ n4 e => sF _ _ e⟩, ?_⟩
    · show (((List.range n).map (pl82 f)).map nm82).Nodup
      refine List.pairwise_map.mpr ((pl82_nd n60).imp_of_mem fun {x y} hx hy ne e => ne ?_)
      obtain ⟨a1, a2⟩ := rg x hx
      obtain ⟨b1, b2⟩ := rg y hy
      exact nm82_inj a1 a2 b1 b2 e
    rintro mm σ H5 ⟨y6, ps, fs, rfl, rfl, eC5, eF5, hlen, hps, hfs, hnd, w5, k5⟩
    refine ⟨.ref C, rfl, (by show 0 ≤ sizeLine; decide), fun Z hZ => ?_⟩
    have sZ := same_new (o := .lst []) hZ
    refine ⟨C, Z, _, rfl, rfl, sZ _ _ eC5, upd_same, _, rfl, ite2 (fun e => ?_) (fun e => ?_)⟩
    · have lpos : 0 < ps.length := by
        cases ps with
        | nil => cases e
        | cons _ _ => exact Nat.succ_pos _
      have w6 := w5.same sZ
      have eC6 := sZ _ _ eC5
      have eF6 := sZ _ _ eF5
      have k6 : ∀ x o, x ≠ a → x ≠ c → x ≠ C → x ≠ Fd → H4 x = some o → upd H5 Z (.lst []) x = some o := fun x o n1 n2 n3 n4 e => sZ _ _ (k5 x o n1 n2 n3 n4 e)
      generalize upd H5 Z (.lst []) = H6 at w6 eC6 eF6 k6
      refine ⟨fun σ' H' => ∃ m', m' < ps.length ∧ ∃ (y6 : Option V) (ps : List Int) (fs : List Str), m' = ps.length ∧ σ' = [some (.ref a), some (.int (n : Int)), some (.str letS), some (.int f), some (.ref C), some (.ref Fd), y6, none] ∧ H' C = some (.lst (ps.map V.int)) ∧ H' Fd = some (.lst (fs.map V.str)) ∧ fs.length + ps.length = n ∧ (∀ x ∈ ps, 0 ≤ x ∧ x < 676) ∧ (∀ t ∈ fs, nameS t = true) ∧ (fs ++ ps.map nm82).Nodup ∧ WL H' a c ∧ ∀ x o, x ≠ a → x ≠ c → x ≠ C → x ≠ Fd → H4 x = some o → H' x = some o, fun σ' H' z => z, ?_⟩
      refine ⟨.ref C, rfl, .inl ⟨rfl, _, .inl (.inl eC6)⟩, .ref a, rfl, .ref C, rfl, C, _, rfl, .inl (.inl (.inl eC6)), a, c, _, rfl, by rw [List.length_map]; omega, by rw [List.length_map]; omega, w6, fun H7 y y0 y1 w7 k7 => ?_⟩
      rw [List.length_map] at y1
      obtain ⟨j, rfl⟩ : ∃ j : Nat, y = (j : Int) := ⟨y.toNat, by omega⟩
      have hj : j < ps.length := by omega
      have eC7 := k7 _ _ nCa nCc eC6
      have eF7 := k7 _ _ nFa nFc eF6
      refine ⟨C, _, (j : Int), j, .int ps[j], rfl, rfl, eC7, by omega, by omega, by rw [List.length_map]; exact seq_in hj, by rw [List.getElem?_map, List.getElem?_eq_getElem hj]; rfl, ?_⟩
      have pm := erase_perm ps j hj
      obtain ⟨x0, x1⟩ := hps ps[j] (List.getElem_mem hj)
      generalize ps[j] = x at pm x0 x1
      have e8C : upd H7 C (.lst ((ps.map V.int).eraseIdx j)) C = some (.lst ((ps.eraseIdx j).map V.int)) := by rw [upd_same, map_erase7]
      have e8F : upd H7 C (.lst ((ps.map V.int).eraseIdx j)) Fd = some (.lst (fs.map V.str)) := by rw [upd_ne nCF.symm]; exact eF7
      have w8 := w7.upd (o := .lst ((ps.map V.int).eraseIdx j)) nCa nCc
      have k8 : ∀ z o, z ≠ a → z ≠ c → z ≠ C → z ≠ Fd → H4 z = some o → upd H7 C (.lst ((ps.map V.int).eraseIdx j)) z = some o := fun z o n1 n2 n3 n4 e => by rw [upd_ne n3]; exact k7 _ _ n1 n2 (k6 z o n1 n2 n3 n4 e)
      generalize upd H7 C (.lst ((ps.map V.int).eraseIdx j)) = H8 at e8C e8F w8 k8
      have d1 : (x / 26).toNat < 26 := by omega
      have d2 : (x % 26).toNat < 26 := by omega
      refine ⟨.ref Fd, rfl, .inl ⟨rfl, _, .inl (.inl e8F)⟩, .str letS, rfl, .int x, rfl, x, 26, rfl, rfl, ⟨by decide, by decide⟩, letS, x / 26, _, rfl, rfl, by omega, by omega, by rw [let_len]; omega, let_at d1, .str letS, rfl, .int x, rfl, x, 26, rfl, rfl, (by show (0 : Int) < 26; decide), letS, x % 26, _, rfl, rfl, by omega, by omega, by rw [let_len]; omega, let_at d2, _, _, rfl, rfl, (by show 2 ≤ sizeLine; decide), Fd, _, _, rfl, rfl, e8F, by rw [List.length_map]; exact small1000 (by omega), ?_⟩
      have le : (ps.eraseIdx j).length + 1 = ps.length := by rw [List.length_eraseIdx_of_lt hj]; omega
      refine ⟨(ps.eraseIdx j).length, by omega, _, ps.eraseIdx j, fs ++ [nm82 x], rfl, rfl, by rw [upd_ne nCF]; exact e8C, by rw [upd_same, List.map_append]; rfl, by rw [List.length_append]; show fs.length + 1 + _ = n; omega, fun z hz => hps z (List.mem_of_mem_eraseIdx hz), fun t ht => ?_, ?_, w8.upd nFa nFc, fun z o n1 n2 n3 n4 e => by rw [upd_ne n4]; exact k8 z o n1 n2 n3 n4 e⟩
      · rcases List.mem_append.mp ht with ht | ht
        · exact hfs t ht
        · rw [List.mem_singleton.mp ht]
          exact nm82_ok x0 x1
      · rw [List.append_assoc]
        refine (List.Perm.nodup_iff (List.Perm.append_left fs ?_)).mp hnd
        exact (pm.symm.map nm82)
    · have pe : ps = [] := by
        cases ps with
        | nil => rfl
        | cons _ _ => exact absurd rfl e
      subst pe
      have s6 := sZ
      refine ⟨.ref Fd, rfl, q _ Fd fs (sZ _ _ eF5) (by simpa using hlen) hfs (by simpa using hnd) nFa nFc (w5.same sZ) fun x o n1 n2 e => ?_⟩
      have e4 := k4 x o n1 n2 e
      by_cases z1 : x = C
      · exact absurd z1 (ne_of_none (k1 x o n1 n2 e) hC)
      · exact sZ _ _ (k5 x o n1 n2 z1 (ne_of_none e4 hFd) e4)
section eqn0
theorem samePairs_nil {nm : String} {prog : Program} {w : World} {A : Around} {E : Value → Shared → Prop} {s : Shared} {a b : Addr} {oa ob : Obj} {es : Array DictEntry} {ea eb : Nat} {Q : Bool → Shared → Prop} (ha : (a == sysModules) = false) (hb : (b == sysModules) = false) (hoa : s.heap.get? a = some oa) (hda : oa.data = .dict es ea) (hob : s.heap.get? b = some ob) (hdb : ob.data = .dict #[] eb)
    (h : Q (es.size == 0) s) : wpAny (model prog w) A (Builtin.Dict.samePairs nm a b) Q E s := by
  unfold Builtin.Dict.samePairs Builtin.Dict.showsAll
  rw [if_neg (show ¬ (a == sysModules) = true by rw [ha]; exact Bool.false_ne_true), if_neg (show ¬ (b == sysModules) = true by rw [hb]; exact Bool.false_ne_true)]
  refine wpAny_bind (wpAny_pure (wpAny_bind (wpAny_pure ?_)))
  refine wpAny_bind (wpAny_dictEntries hoa hda ?_)
  dsimp only
  refine wpAny_bind (wpAny_dictEntries hob hdb ?_)
  by_cases hsz : es.size = 0
  case neg =>
    rw [if_pos (by simpa using hsz)]
    have hbf : (es.size == 0) = false := by simpa using hsz
    rw [hbf] at h
    exact wpAny_bind (wpAny_rule (wpAny_pure h))
  case pos =>
    have h' : Q true s := by simpa [hsz] using h
    rw [if_neg (by rw [hsz]; simp)]
    refine wpAny_bind (wpAny_dictEpoch hoa hda ?_)
    refine wpAny_bind ?_
    rw [Std.Legacy.Range.forIn_eq_forIn_range']
    simp only [Std.Legacy.Range.size, Nat.sub_zero, Nat.add_sub_cancel, Nat.div_one, hsz]
    refine wpAny_pure ?_
    exact wpAny_pure h'
theorem dict_eq0 {prog : Program} {w : World} {A : Around} {E : Value → Shared → Prop} {s : Shared} {a b : Addr} {oa ob : Obj} {es : Array DictEntry} {ea eb : Nat} {Q : Value → Shared → Prop} (ha : (a == sysModules) = false) (hb : (b == sysModules) = false) (ta : s.TypeIs (.ref a) "dict") (tb : s.TypeIs (.ref b) "dict") (hoa : s.heap.get? a = some oa) (hda : oa.data = .dict es ea) (hob : s.heap.get? b = some ob) (hdb : ob.data = .dict #[] eb)
    (hu : A.units < cLine) (h : Q (.bool (es.size == 0)) s) : wpAny (model prog w) A (compareOp .Eq (.ref a) (.ref b)) Q E s := by
  refine wpAny_richCompare_same_room (op := .Eq) ta tb PySem.F.slot_dict_eq (wpAny_call_entry PySem.F.slot_dict_eq ta PySem.F.entry_dict_eq ?_ (PySem.F.args_dict_eq_2 _ _)) hu
  show wpAny _ _ (Builtin.Dict.dictSlotArgs "__eq__" ⟨[.ref a, .ref b], []⟩ >>= _) _ _ s
  refine wpAny_bind ?_
  unfold Builtin.Dict.dictSlotArgs
  refine wpAny_bind (wpAny_notOrdered_dict ta ?_)
  show wpAny _ _ (pure (Value.ref a, Value.ref b)) _ _ s
  refine wpAny_pure ?_
  refine wpAny_bind (wpAny_isInstance (T := "dict") tb PySem.F.sub_dict_dict ?_)
  simp only [Bool.not_true, Bool.false_eq_true, if_false]
  refine wpAny_bind (wpAny_pure (wpAny_bind (wpAny_pure ?_)))
  refine wpAny_bind (samePairs_nil ha hb hoa hda hob hdb ?_)
  refine wpAny_pure ⟨_, rfl, ?_, ?_⟩
  · exact fun x => nomatch x
  · simpa using h
/-- d == {}, d a dict by texts and numbers, or by nested tuples -/
def rEqD0 (P : Program) (w : World) : R2 := fun x y H Q => ∃ (a b : Addr), x = .ref a ∧ y = .ref b ∧ H b = some (.dK []) ∧ ((∃ kvs : Kvs, H a = some (.dK kvs) ∧ Q (.bl kvs.isEmpty) H) ∨ ∃ xs, ND P w H a xs ∧ Q (.bl xs.isEmpty) H)
theorem op_eqD0 {X : Cx} {P : Program} {w : World} (hP : X.prog = P) (hw : X.w = w) (hu : X.A.units + 1 < cLine) : OpR X (compareOp .Eq) (rEqD0 P w) := by
  subst hP hw
  intro pins s σ H x y v u Q I rx ry h
  obtain ⟨a, b, rfl, rfl, eb, h⟩ := h
  obtain rfl : v = Value.ref a := rx
  obtain rfl : u = Value.ref b := ry
  obtain ⟨_, yb, vb, rb, db⟩ := (show ObjOk X.prog X.w H s.heap b (.dK []) from I.hok b _ eb)
  have lb : vb = [] := by cases rb; rfl
  subst lb
  have tb := db.typeIs
  obtain ⟨ob, es', ep', hob, _, hdb, _, hpb, _⟩ := db
  have e0 : es' = #[] := by
    have : es'.toList.length = 0 := hpb.length
    exact Array.eq_empty_of_size_eq_zero (by rw [← Array.length_toList]; exact this)
  subst e0
  rcases h with ⟨kvs, ea, q⟩ | ⟨xs, hn, q⟩
  · obtain ⟨_, ya, va, ra, da⟩ := (show ObjOk X.prog X.w H s.heap a (.dK kvs) from I.hok a _ ea)
    have ta := da.typeIs
    obtain ⟨oa, es, ep, hoa, _, hda, _, hpa, _⟩ := da
    have l1 : es.size = va.length := by rw [← Array.length_toList]; exact hpa.length
    have l2 := ra.length
    refine dict_eq0 ya yb ta tb hoa hda hob hdb (by omega) ⟨.bl kvs.isEmpty, H, I, ?_, q⟩
    show Value.bool _ = Value.bool _
    congr 1
    cases kvs with
    | nil => simp at l2; rw [l1, ← l2]; rfl
    | cons _ _ => simp at l2; rw [l1, ← l2]; rfl
  · obtain ⟨_, ya, ys, rel, dd⟩ := hn.full I
    have ta := dd.typeIs
    obtain ⟨oa, es, ep, hoa, _, hda, hes, _⟩ := dd
    have l1 : es.size = ys.length := by rw [← Array.length_toList, hes, List.length_map]
    have l2 := awLen rel
    refine dict_eq0 ya yb ta tb hoa hda hob hdb (by omega) ⟨.bl xs.isEmpty, H, I, ?_, q⟩
    show Value.bool _ = Value.bool _
    congr 1
    cases xs with
    | nil => simp at l2; rw [l1, ← l2]; rfl
    | cons _ _ => simp at l2; rw [l1, ← l2]; rfl
end eqn0
def kk (e : Nat × Nat) : NestedKey := .tup [.num (e.1 : Int), .num (e.2 : Int)]
theorem kk_inj {a b : Nat × Nat} (h : kk a = kk b) : a = b := by
  unfold kk at h
  injection h with h
  injection h with h1 h
  injection h with h2 _
  injection h1 with h1
  injection h2 with h2
  exact Prod.ext (by exact_mod_cast h1) (by exact_mod_cast h2)
theorem kk_key {H : Hp} {K2 : Addr} {a b : Nat} (h : H K2 = some (.tup [.int (a : Int), .int (b : Int)])) : KeyN H (.ref K2) (kk (a, b)) := ⟨.tup h (.cons (.num _) (.cons (.num _) .nil)), by
  unfold kk
  simp [NestedKey.depth, NestedKey.depthAll]⟩
structure GrN (H H0 : Hp) (e : NE) (g : (Nat × Nat) × List Str) : Prop where
  key : e.1 = kk g.1
  lst : ∃ q, e.2.2 = .ref q ∧ H q = some (.lst (g.2.map V.str)) ∧ H0 q = none
theorem grn_stay {H H' H0 : Hp} (k : ∀ (q : Addr) (xs : List V), H q = some (.lst xs) → H' q = some (.lst xs)) {xs : List NE} {gs : Gs (Nat × Nat)} (h : Paired (GrN H H0) xs gs) : Paired (GrN H' H0) xs gs :=
  awMap (fun e g z => ⟨z.key, by obtain ⟨q, h1, h2, h3⟩ := z.lst; exact ⟨q, h1, k _ _ h2, h3⟩⟩) h
theorem grn_get {H H0 : Hp} {k : Nat × Nat} : ∀ {xs : List NE} {gs : Gs (Nat × Nat)}, Paired (GrN H H0) xs gs →
    (getN xs (kk k) = none ∧ ∀ g ∈ gs, ¬ g.1 = k) ∨ ∃ (i : Nat) (q : Addr) (e : NE) (g : (Nat × Nat) × List Str), getN xs (kk k) = some (.ref q) ∧ xs[i]? = some e ∧ e.2.2 = .ref q ∧ gs[i]? = some g ∧ g.1 = k ∧ H q = some (.lst (g.2.map V.str))
  | _, _, .nil => .inl ⟨rfl, fun _ z => nomatch z⟩
  | _, _, .cons (a := x) (b := g) (l₁ := xs) (l₂ := gs) h t => by
    by_cases e : g.1 = k
    · obtain ⟨q, h1, h2, _⟩ := h.lst
      refine .inr ⟨0, q, x, g, ?_, rfl, h1, rfl, e, h2⟩
      unfold getN
      rw [List.find?_cons, decide_eq_true (h.key.trans (congrArg kk e))]
      show some x.2.2 = _
      rw [h1]
    · have en : getN (x :: xs) (kk k) = getN xs (kk k) := by
        unfold getN
        rw [List.find?_cons, decide_eq_false fun z => e (kk_inj (h.key.symm.trans z))]
      rw [en]
      rcases grn_get (k := k) t with ⟨a, b⟩ | ⟨i, q, e0, g0, a, b, b2, c, d, f⟩
      · refine .inl ⟨a, fun g' hg' => ?_⟩
        rcases List.mem_cons.mp hg' with rfl | hg'
        · exact e
        · exact b g' hg'
      · exact .inr ⟨i + 1, q, e0, g0, a, b, b2, c, d, f⟩
theorem grn_old {H H0 : Hp} {k : Nat × Nat} {i0 : Nat} {q : Addr} {t : Str} {xs : List NE} {gs : Gs (Nat × Nat)} {e0 : NE} {g0 : (Nat × Nat) × List Str} (h : Paired (GrN H H0) xs gs) (nk : (gs.map (·.1)).Nodup) (nv : (xs.map (·.2.2)).Nodup) (hx : xs[i0]? = some e0) (hq : e0.2.2 = .ref q) (hg : gs[i0]? = some g0) (ek : g0.1 = k)
    : Paired (GrN (upd H q (.lst (g0.2.map V.str ++ [.str t]))) H0) xs (addG gs k t) := by
  have ha : (gs.any fun g => decide (g.1 = k)) = true := addG_any.mpr (List.mem_map.mpr ⟨g0, List.mem_of_getElem? hg, ek⟩)
  unfold addG
  rw [if_pos ha]
  refine prOf (by rw [List.length_map]; exact awLen h) fun i e g he hge => ?_
  rw [List.getElem?_map] at hge
  obtain ⟨g1, hg1, rfl⟩ := Option.map_eq_some_iff.mp hge
  obtain ⟨g1', a, z⟩ := awGet h he
  rw [hg1] at a
  obtain rfl := Option.some.inj a
  obtain ⟨q', b, c, d⟩ := z.lst
  by_cases e1 : g1.1 = k
  · rw [if_pos e1]
    have ii : i = i0 := nd_idx nk (x := k) (by rw [List.getElem?_map, hg1]; exact congrArg some e1) (by rw [List.getElem?_map, hg]; exact congrArg some ek)
    subst ii
    rw [hg] at hg1
    obtain rfl := Option.some.inj hg1
    rw [hx] at he
    obtain rfl := Option.some.inj he
    refine ⟨z.key, q, hq, ?_, ?_⟩
    · rw [upd_same]
      show _ = some (HO.lst ((g0.2 ++ [t]).map V.str))
      rw [List.map_append]
      rfl
    · rw [hq] at b
      rw [V.ref.inj b]
      exact d
  · rw [if_neg e1]
    have nq : q' ≠ q := fun y => by
      subst y
      have ii : i = i0 := nd_idx nv (x := V.ref q') (by rw [List.getElem?_map, he]; exact congrArg some b) (by rw [List.getElem?_map, hx]; exact congrArg some hq)
      subst ii
      rw [hg] at hg1
      obtain rfl := Option.some.inj hg1
      exact e1 ek
    exact ⟨z.key, q', b, by rw [upd_ne nq]; exact c, d⟩
/-- what is kept by the law: numbers of tellings, each a simple row and its kind -/
theorem awMap_mem7 {α β : Type} {F G : α → β → Prop} : ∀ {l : List α} {k : List β}, Paired F l k → (∀ x y, x ∈ l → F x y → G x y) → Paired G l k
  | _, _, .nil, _ => .nil
  | _, _, .cons h t, f => .cons (f _ _ List.mem_cons_self h) (awMap_mem7 t fun x y hx => f x y (List.mem_cons_of_mem _ hx))
structure LS82 (H : Hp) (S : Addr) (nms : List Str) (c : Nat) (ta : Nat → Addr) (mm nn : Nat → Nat) (τ : Tau) (ks : List Str) : Prop where
  st : H S = some (.dK (kvE (gE (gR ta) τ) ks))
  ks : KsOk τ ks
  sim : ∀ n, n < c → SimT H (ta n) (mm n) (nn n)
abbrev sR (mm nn : Nat → Nat) (n : Nat) : Rw := simR (mm n) (nn n)
def noneL (ys : List Str) : List Str := if ys.isEmpty = true then ["none"] else ys
theorem none_cat {ys : List Str} {b : Bool} (h : b = ys.isEmpty) : ys.map V.str ++ (List.replicate (if b = true then (1 : Int) else 0).toNat [V.str "none"]).flatten = (noneL ys).map V.str := by
  subst h
  cases ys with
  | nil => rfl
  | cons x l =>
    show _ ++ [] = _
    rw [List.append_nil]
    rfl
theorem join_pos {y : Str} : ∀ {ys : List Str}, ys ≠ [] → (∀ t ∈ ys, 1 ≤ t.length) → 1 ≤ (Txt.join y ys).length
  | [], h, _ => absurd rfl h
  | x :: l, _, h => by
    have h1 := h x List.mem_cons_self
    rw [TL.len_tl, TL.join_eq, TL.tl_join]
    rw [TL.len_tl] at h1
    cases l with
    | nil => exact h1
    | cons z l =>
      show 1 ≤ (TL.tl x ++ _).length
      rw [List.length_append]
      omega
theorem join_noneL {y : Str} {ys : List Str} (h : ∀ t ∈ ys, 1 ≤ t.length) : orNone (Txt.join y ys) = Txt.join y (noneL ys) := by
  cases ys with
  | nil =>
    have e1 : Txt.join y [] = "" := TL.ext_tl (by rw [TL.join_eq, TL.tl_join]; show ([] : List Nat) = TL.tl ("" : Str); decide +kernel)
    have e2 : Txt.join y ["none"] = "none" := TL.ext_tl (by rw [TL.join_eq, TL.tl_join]; rfl)
    show orNone (Txt.join y []) = Txt.join y ["none"]
    rw [e1, e2]
    decide +kernel
  | cons x l =>
    have := join_pos (y := y) (ys := x :: l) (by simp) h
    unfold orNone
    rw [if_neg (by omega)]
    rfl
theorem noneL_len {ys : List Str} : (noneL ys).length ≤ ys.length + 1 := by
  cases ys with
  | nil => exact Nat.le_refl _
  | cons x l => exact Nat.le_succ _
theorem noneL_all {ys : List Str} {b : Nat} (hb : 4 ≤ b) (h : ∀ t ∈ ys, t.length ≤ b) : ∀ t ∈ noneL ys, t.length ≤ b := by
  cases ys with
  | nil =>
    intro t ht
    have : t ∈ (["none"] : List Str) := ht
    rw [List.mem_singleton.mp this]
    have : ("none" : Str).length = 4 := by decide +kernel
    omega
  | cons x l => exact h
theorem name_len {t : Str} (h : nameS t = true) : 1 ≤ t.length := by
  unfold nameS at h
  rw [Bool.and_eq_true] at h
  exact (of_decide_eq_true h.1).1
def spTo (P : Program) (w : World) (C CD : Addr) : Sp := fun vs H Q _ => ∃ (d Nm S p Kd Dn Lk : Addr) (nms : List Str) (c : Nat) (ta ba : Nat → Addr) (mm nn : Nat → Nat) (τ : Tau) (ks kb : List Str) (past : List Ev), vs = [.ref d, .ref Nm, .ref S] ∧ BD P w C CD H d p Kd Dn Lk nms c ba (sR mm nn) τ kb past ∧ LS82 H S nms c ta mm nn τ ks ∧ nms.length ≤ 60 ∧ (∀ t ∈ nms, nameS t = true) ∧
  ∀ H' D, BD P w C CD H' d p Kd Dn D nms c ba (sR mm nn) τ kb past → (∀ x o, x ≠ p → H x = some o → H' x = some o) → Q (.bl true) H'
set_option maxHeartbeats 4000000 in
theorem ok_to {f fS C CD : Addr} {fd fdS : FuncData} {k : Nat} (F : Fun K "_law_told" "_law_told" s_law_told f fd)
    (GS : FnOk P w K mg base CX0 (k + 11) fS fdS ["desk", "row", "due"] (spSd P w C CD usedL)) (kS : PySem.W.keepIn K (.ref fS) = true) (bS : Binds K fdS ["desk", "row", "due"] []) (gS : mg "_law_said" = some (.ref fS))
    (ms : mg "sorted" = none) (mI : mg "int" = none) : FnOk P w K mg base CX0 (k + 12) f fd ["desk", "names", "state"] (spTo P w C CD) := by
  refine F.ok sc_law_told (fun vs H Q E h => ?_) (fun cdv A outer s H vs Q E hr h => ?_)
  · obtain ⟨d, Nm, S, p, Kd, Dn, Lk, nms, c, ta, ba, mm, nn, τ, ks, kb, past, rfl, _⟩ := h
    rfl
  · obtain ⟨d, Nm, S, p, Kd, Dn, Lk, nms, c, ta, ba, mm, nn, τ, ks, kb, past, rfl, bd, ls, nl, hnm, qq⟩ := h
    have hu := hu_of hr
    refine ⟨_, pss_cons (ps_if (pt_not (pt_val (pe_call GS hr (by rfl) gS kS bS .nil pass0 (pa_cons (pv 0) (pa_cons pe_str (pa_cons (pe_join pe_str (pe_op op_cat (pe_callB (call_sortedD rfl) (by rfl) ms (by decide +kernel) (pa_cons (pv 2) pa_nil)) (pe_op op_rep (pe_lst (pa_cons pe_str pa_nil)) (pe_callTy call_int1 (by rfl) mI (by decide +kernel) (pa_cons (pe_cmpR (op_eqD0 (P := P) (w := w) rfl rfl hu) (pv 2) pe_dnewK (nomark _)) pa_nil))))) pa_nil)))))) (pss_one (ps_ret pe_bl)) pss_nil)
      (pss_cons (ps_set (i := 3) sc_law_told.nd rfl (.inr rfl) (pe_ndnew (P := P) (w := w) rfl rfl))
      (pss_cons (ps_for PassesOwn.never rfl (pi_list (pe_callB (call_sortedD rfl) (by rfl) ms (by decide +kernel) (pa_cons (pv 2) pa_nil))) (pg_name (i := 4) sc_law_told.nd rfl (.inl rfl))
        (pss_one (ps_expr (pe_bm PySem.F.plainAttrs_list PySem.F.slot_list_append PySem.F.type_list_append mt_append (pe_nsetd (P := P) (w := w) rfl rfl hr.units (pv 3) (pa_cons (pe_ix ix_tup (pe_dget hu (pv 2) (pv 4) (fun _ _ => rfl)) pe_int (fun _ _ => rfl)) (pa_cons (pe_lst pa_nil) pa_nil))) (pa_cons (pv 4) pa_nil)))))
      (pss_cons (ps_set (i := 5) sc_law_told.nd rfl (.inl rfl) (pe_join pe_str (pe_op op_cat
          (pe_lock (pe_lc (own := [("one", 6)]) (g := gName 6) (by rfl) sc_law_told.nd (pi_keysN (P := P) (w := w) rfl rfl (pv 3)) (blkOk_by (own := [("one", 6)]) (N := N_law_told) (sc := defScope s_law_told) (by decide +kernel)) (fun _ _ _ _ _ => pg_name (i := 6) sc_law_told.nd rfl (.inl rfl)) (fun _ _ _ _ _ => pts_nil) (fun _ _ _ _ _ => pe_joinK (K := K) rfl pe_str (pe_ndgetR (P := P) (w := w) rfl rfl hr.units (pv 3) (pv 6) (fun _ _ => rfl)))))
          (pe_op op_rep (pe_lst (pa_cons pe_str pa_nil)) (pe_callTy call_int1 (by rfl) mI (by decide +kernel) (pa_cons (pe_cmpR (op_eqD0 (P := P) (w := w) rfl rfl hu) (pv 3) pe_dnewK (nomark _)) pa_nil))))))
      (pss_one (ps_ret (pe_call GS hr (by rfl) gS kS bS .nil pass0 (pa_cons (pv 0) (pa_cons pe_str (pa_cons (pv 5) pa_nil))))))))), ?_⟩
    have ksl := bd.rg.few ls.ks
    have kbl := bd.rg.few bd.kb
    have inN : ∀ {l : List Str}, KsOk τ l → ∀ t ∈ l, t ∈ nms := fun {l} hl t ht => by
      have := (hl.mem t).mp ht
      cases e : τ t with
      | none => rw [e] at this; cases this
      | some n => exact (bd.rg t n e).1
    have e1 : (" " : Str).length = 1 := by decide +kernel
    have e2 : (", " : Str).length = 2 := by decide +kernel
    -- names
    refine ⟨.ref d, rfl, ⟨_, rfl⟩, .ref S, rfl, S, _, ks, rfl, .inl ls.st, kvE_keys _ _, by omega, fun ys A pA sA hA => ?_⟩
    have yl := pA.length_eq
    have hup : Up ys := up_sorted sA (pA.nodup_iff.mpr ls.ks.nd)
    have ynm : ∀ t ∈ ys, nameS t = true := fun t ht => hnm t (inN ls.ks t (pA.mem_iff.mp ht))
    have ykb : ys.Perm kb := pA.trans (ls.ks.perm bd.kb)
    have s1 := same_new (o := .lst (ys.map V.str)) hA
    have eA : upd H A (.lst (ys.map V.str)) A = some (.lst (ys.map V.str)) := upd_same
    generalize upd H A (.lst (ys.map V.str)) = H1 at s1 eA
    refine ⟨(by show 1 ≤ sizeLine; decide), fun Z hZ => ?_⟩
    have s2 := same_new (o := .lst [V.str "none"]) hZ
    have eZ : upd H1 Z (.lst [V.str "none"]) Z = some (.lst [V.str "none"]) := upd_same
    generalize upd H1 Z (.lst [V.str "none"]) = H2 at s2 eZ
    refine ⟨.ref S, rfl, fun Ed hEd => ?_⟩
    have s3 := same_new (o := .dK []) hEd
    have eE : upd H2 Ed (.dK []) Ed = some (.dK []) := upd_same
    generalize upd H2 Ed (.dK []) = H3 at s3 eE
    have s03 := s1.trans (s2.trans s3)
    refine ⟨S, Ed, rfl, rfl, eE, .inl ⟨_, s03 _ _ ls.st, .inr ⟨_, rfl, ?_⟩⟩⟩
    have eb : (kvE (gE (gR ta) τ) ks).isEmpty = ys.isEmpty := by
      cases hk : ks with
      | nil =>
        rw [hk] at yl
        have : ys = [] := List.length_eq_zero_iff.mp yl
        rw [this]
        rfl
      | cons x l =>
        rw [hk] at yl
        cases ys with
        | nil => simp at yl
        | cons _ _ => rfl
    refine ⟨Z, _, _, rfl, rfl, s3 _ _ eZ, by split <;> omega, by split <;> omega, by split <;> decide, fun R hR => ?_⟩
    have s4 := same_new (o := .lst (List.replicate (if (kvE (gE (gR ta) τ) ks).isEmpty = true then (1 : Int) else 0).toNat [V.str "none"]).flatten) hR
    refine ⟨A, R, _, _, rfl, rfl, s4 _ _ (s3 _ _ (s2 _ _ eA)), upd_same, ?_, fun X hX => ?_⟩
    · have := noneL_len (ys := ys)
      rw [← List.length_append, none_cat eb, List.length_map, sizeLine_eq]
      omega
    rw [none_cat eb]
    have s5 := same_new (o := .lst ((noneL ys).map V.str)) hX
    have s05 := s03.trans (s4.trans s5)
    have eX := upd_same (H := upd H3 R (.lst (List.replicate (if (kvE (gE (gR ta) τ) ks).isEmpty = true then (1 : Int) else 0).toNat [V.str "none"]).flatten)) (a := X) (o := .lst ((noneL ys).map V.str))
    generalize upd (upd H3 R (.lst (List.replicate (if (kvE (gE (gR ta) τ) ks).isEmpty = true then (1 : Int) else 0).toNat [V.str "none"]).flatten)) X (.lst ((noneL ys).map V.str)) = H5 at s05 eX
    have nb : ((noneL ys).map (·.length)).sum + (noneL ys).length * (" " : Str).length ≤ 16777216 := by
      have := join_short (y := " ") (ys := noneL ys) (b := 8) (by rw [e1]; decide) (noneL_all (by decide) fun t ht => nameS_len (ynm t ht))
      have := noneL_len (ys := ys)
      omega
    refine ⟨" ", X, noneL ys, rfl, rfl, .inl (.inl (.inl eX)), nb, ?_⟩
    have bd5 := bd.same s05
    obtain ⟨dx5, hd5⟩ := id bd5.dk
    refine ⟨d, p, dx5, "names", "names", [], "", _, rfl, hd5, by decide +kernel, said_0 (by decide +kernel) (by decide +kernel), fun H6 L6 s6 hL6 eL6 => ?_⟩
    rw [ans_names]
    have bd6 := bd5.same s6
    refine ⟨p, Kd, Dn, Lk, L6, _, _, kb, rfl, bd6.bk, kvE_keys _ _, by omega, fun t ht => Nat.le_trans (nameS_len (hnm t (inN bd.kb t ht))) (by decide), fun H7 ys2 s7 p2 srt2 => ?_⟩
    obtain rfl : ys = ys2 := up_uniq (ykb.trans p2.symm) hup (up_sorted srt2 (p2.nodup_iff.mpr bd.kb.nd))
    refine ⟨congrArg V.str (join_noneL fun t ht => name_len (ynm t ht)), _, rfl, iteF ?_⟩
    have s07 := s05.trans (s6.trans s7)
    clear s1 s2 s3 s03 s4 s5 s05 s6 s7 eA eZ eE eX hA hZ hEd hR hX nb bd5 bd6 hd5 hL6 eL6
    have bd7 := bd.same s07
    have ls7 : LS82 H7 S nms c ta mm nn τ ks := ⟨s07 _ _ ls.st, ls.ks, fun n hn => (ls.sim n hn).tups (Same.tups s07)⟩
    -- kinds, in a dict by pairs
    obtain ⟨lk, hlk⟩ : ∃ lk : Str → Nat × Nat, lk = fun t => (mm ((τ t).getD 0), nn ((τ t).getD 0) % 2) := ⟨_, rfl⟩
    intro K0 hK0
    have sG := same_new (o := NDO P w K0 []) hK0
    have ndG : ND P w (upd H7 K0 (NDO P w K0 [])) K0 [] := nd_nil
    generalize upd H7 K0 (NDO P w K0 []) = H8 at sG ndG
    refine ⟨.ref S, rfl, S, _, ks, rfl, .inl (sG _ _ ls7.st), kvE_keys _ _, by omega, fun ys3 Ln p3 srt3 hLn => ?_⟩
    obtain rfl : ys = ys3 := up_uniq (pA.trans p3.symm) hup (up_sorted srt3 (p3.nodup_iff.mpr ls.ks.nd))
    have sN := same_new (o := .lst (ys.map V.str)) hLn
    have eLn : upd H8 Ln (.lst (ys.map V.str)) Ln = some (.lst (ys.map V.str)) := upd_same
    have nLG : Ln ≠ K0 := (ne_of_none ndG.ob hLn).symm
    have ndG := nd_same ndG sN
    have s79 := sG.trans sN
    have hK79 : ∀ x o, H7 x = some o → x ≠ K0 := fun x o e => ne_of_none e hK0
    generalize upd H8 Ln (.lst (ys.map V.str)) = H9 at sN eLn ndG s79
    refine ⟨Ln, rfl, ⟨_, .inl (.inl eLn)⟩, for_list (K := K) (a := Ln) (xs := ys.map V.str) (fun j σ H5 => ∃ (y4 : Option V) (xs : List NE), σ = [some (.ref d), some (.ref Nm), some (.ref S), some (.ref K0), y4, none, none] ∧ ND P w H5 K0 xs ∧ xs.length ≤ j ∧ (xs.map (·.2.2)).Nodup ∧ Paired (GrN H5 H9) xs (grpL lk (ys.take j)) ∧ ∀ x o, x ≠ K0 → H9 x = some o → H5 x = some o)
      ⟨none, [], rfl, ndG, Nat.zero_le _, List.nodup_nil, .nil, fun _ _ _ e => e⟩ (fun j σ H5 _ hp => ?_) (fun j x σ H5 hx hp => ?_) (fun σ H5 hp => ?_)⟩
    · obtain ⟨_, _, _, _, _, _, _, st⟩ := hp
      exact .inl (.inl (st _ _ nLG eLn))
    · obtain ⟨y4, xs, rfl, nd5, l5, nv5, gr5, st⟩ := hp
      rw [List.getElem?_map] at hx
      obtain ⟨t, ht, rfl⟩ := Option.map_eq_some_iff.mp hx
      have tm := List.mem_of_getElem? ht
      have jl := (List.getElem?_eq_some_iff.mp ht).1
      have tk : ys.take (j + 1) = ys.take j ++ [t] := by rw [List.take_add_one, ht]; rfl
      have tks : t ∈ ks := pA.mem_iff.mp tm
      obtain ⟨n, en⟩ : ∃ n, τ t = some n := by
        have := (ls.ks.mem t).mp tks
        cases e : τ t with
        | none => rw [e] at this; cases this
        | some n => exact ⟨n, rfl⟩
      have hn := (bd.rg t n en).2
      have s75 : ∀ x o, H7 x = some o → H5 x = some o := fun x o e => st x o (hK79 x o e) (s79 _ _ e)
      obtain ⟨R, K2, h1, _, h3⟩ := (ls7.sim n hn).at_
      have dg : DGet H5 S (.str t) (some (.ref (ta n))) := by
        have := DGet.k (k := Sum.inr t) (s75 _ _ ls7.st)
        rw [kvE_val, if_pos tks] at this
        have e : gE (gR ta) τ t = .ref (ta n) := by unfold gE; rw [en]; rfl
        rw [e] at this
        exact this
      have elk : lk t = (mm n, nn n % 2) := by rw [hlk]; show (mm ((τ t).getD 0), _) = _; rw [en]; rfl
      have ky : KeyN H5 (.ref K2) (kk (lk t)) := by rw [elk]; exact kk_key (s75 _ _ h3)
      refine ⟨.ref K0, rfl, ⟨K0, xs, rfl, nd5⟩, .ref S, rfl, .str t, rfl, S, .ref (ta n), rfl, dg, ta n, _, 1, .ref K2, rfl, rfl, SqT.of (s75 _ _ h1), atI_nat (j := 1) rfl, (by show 0 ≤ sizeLine; decide), fun Z hZ => ?_⟩
      have sZ := same_new (o := .lst []) hZ
      have eZ : upd H5 Z (.lst []) Z = some (.lst []) := upd_same
      have hZ9 : H9 Z = none := by
        cases e : H9 Z with
        | none => rfl
        | some o =>
          by_cases z : Z = K0
          · rw [z, nd5.ob] at hZ; cases hZ
          · rw [st _ _ z e] at hZ; cases hZ
      have nZK : Z ≠ K0 := (ne_of_none nd5.ob hZ).symm
      have nd6 := nd_same nd5 sZ
      have gr6 := grn_stay (fun q ys e => sZ _ _ e) gr5
      have st6 : ∀ x o, x ≠ K0 → H9 x = some o → upd H5 Z (.lst []) x = some o := fun x o n e => sZ _ _ (st x o n e)
      have ky6 : KeyN (upd H5 Z (.lst [])) (.ref K2) (kk (lk t)) := ⟨nk_stay (Same.tups sZ) _ _ ky.1, ky.2.1, K2, rfl⟩
      have nZv : V.ref Z ∉ xs.map (·.2.2) := fun z => by
        obtain ⟨e, he, hz⟩ := List.mem_map.mp z
        obtain ⟨i, hi⟩ := List.mem_iff_getElem?.mp he
        obtain ⟨g, _, gz⟩ := awGet gr5 hi
        obtain ⟨q, b1, b2, _⟩ := gz.lst
        rw [hz] at b1
        obtain rfl := V.ref.inj b1
        rw [hZ] at b2
        cases b2
      generalize upd H5 Z (.lst []) = H6 at sZ eZ nd6 gr6 st6 ky6
      have nds : ((grpL lk (ys.take j)).map (·.1)).Nodup := (grp_ok lk (hup.sublist (List.take_sublist j ys))).nd
      refine ⟨K0, xs, kk (lk t), K2, .ref Z, rfl, rfl, nd6, ky6, by rw [sizeLine_eq]; omega, fun y hy => ?_, fun hno => ?_⟩
      · rcases grn_get (k := lk t) gr6 with ⟨a, _⟩ | ⟨i0, q, e0, g, a, b, b2, c', d', eq⟩
        · rw [a] at hy
          cases hy
        rw [a] at hy
        obtain rfl := Option.some.inj hy
        have gl := grp_few lk (ys.take j) g (List.mem_of_getElem? c')
        rw [List.length_take] at gl
        have hq9 : H9 q = none := by
          obtain ⟨g', hg', z⟩ := awGet gr6 b
          obtain ⟨q', f1, _, f3⟩ := z.lst
          rw [b2] at f1
          rw [V.ref.inj f1]
          exact f3
        have nqK : K0 ≠ q := ne_of nd6.ob eq (fun z => nomatch z)
        refine ⟨.inl ⟨rfl, _, .inl (.inl eq)⟩, .str t, rfl, q, _, .str t, rfl, rfl, eq, by rw [List.length_map]; exact small1000 (by omega), ?_⟩
        refine ⟨_, xs, rfl, nd_stay nd6 (by rw [upd_ne nqK]; exact nd6.ob) (fun x ys e => by rw [upd_ne (ne_of e eq (fun z => nomatch z))]; exact e), by omega, nv5, ?_, fun x o n e => ?_⟩
        · rw [tk, grpL_snoc]
          exact grn_old gr6 nds nv5 b b2 c' d'
        · rw [upd_ne (ne_of_none e hq9)]
          exact st6 x o n e
      · have np := nd_putA (v := .ref Z) nd6 ky6
        have eput : putN xs (kk (lk t)) K2 (.ref Z) = xs ++ [(kk (lk t), K2, .ref Z)] := by
          unfold putN
          rw [hno]
          rfl
        rw [eput] at np
        have eZ7 : upd H6 K0 (NDO P w K0 (xs ++ [(kk (lk t), K2, .ref Z)])) Z = some (.lst []) := by rw [upd_ne nZK]; exact eZ
        have gr7 : Paired (GrN (upd H6 K0 (NDO P w K0 (xs ++ [(kk (lk t), K2, .ref Z)]))) H9) xs (grpL lk (ys.take j)) := grn_stay (fun q ys e => by rw [upd_ne (ne_of e nd6.ob (fun z => nomatch z))]; exact e) gr6
        refine ⟨.inl ⟨rfl, _, .inl (.inl eZ7)⟩, .str t, rfl, Z, _, .str t, rfl, rfl, eZ7, (by show 0 < sizeLine; decide), ?_⟩
        have gno : ¬ ((grpL lk (ys.take j)).any fun g => decide (g.1 = lk t)) = true := fun z => by
          rcases grn_get (k := lk t) gr6 with ⟨_, b⟩ | ⟨i0, q, e0, g, a, _⟩
          · obtain ⟨g, h1, h2⟩ := List.any_eq_true.mp z
            exact b g h1 (of_decide_eq_true h2)
          · rw [a] at hno
            cases hno
        have nKZ : K0 ≠ Z := nZK.symm
        have st7 : ∀ x o, x ≠ K0 → H9 x = some o → upd H6 K0 (NDO P w K0 (xs ++ [(kk (lk t), K2, .ref Z)])) x = some o := fun x o n e => by
          rw [upd_ne n]
          exact st6 x o n e
        generalize upd H6 K0 (NDO P w K0 (xs ++ [(kk (lk t), K2, .ref Z)])) = HQ at np eZ7 gr7 st7
        refine ⟨_, _, rfl, nd_stay np (by rw [upd_ne nKZ]; exact np.ob) (fun x ys e => by rw [upd_ne (ne_of e eZ7 (fun z => nomatch z))]; exact e), by rw [List.length_append]; exact Nat.add_le_add_right l5 1, ?_, ?_, fun x o n e => ?_⟩
        · rw [List.map_append]
          refine List.nodup_append.mpr ⟨nv5, by simp, fun x hx y hy e => ?_⟩
          have hy : y ∈ [V.ref Z] := hy
          rw [List.mem_singleton.mp hy] at e
          exact nZv (e ▸ hx)
        · rw [tk, grpL_snoc]
          unfold addG
          rw [if_neg gno]
          refine awSnoc (F := GrN _ H9) (y := (lk t, [t])) ⟨rfl, Z, rfl, by rw [upd_same]; rfl, hZ9⟩ ?_
          refine awMap_mem7 gr7 fun e g he z => ?_
          obtain ⟨q, b1, b2, b3⟩ := z.lst
          refine ⟨z.key, q, b1, ?_, b3⟩
          have nq : q ≠ Z := fun y => nZv (List.mem_map.mpr ⟨e, he, by rw [b1, y]⟩)
          rw [upd_ne nq]
          exact b2
        · rw [upd_ne (ne_of_none e hZ9)]
          exact st7 x o n e
    obtain ⟨y4, xs, rfl, nd5, l5, nv5, gr5, st⟩ := hp
    rw [List.length_map, List.take_length] at gr5
    rw [List.length_map] at l5
    have s75 : ∀ x o, H7 x = some o → H5 x = some o := fun x o e => st x o (hK79 x o e) (s79 _ _ e)
    clear st sG ndG sN eLn nLG
    obtain ⟨gg, hgg⟩ : ∃ gg, gg = grpL lk ys := ⟨_, rfl⟩
    have gok := grp_ok lk hup
    have gfew := grp_few lk ys
    have glen := grpL_len lk ys
    rw [← hgg] at gr5 gok gfew glen
    have gl := awLen gr5
    obtain ⟨gs, hgs⟩ : ∃ gs : List Str, gs = gg.map fun g => Txt.join " " g.2 := ⟨_, rfl⟩
    have gb : ∀ g ∈ gg, (g.2.map (·.length)).sum + g.2.length * (" " : Str).length ≤ 640 ∧ 1 ≤ (Txt.join " " g.2).length := fun g hg => by
      have h8 : ∀ t ∈ g.2, t ∈ ys := fun t ht => (gok.has g hg t ht).1
      have := join_short (y := " ") (ys := g.2) (b := 8) (by rw [e1]; decide) fun t ht => nameS_len (ynm t (h8 t ht))
      have := gfew g hg
      exact ⟨by omega, join_pos (gok.full g hg) fun t ht => name_len (ynm t (h8 t ht))⟩
    have gsl : gs.length = gg.length := by rw [hgs, List.length_map]
    have gsb : ∀ t ∈ gs, t.length ≤ 640 ∧ 1 ≤ t.length := fun t ht => by
      rw [hgs] at ht
      obtain ⟨g, hg, rfl⟩ := List.mem_map.mp ht
      exact ⟨Nat.le_trans (join_len " " g.2) (gb g hg).1, (gb g hg).2⟩
    refine ⟨⟨_, rfl⟩, K0, _, nd5.ob, trivial, fun od => ?_⟩
    have eFz : upd H5 K0 (.frz od (NDO P w K0 xs)) K0 = some (.frz od (NDO P w K0 xs)) := upd_same
    have kF : ∀ x o, x ≠ K0 → H5 x = some o → upd H5 K0 (.frz od (NDO P w K0 xs)) x = some o := fun x o n e => by
      rw [upd_ne n]
      exact e
    have tF : TupsStay H5 (upd H5 K0 (.frz od (NDO P w K0 xs))) := fun x ys e => kF x _ (ne_of e nd5.ob (fun z => nomatch z)) e
    have ndF : NDR P w (upd H5 K0 (.frz od (NDO P w K0 xs))) K0 xs := ⟨.inr ⟨od, eFz⟩, fun p hp => ⟨nk_stay tF _ _ (nd5.ks p hp).1, (nd5.ks p hp).2⟩⟩
    have grF := grn_stay (fun q ys e => kF q _ (ne_of e nd5.ob (fun z => nomatch z)) e) gr5
    have h5F : ∀ x o, x ≠ K0 → H5 x = some o → upd H5 K0 (.frz od (NDO P w K0 xs)) x = some o := kF
    have hold := nd5.ob
    generalize upd H5 K0 (.frz od (NDO P w K0 xs)) = HF at eFz kF tF ndF grF
    refine ⟨.ref K0, rfl, K0, od, xs, rfl, eFz, fun W hW => ?_⟩
    have nWK : W ≠ K0 := (ne_of_none eFz hW).symm
    refine lc_it walk_N (fun i H6 => H6 W = some (.lst ((gs.take i).map V.str)) ∧ Same HF H6) ⟨upd_same, same_new hW⟩ (fun i H6 _ h6 => h6.2 _ _ eFz) (fun i x H6 H7' hi h6 hy => ?_) (fun H6 h6 => ?_)
    · obtain ⟨eW, s6⟩ := h6
      obtain ⟨rfl, e, he, rfl⟩ := hy
      obtain ⟨g, hg, gz⟩ := awGet grF he
      obtain ⟨q, b1, b2, _⟩ := gz.lst
      have gm := List.mem_of_getElem? hg
      have em := List.mem_of_getElem? he
      have hget : getN xs e.1 = some (.ref q) := by
        rw [gz.key]
        rcases grn_get (k := g.1) grF with ⟨_, b⟩ | ⟨i0, q0, e0, g0, a, b, b3, c', d', _⟩
        · exact absurd rfl (b g gm)
        · have ii : i = i0 := nd_idx gok.nd (x := g.1) (by rw [List.getElem?_map, hg]; rfl) (by rw [List.getElem?_map, c']; exact congrArg some d')
          subst ii
          rw [he] at b
          obtain rfl := Option.some.inj b
          rw [a, ← b3, b1]
      have ndF6 : NDR P w H7' K0 xs := ⟨.inr ⟨od, s6 _ _ eFz⟩, fun p hp => ⟨nk_stay (Same.tups s6) _ _ (ndF.ks p hp).1, (ndF.ks p hp).2⟩⟩
      have bnd : (g.2.map (·.length)).sum + g.2.length * (" " : Str).length ≤ 16777216 := Nat.le_trans (gb g gm).1 (by decide)
      have hgi : gs[i]? = some (Txt.join " " g.2) := by rw [hgs, List.getElem?_map, hg]; rfl
      refine ⟨rfl, ⟨_, rfl⟩, .ref K0, rfl, .ref e.2.1, rfl, K0, xs, e.1, .ref q, rfl, ndF6, ⟨(ndF6.ks e em).1, (ndF6.ks e em).2, _, rfl⟩, hget, " ", q, g.2, rfl, rfl, .inl (.inl (.inl (s6 _ _ b2))), bnd, ?_⟩
      refine ⟨_, eW, by rw [List.length_map, List.length_take, sizeLine_eq]; omega, ?_, fun x o z => by rw [upd_ne (ne_of_none z hW)]; exact s6 _ _ z⟩
      rw [upd_same, List.take_add_one, hgi, List.map_append]
      rfl
    obtain ⟨eW, s6⟩ := h6
    rw [show gs.take xs.length = gs from List.take_of_length_le (by omega)] at eW
    refine ⟨s6 _ _ eFz, ?_⟩
    have k8 : ∀ x o, x ≠ K0 → H5 x = some o → upd H6 K0 (NDO P w K0 xs) x = some o := fun x o n e => by
      rw [upd_ne n]
      exact s6 _ _ (kF x o n e)
    have eW8 : upd H6 K0 (NDO P w K0 xs) W = some (.lst (gs.map V.str)) := by rw [upd_ne nWK]; exact eW
    have nd8 : ND P w (upd H6 K0 (NDO P w K0 xs)) K0 xs := nd_stay nd5 upd_same (fun x ys e => k8 x _ (ne_of e nd5.ob (fun z => nomatch z)) e)
    have s78 : ∀ x o, H7 x = some o → upd H6 K0 (NDO P w K0 xs) x = some o := fun x o e => k8 x o (hK79 x o e) (s75 x o e)
    generalize upd H6 K0 (NDO P w K0 xs) = HJ at eW8 nd8 s78
    clear k8 eW s6 kF tF ndF grF h5F eFz
    refine ⟨(by show 1 ≤ sizeLine; decide), fun Z hZ => ?_⟩
    have s2 := same_new (o := .lst [V.str "none"]) hZ
    have eZ : upd HJ Z (.lst [V.str "none"]) Z = some (.lst [V.str "none"]) := upd_same
    generalize upd HJ Z (.lst [V.str "none"]) = H2 at s2 eZ
    refine ⟨.ref K0, rfl, fun Ed hEd => ?_⟩
    have s3 := same_new (o := .dK []) hEd
    have eE : upd H2 Ed (.dK []) Ed = some (.dK []) := upd_same
    generalize upd H2 Ed (.dK []) = H3 at s3 eE
    have s03 := s2.trans s3
    refine ⟨K0, Ed, rfl, rfl, eE, .inr ⟨xs, nd_same nd8 s03, .inr ⟨_, rfl, ?_⟩⟩⟩
    have eb2 : xs.isEmpty = gs.isEmpty := by
      have : xs.length = gs.length := by omega
      cases hx : xs with
      | nil =>
        rw [hx] at this
        have : gs = [] := List.length_eq_zero_iff.mp this.symm
        rw [this]
        rfl
      | cons x l =>
        rw [hx] at this
        cases gs with
        | nil => simp at this
        | cons _ _ => rfl
    refine ⟨Z, _, _, rfl, rfl, s3 _ _ eZ, by split <;> omega, by split <;> omega, by split <;> decide, fun R hR => ?_⟩
    have s4 := same_new (o := .lst (List.replicate (if xs.isEmpty = true then (1 : Int) else 0).toNat [V.str "none"]).flatten) hR
    refine ⟨W, R, _, _, rfl, rfl, s4 _ _ (s03 _ _ eW8), upd_same, ?_, fun X hX => ?_⟩
    · have := noneL_len (ys := gs)
      rw [← List.length_append, none_cat eb2, List.length_map, sizeLine_eq]
      omega
    rw [none_cat eb2]
    have s5 := same_new (o := .lst ((noneL gs).map V.str)) hX
    have s05 := s03.trans (s4.trans s5)
    have eX := upd_same (H := upd H3 R (.lst (List.replicate (if xs.isEmpty = true then (1 : Int) else 0).toNat [V.str "none"]).flatten)) (a := X) (o := .lst ((noneL gs).map V.str))
    generalize upd (upd H3 R (.lst (List.replicate (if xs.isEmpty = true then (1 : Int) else 0).toNat [V.str "none"]).flatten)) X (.lst ((noneL gs).map V.str)) = H10 at s05 eX
    have nb : ((noneL gs).map (·.length)).sum + (noneL gs).length * (", " : Str).length ≤ 16777216 := by
      have := join_short (y := ", ") (ys := noneL gs) (b := 640) (by rw [e2]; decide) (noneL_all (by decide) fun t ht => (gsb t ht).1)
      have := noneL_len (ys := gs)
      omega
    refine ⟨", ", X, noneL gs, rfl, rfl, .inl (.inl (.inl eX)), nb, ?_⟩
    have s710 : Same H7 H10 := fun x o e => s05 _ _ (s78 x o e)
    have bd10 := bd7.same s710
    obtain ⟨dx9, hd9⟩ := id bd10.dk
    refine ⟨.ref d, rfl, .str (Txt.join ", " (noneL gs)), rfl, d, p, dx9, "kinds", "kinds", [], "", _, rfl, hd9, by decide +kernel, said_0 (by decide +kernel) (by decide +kernel), fun H11 L6 s11 hL6 eL6 => ?_⟩
    rw [ans_kinds]
    have bd11 := bd10.same s11
    have hrows : ∀ t ∈ kb, RwAt H11 (ba ((τ t).getD 0)) (sR mm nn ((τ t).getD 0)) ∧ RwOk (sR mm nn ((τ t).getD 0)) := fun t ht => by
      have := (bd.kb.mem t).mp ht
      cases e : τ t with
      | none => rw [e] at this; cases this
      | some n => exact bd11.rw n (bd.rg t n e).2
    refine ⟨p, Kd, Dn, Lk, L6, _, kb, (fun t => ba ((τ t).getD 0)), (fun t => sR mm nn ((τ t).getD 0)), 64, rfl, bd11.bk, bd11.lk, bd.kb.nd, by omega, (fun t ht => nameS_len (hnm t (inN bd.kb t ht))), hrows, fun H12 D ys2 lab p2 up2 hlab bk12 lk12 hD keep => ?_⟩
    obtain rfl : ys = ys2 := up_uniq (ykb.trans p2.symm) hup up2
    have same : (grpL (fun t => lookK (sR mm nn ((τ t).getD 0)).m.toNat (lab t)) ys).map (·.2) = gg.map (·.2) := by
      rw [hgg]
      refine grp_same fun s hs t ht => ?_
      have hsk := ykb.mem_iff.mp hs
      have htk := ykb.mem_iff.mp ht
      rw [look_alk (hrows s hsk).2 (hrows t htk).2 (hlab s hsk) (hlab t htk), hlk]
      have num : ∀ t ∈ kb, (mm ((τ t).getD 0) = 1 ∨ mm ((τ t).getD 0) = 2) ∧ nn ((τ t).getD 0) < 4 := fun t ht => by
        have := (bd.kb.mem t).mp ht
        cases e : τ t with
        | none => rw [e] at this; cases this
        | some n => exact ⟨(ls.sim n (bd.rg t n e).2).hm, (ls.sim n (bd.rg t n e).2).hn⟩
      rw [sim_alk (num s hsk).1 (num s hsk).2 (num t htk).2]
      constructor
      · rintro ⟨a, b⟩
        exact Prod.ext a b
      · intro z
        exact ⟨congrArg Prod.fst z, congrArg Prod.snd z⟩
    have npd : d ≠ p := by
      obtain ⟨dxp, obp⟩ := bd11.bk.ob
      intro z
      have hd11 := s11 _ _ hd9
      rw [z, obp] at hd11
      injection hd11 with hd11
      injection hd11 with _ _ h3
      have h4 := congrArg (List.lookup ("kept" : Str)) h3
      rw [bF_kept, dF_no _ (by decide +kernel)] at h4
      cases h4
    have tt : TupsStay H11 H12 := fun x ys e => by
      obtain ⟨dxp, obp⟩ := bd11.bk.ob
      exact keep x _ (ne_of e obp (fun z => nomatch z)) e
    refine ⟨?_, qq H12 D ⟨⟨dx9, keep _ _ npd (s11 _ _ hd9)⟩, bk12, lk12, bd.kb, bd.rg, bd.pr, fun n hn => ⟨tt.row (bd11.rw n hn).1, (bd11.rw n hn).2⟩⟩ fun x o n e => keep x o n (s11 _ _ (s710 _ _ (s07 _ _ e)))⟩
    rw [same]
    unfold kindsS
    rw [show (gg.map (·.2)).map (fun g => Txt.join " " g) = gs by rw [hgs, List.map_map]; rfl]
    exact congrArg V.str (join_noneL fun t ht => (gsb t ht).2)
def oA (ta : Nat → Addr) : Option Nat → V
  | some n => .ref (ta n)
  | none => .non
structure Ap82 (wa wc Dn Nm Pa S Kd : Addr) : Prop where
  Da : Dn ≠ wa
  Dc : Dn ≠ wc
  Na : Nm ≠ wa
  Nc : Nm ≠ wc
  ND : Nm ≠ Dn
  Pwa : Pa ≠ wa
  Pwc : Pa ≠ wc
  PD : Pa ≠ Dn
  PN : Pa ≠ Nm
  SK : S ≠ Kd
def undR : List Ev → Tau → Tau
  | [], τ => τ
  | e :: r, τ => undR r (setT τ e.1 e.2)
def und (past : List Ev) (τ : Tau) : Tau := undR past.reverse τ
theorem und_snoc (past : List Ev) (e : Ev) (τ : Tau) : und (past ++ [e]) τ = und past (setT τ e.1 e.2) := by
  unfold und
  rw [List.reverse_append]
  rfl
structure W82 (P : Program) (w : World) (C CD : Addr) (wa wc d p Kd Dn Lk S Pa Nm : Addr) (H : Hp) (nms : List Str) (c : Nat) (ta ba : Nat → Addr) (mm nn : Nat → Nat) (τ : Tau) (ks kb : List Str) (past : List Ev) : Prop where
  bd : BD P w C CD H d p Kd Dn Lk nms c ba (sR mm nn) τ kb past
  ls : LS82 H S nms c ta mm nn τ ks
  pa : ∃ ps, H Pa = some (.lst (ps.map V.ref)) ∧ Paired (fun (a : Addr) (e : Ev) => H a = some (.tup [.str e.1, oA ta e.2])) ps past
  hi : HistOk past τ
  nm : H Nm = some (.lst (nms.map V.str))
  wl : WL H wa wc
  un : und past τ = fun _ => none
theorem sR_ex (mm nn : Nat → Nat) (c m n : Nat) : exF (sR mm nn) c (simR m n) = sR (exF mm c m) (exF nn c n) := by
  funext k
  by_cases h : k = c
  · subst h
    rw [exF_at]
    show _ = simR (exF mm k m k) (exF nn k n k)
    rw [exF_at, exF_at]
  · have e : ∀ {β : Type} (f : Nat → β) (x : β), exF f c x k = f k := fun f x => if_neg h
    show exF (sR mm nn) c (simR m n) k = simR (exF mm c m k) (exF nn c n k)
    rw [e, e, e]
theorem awMap_m2 {α β : Type} {F G : α → β → Prop} : ∀ {l : List α} {k : List β}, Paired F l k → (∀ x y, y ∈ k → F x y → G x y) → Paired G l k
  | _, _, .nil, _ => .nil
  | _, _, .cons h t, f => .cons (f _ _ List.mem_cons_self h) (awMap_m2 t fun x y hy => f x y (List.mem_cons_of_mem _ hy))
theorem oA_ex {ta : Nat → Addr} {c : Nat} {T : Addr} {o : Option Nat} (h : ∀ n, o = some n → n < c) : oA (exF ta c T) o = oA ta o := by
  cases o with
  | none => rfl
  | some n =>
    show V.ref (exF ta c T n) = V.ref (ta n)
    rw [exF_lt ta T (h n rfl)]
section w82
variable {C CD wa wc d p Kd Dn Lk S Pa Nm : Addr} {H H' : Hp} {nms : List Str} {c : Nat} {ta ba : Nat → Addr} {mm nn : Nat → Nat} {τ : Tau} {ks kb : List Str} {past : List Ev}
/-- the places of a desk are none of those that the law changes -/
theorem W82.far (h : W82 P w C CD wa wc d p Kd Dn Lk S Pa Nm H nms c ta ba mm nn τ ks kb past) (ap : Ap82 wa wc Dn Nm Pa S Kd) : ∀ x, (x = d ∨ x = p ∨ x = Kd ∨ x = Dn ∨ x = Lk) → x ≠ wa ∧ x ≠ wc ∧ x ≠ Pa ∧ x ≠ S := fun x hx => by
  obtain ⟨dx, hd⟩ := id h.bd.dk
  obtain ⟨dxp, hp⟩ := id h.bd.bk.ob
  obtain ⟨lx, ndL, _, _⟩ := id h.bd.lk
  obtain ⟨ts, eD, _⟩ := id h.bd.bk.done
  obtain ⟨ps, ePa, _⟩ := id h.pa
  obtain ⟨_, cs, r, s, ea, ec⟩ := id h.wl
  rcases hx with rfl | rfl | rfl | rfl | rfl
  · exact ⟨ne_of hd ea (fun z => nomatch z), ne_of hd ec (fun z => nomatch z), ne_of hd ePa (fun z => nomatch z), ne_of hd h.ls.st (fun z => nomatch z)⟩
  · exact ⟨ne_of hp ea (fun z => nomatch z), ne_of hp ec (fun z => nomatch z), ne_of hp ePa (fun z => nomatch z), ne_of hp h.ls.st (fun z => nomatch z)⟩
  · exact ⟨ne_of h.bd.bk.kept ea (fun z => nomatch z), ne_of h.bd.bk.kept ec (fun z => nomatch z), ne_of h.bd.bk.kept ePa (fun z => nomatch z), ap.SK.symm⟩
  · exact ⟨ap.Da, ap.Dc, ap.PD.symm, ne_of eD h.ls.st (fun z => nomatch z)⟩
  · exact ⟨ne_of ndL.ob ea (fun z => nomatch z), ne_of ndL.ob ec (fun z => nomatch z), ne_of ndL.ob ePa (fun z => nomatch z), ne_of ndL.ob h.ls.st (fun z => nomatch z)⟩
theorem W82.tell {H3 H4 : Hp} {t : Str} {T Z : Addr} {m n : Nat} {ps : List Addr} {U : Addr} (h : W82 P w C CD wa wc d p Kd Dn Lk S Pa Nm H nms c ta ba mm nn τ ks kb past) (ap : Ap82 wa wc Dn Nm Pa S Kd) (ht : t ∈ nms)
    (k3 : ∀ x o, x ≠ wa → x ≠ wc → x ≠ Pa → x ≠ S → H x = some o → H3 x = some o) (w3 : WL H3 wa wc) (ePa : H3 Pa = some (.lst ((ps ++ [U]).map V.ref))) (hps : Paired (fun (a : Addr) (e : Ev) => H a = some (.tup [.str e.1, oA ta e.2])) ps past) (eU : H3 U = some (.tup [.str t, oA ta (τ t)]))
    (eS : H3 S = some (.dK (putK (kvE (gE (gR ta) τ) ks) (Sum.inr t) (.ref T)))) (sT : SimT H3 T m n) (hZ : RwAt H4 Z (simR m n))
    (bk : BkAt C H4 p Kd Dn Lk (putK (kvE (gE (gR ba) τ) kb) (Sum.inr t) (.ref Z)) (past.map (dnB ba) ++ [(t, (τ t).map ba)])) (kp : KpB p Kd Dn H3 H4) :
    W82 P w C CD wa wc d p Kd Dn Lk S Pa Nm H4 nms (c + 1) (exF ta c T) (exF ba c Z) (exF mm c m) (exF nn c n) (setT τ t (some c)) (keysPut ks t) (keysPut kb t) (past ++ [(t, τ t)]) := by
  have far := h.far ap
  obtain ⟨_, cs, r, s, ea, ec⟩ := id h.wl
  obtain ⟨ps0, ePa0, _⟩ := id h.pa
  have t3 : TupsStay H H3 := fun x xs e => k3 x _ (ne_of e ea (fun z => nomatch z)) (ne_of e ec (fun z => nomatch z)) (ne_of e ePa0 (fun z => nomatch z)) (ne_of e h.ls.st (fun z => nomatch z)) e
  have bd3 := h.bd.stay (H' := H3) (fun x o hx e => by
    obtain ⟨a1, a2, a3, a4⟩ := far x hx
    exact k3 x o a1 a2 a3 a4 e) t3
  obtain ⟨t4, _, _⟩ := bd3.kpb kp
  obtain ⟨ts, eD, _⟩ := id bd3.bk.done
  have k4 : ∀ x o, x ≠ Kd → x ≠ Dn → H3 x = some o → H4 x = some o := fun x o n1 n2 e => kp x o n1 n2 e
  have bd4 := bd3.tell ht hZ (sim_ok sT.hm sT.hn) bk kp
  rw [sR_ex] at bd4
  have rg := h.bd.rg
  obtain ⟨n0, cs3, r3, s3, ea3, ec3⟩ := id w3
  refine ⟨bd4, ⟨?_, h.ls.ks.put t c, fun k hk => ?_⟩, ⟨ps ++ [U], k4 _ _ (ne_of ePa bd3.bk.kept (fun z => nomatch z)) ap.PD ePa, ?_⟩, ?_, ?_, ⟨n0, cs3, r3, s3, k4 _ _ (ne_of ea3 bd3.bk.kept (fun z => nomatch z)) ap.Da.symm ea3, k4 _ _ (ne_of ec3 bd3.bk.kept (fun z => nomatch z)) ap.Dc.symm ec3⟩, by rw [und_snoc, setT_set, setT_self]; exact h.un⟩
  · have e1 : putK (kvE (gE (gR ta) τ) ks) (Sum.inr t) (.ref T) = kvE (gE (gR (exF ta c T)) (setT τ t (some c))) (keysPut ks t) := by
      have := kd_put (gR (exF ta c T)) τ ks t c
      rw [gE_ex rg h.ls.ks] at this
      rw [← this]
      show _ = putK _ _ (V.ref (exF ta c T c))
      rw [exF_at]
    rw [← e1]
    exact k4 _ _ ap.SK (ne_of eS eD (fun z => nomatch z)) eS
  · by_cases e : k = c
    · subst e
      rw [exF_at, exF_at, exF_at]
      exact sT.tups t4
    · rw [exF_lt ta T (by omega), exF_lt mm m (by omega), exF_lt nn n (by omega)]
      exact ((h.ls.sim k (by omega)).tups t3).tups t4
  · have hpr := h.bd.pr
    refine awSnoc (F := fun (a : Addr) (e : Ev) => H4 a = some (.tup [.str e.1, oA (exF ta c T) e.2])) (y := (t, τ t)) ?_ ?_
    · show H4 U = some (.tup [.str t, oA (exF ta c T) (τ t)])
      rw [oA_ex fun k hk => (rg t k hk).2]
      exact t4 _ _ eU
    · refine awMap_m2 hps fun x e he z => ?_
      show H4 x = some (.tup [.str e.1, oA (exF ta c T) e.2])
      rw [oA_ex (hpr e he).2]
      exact t4 _ _ (t3 _ _ z)
  · rw [hist_snoc]
    refine ⟨fun _ => by rw [setT_at]; rfl, ?_⟩
    rw [setT_set, setT_self]
    exact h.hi
  · exact k4 _ _ (ne_of (k3 _ _ ap.Na ap.Nc ap.PN.symm (ne_of h.nm h.ls.st (fun z => nomatch z)) h.nm) bd3.bk.kept (fun z => nomatch z)) ap.ND (k3 _ _ ap.Na ap.Nc ap.PN.symm (ne_of h.nm h.ls.st (fun z => nomatch z)) h.nm)
theorem W82.kp (h : W82 P w C CD wa wc d p Kd Dn Lk S Pa Nm H nms c ta ba mm nn τ ks kb past) (ap : Ap82 wa wc Dn Nm Pa S Kd) (k : Kp wa wc H H') (w' : WL H' wa wc) : W82 P w C CD wa wc d p Kd Dn Lk S Pa Nm H' nms c ta ba mm nn τ ks kb past := by
  have far := h.far ap
  obtain ⟨_, cs, r, s, ea, ec⟩ := id h.wl
  obtain ⟨ps, e1, e2⟩ := id h.pa
  have tt := k.tups h.wl
  refine ⟨h.bd.stay (fun x o hx e => ?_) tt, ⟨k _ _ (ne_of h.ls.st ea (fun z => nomatch z)) (ne_of h.ls.st ec (fun z => nomatch z)) h.ls.st, h.ls.ks, fun n hn => (h.ls.sim n hn).tups tt⟩, ⟨ps, k _ _ ap.Pwa ap.Pwc e1, awMap (fun _ _ z => tt _ _ z) e2⟩, h.hi, k _ _ ap.Na ap.Nc h.nm, w', h.un⟩
  obtain ⟨a1, a2, _, _⟩ := far x hx
  exact k x o a1 a2 e
/-- what is said where a row is told -/
theorem W82.said {H3 H7 : Hp} {t : Str} {T : Addr} {m n : Nat} {ps : List Addr} {U : Addr} {Q : VK} (h : W82 P w C CD wa wc d p Kd Dn Lk S Pa Nm H nms c ta ba mm nn τ ks kb past) (ap : Ap82 wa wc Dn Nm Pa S Kd) (ht : t ∈ nms) (hnt : nameS t = true) (pl : past.length ≤ 3000) (nl : nms.length ≤ 60)
    (k3 : ∀ x o, x ≠ wa → x ≠ wc → x ≠ Pa → x ≠ S → H x = some o → H3 x = some o) (w3 : WL H3 wa wc) (ePa : H3 Pa = some (.lst ((ps ++ [U]).map V.ref))) (hps : Paired (fun (a : Addr) (e : Ev) => H a = some (.tup [.str e.1, oA ta e.2])) ps past) (eU : H3 U = some (.tup [.str t, oA ta (τ t)]))
    (eS : H3 S = some (.dK (putK (kvE (gE (gR ta) τ) ks) (Sum.inr t) (.ref T)))) (sT : SimT H3 T m n) (s37 : Same H3 H7)
    (q : ∀ H4 Z, W82 P w C CD wa wc d p Kd Dn Lk S Pa Nm H4 nms (c + 1) (exF ta c T) (exF ba c Z) (exF mm c m) (exF nn c n) (setT τ t (some c)) (keysPut ks t) (keysPut kb t) (past ++ [(t, τ t)]) → Q (.bl true) H4) :
    spSd P w C CD usedL [.ref d, .str ("tell " ++ t ++ " " ++ rowS (simR m n).m (simR m n).ds (simR m n).o), .str "ok"] H7 Q E0 := by
  have far := h.far ap
  obtain ⟨_, cs, r, s, ea, ec⟩ := id h.wl
  obtain ⟨ps0, ePa0, _⟩ := id h.pa
  have t3 : TupsStay H H3 := fun x xs e => k3 x _ (ne_of e ea (fun z => nomatch z)) (ne_of e ec (fun z => nomatch z)) (ne_of e ePa0 (fun z => nomatch z)) (ne_of e h.ls.st (fun z => nomatch z)) e
  have bd3 := h.bd.stay (H' := H3) (fun x o hx e => by
    obtain ⟨a1, a2, a3, a4⟩ := far x hx
    exact k3 x o a1 a2 a3 a4 e) t3
  have bd7 := bd3.same s37
  obtain ⟨dx, hd⟩ := id bd7.dk
  obtain ⟨ws, hs, hj, hb⟩ := said_tell hnt (sim_ok sT.hm sT.hn)
  have kbl := h.bd.rg.few h.bd.kb
  refine ⟨d, p, dx, _, "tell", t :: ws, "NAME TEXT", "ok", rfl, hd, by decide +kernel, hs, fun H8 L8 s8 hL8 eL8 => ?_⟩
  rw [ans_tell]
  have bd8 := bd7.same s8
  refine ⟨p, Kd, Dn, Lk, L8, _, _, t, ws, (τ t).map ba, simR m n, rfl, bd8.bk, by rw [List.length_map]; omega, by rw [kvE_len]; omega, hnt, eL8, hj, hb, sim_ok sT.hm sT.hn, h.bd.val t, fun H9 Z hZ bk9 kp9 => ⟨rfl, q H9 Z ?_⟩⟩
  exact h.tell ap ht k3 w3 ePa hps eU eS sT hZ bk9 fun x o n1 n2 e => kp9 x o n1 n2 (s8 _ _ (s37 _ _ e))
end w82
def spLg82 (P : Program) (w : World) (C CD : Addr) : Sp := fun vs H Q _ => ∃ (wa wc d p Kd Dn Lk S Pa Nm : Addr) (nms : List Str) (c : Nat) (ta ba : Nat → Addr) (mm nn : Nat → Nat) (τ : Tau) (ks kb : List Str) (past : List Ev), vs = [.ref wa, .ref d, .ref Nm, .ref S, .ref Pa] ∧ Ap82 wa wc Dn Nm Pa S Kd ∧ 2 ≤ nms.length ∧ nms.length ≤ 60 ∧ (∀ t ∈ nms, nameS t = true) ∧ past.length ≤ 1000 ∧ W82 P w C CD wa wc d p Kd Dn Lk S Pa Nm H nms c ta ba mm nn τ ks kb past ∧
  ∀ (H' : Hp) (c : Nat) (ta ba : Nat → Addr) (mm nn : Nat → Nat) (τ : Tau) (ks kb : List Str) (past' : List Ev), W82 P w C CD wa wc d p Kd Dn Lk S Pa Nm H' nms c ta ba mm nn τ ks kb past' → past'.length ≤ past.length + 200 → Q (.bl true) H'
set_option maxHeartbeats 800000 in
theorem ok_lg82 {f fD fS fSi fT C CD : Addr} {fd fdD fdS fdSi fdT : FuncData} {k : Nat} (F : Fun K "_law_told_long" "_law_told_long" s_law_told_long f fd)
    (GD : FnOk P w K mg base CX0 (k + 1) fD fdD ["well", "many"] spDraw) (kD : PySem.W.keepIn K (.ref fD) = true) (bD : Binds K fdD ["well", "many"] []) (gD : mg "_law_draw" = some (.ref fD))
    (GSi : FnOk P w K mg base CX0 (k + 2) fSi fdSi ["well"] spSi) (kSi : PySem.W.keepIn K (.ref fSi) = true) (bSi : Binds K fdSi ["well"] []) (gSi : mg "_law_simple" = some (.ref fSi))
    (GT : FnOk P w K mg base CX0 (k + 1) fT fdT ["row"] spShow) (kT : PySem.W.keepIn K (.ref fT) = true) (bT : Binds K fdT ["row"] []) (gT : mg "_law_text" = some (.ref fT))
    (GS : FnOk P w K mg base CX0 (k + 11) fS fdS ["desk", "row", "due"] (spSd P w C CD usedL)) (kS : PySem.W.keepIn K (.ref fS) = true) (bS : Binds K fdS ["desk", "row", "due"] []) (gS : mg "_law_said" = some (.ref fS))
    (mr : mg "range" = none) : FnOk P w K mg base CX0 (k + 12) f fd ["well", "desk", "names", "state", "past"] (spLg82 P w C CD) := by
  refine F.ok sc_law_told_long (fun vs H Q E h => ?_) (fun cdv A outer s H vs Q E hr h => ?_)
  · obtain ⟨wa, wc, d, p, Kd, Dn, Lk, S, Pa, Nm, nms, c, ta, ba, mm, nn, τ, ks, kb, past, rfl, _⟩ := h
    rfl
  · obtain ⟨wa, wc, d, p, Kd, Dn, Lk, S, Pa, Nm, nms, c, ta, ba, mm, nn, τ, ks, kb, past, rfl, ap, n2, n60, hnm, pl, h82, qq⟩ := h
    have hu := hu_of hr
    have R1 := hr.mono (show k + 1 ≤ k + 11 by omega)
    have R2 := hr.mono (show k + 2 ≤ k + 11 by omega)
    refine ⟨_, pss_cons (ps_for PassesOwn.never rfl (pi_range1 (by rfl) mr (pa_cons (pe_op op_add pe_int (pe_call GD R1 (by rfl) gD kD bD .nil pass0 (pa_cons (pv 0) (pa_cons pe_int pa_nil)))) pa_nil)) (pg_name (i := 5) sc_law_told_long.nd rfl (.inl rfl))
        (pss_cons (ps_set (i := 6) sc_law_told_long.nd rfl (.inl rfl) (pe_ix ix_list (pv 2) (pe_op op_mod (pv 5) pe_int) (fun _ _ => rfl)))
        (pss_cons (ps_expr (pe_bm PySem.F.plainAttrs_list PySem.F.slot_list_append PySem.F.type_list_append mt_append (pv 4) (pa_cons (pe_tup (pa_cons (pv 6) (pa_cons (pe_dget1 hu (pv 3) (pv 6) ⟨rfl, rfl, rfl, rfl⟩) pa_nil))) pa_nil)))
        (pss_cons (ps_dput hu (pv 3) (pv 6) (pe_call GSi R2 (by rfl) gSi kSi bSi .nil pass0 (pa_cons (pv 0) pa_nil)) rfl)
        (pss_one (ps_if (pt_not (pt_val (pe_call GS hr (by rfl) gS kS bS .nil pass0 (pa_cons (pv 1) (pa_cons (pe_op op_add_str (pe_op op_add_str (pe_op op_add_str pe_str (pv 6)) pe_str) (pe_call GT R1 (by rfl) gT kT bT .nil pass0 (pa_cons (pe_ix ix_tup (pe_dget hu (pv 3) (pv 6) (fun _ _ => rfl)) pe_int (fun _ _ => rfl)) pa_nil))) (pa_cons pe_str pa_nil)))))) (pss_one (ps_ret pe_bl)) pss_nil))))))
      (pss_one (ps_ret pe_bl)), ?_⟩
    refine ⟨.ref wa, rfl, wa, wc, 60, rfl, by decide, by decide, h82.wl, fun H1 z z0 z1 w1 k1 => ⟨100, z, rfl, rfl, 100 + z, rfl, by omega, by omega, ?_⟩⟩
    have h1 := h82.kp ap k1 w1
    have nm0 : 0 < nms.length := by omega
    refine for_range (lo := 0) (n := (100 + z).toNat) (fun i σ H5 => ∃ (y5 y6 : Option V) (c : Nat) (ta ba : Nat → Addr) (mm nn : Nat → Nat) (τ : Tau) (ks kb : List Str) (past' : List Ev), σ = [some (.ref wa), some (.ref d), some (.ref Nm), some (.ref S), some (.ref Pa), y5, y6] ∧ W82 P w C CD wa wc d p Kd Dn Lk S Pa Nm H5 nms c ta ba mm nn τ ks kb past' ∧ past'.length ≤ past.length + i)
      ⟨none, none, c, ta, ba, mm, nn, τ, ks, kb, past, rfl, h1, Nat.le_refl _⟩ (fun i σ H5 hi hp => ?_) (fun σ H5 hp => ?_)
    · obtain ⟨y5, y6, c, ta, ba, mm, nn, τ, ks, kb, past', rfl, h5, pl5⟩ := hp
      have hj : i % 2 < nms.length := by omega
      obtain ⟨t, ht⟩ : ∃ t, nms[i % 2]? = some t := ⟨_, List.getElem?_eq_getElem hj⟩
      have tm := List.mem_of_getElem? ht
      have ati : atI (nms.map V.str) ((0 + (i : Int)) % 2) = some (.str t) := by
        rw [show (0 + (i : Int)) % 2 = ((i % 2 : Nat) : Int) by omega]
        exact atI_nat (by rw [List.getElem?_map, ht]; rfl)
      refine ⟨.ref Nm, rfl, .int (0 + (i : Int)), rfl, 0 + (i : Int), 2, rfl, rfl, (by show (0 : Int) < 2; decide), Nm, _, _, .str t, rfl, rfl, .inl (.inl h5.nm), ati, ?_⟩
      obtain ⟨ps, ePa, hps⟩ := id h5.pa
      have dg : DGet H5 S (.str t) ((τ t).map (gR ta)) := by
        have := DGet.k (k := Sum.inr t) h5.ls.st
        rw [kd_val h5.ls.ks] at this
        exact this
      have eo : ((τ t).map (gR ta)).getD .non = oA ta (τ t) := by
        cases τ t <;> rfl
      have psl := awLen hps
      have ksl := h5.bd.rg.few h5.ls.ks
      refine ⟨.ref Pa, rfl, .inl ⟨rfl, _, .inl (.inl ePa)⟩, .str t, rfl, .ref S, rfl, S, rfl, .inl ⟨_, .inl h5.ls.st⟩, .str t, rfl, _, dg, ?_⟩
      rw [eo]
      refine ⟨(by show 2 ≤ sizeLine; decide), fun U hU => ?_⟩
      have sU := same_new (o := .tup [.str t, oA ta (τ t)]) hU
      refine ⟨Pa, _, .ref U, rfl, rfl, sU _ _ ePa, by rw [List.length_map, sizeLine_eq]; omega, ?_⟩
      have nUP : U ≠ Pa := (ne_of_none ePa hU).symm
      have k2 : ∀ x o, x ≠ Pa → H5 x = some o → upd (upd H5 U (.tup [.str t, oA ta (τ t)])) Pa (.lst (ps.map V.ref ++ [.ref U])) x = some o := fun x o n e => by
        rw [upd_ne n]
        exact sU _ _ e
      have eP2 : upd (upd H5 U (.tup [.str t, oA ta (τ t)])) Pa (.lst (ps.map V.ref ++ [.ref U])) Pa = some (.lst ((ps ++ [U]).map V.ref)) := by
        rw [upd_same, List.map_append]
        rfl
      have eU2 : upd (upd H5 U (.tup [.str t, oA ta (τ t)])) Pa (.lst (ps.map V.ref ++ [.ref U])) U = some (.tup [.str t, oA ta (τ t)]) := by
        rw [upd_ne nUP]
        exact upd_same
      have w2 : WL (upd (upd H5 U (.tup [.str t, oA ta (τ t)])) Pa (.lst (ps.map V.ref ++ [.ref U]))) wa wc := (h5.wl.same sU).upd ap.Pwa ap.Pwc
      generalize upd (upd H5 U (.tup [.str t, oA ta (τ t)])) Pa (.lst (ps.map V.ref ++ [.ref U])) = H6 at k2 eP2 eU2 w2
      refine ⟨.ref wa, rfl, wa, wc, rfl, w2, fun H7 T m n sT w7 k7 => ?_⟩
      obtain ⟨_, cs, r, s, ea, ec⟩ := id h5.wl
      have eS6 := k2 _ _ (ne_of h5.ls.st ePa (fun z => nomatch z)) h5.ls.st
      have nSa : S ≠ wa := ne_of h5.ls.st ea (fun z => nomatch z)
      have nSc : S ≠ wc := ne_of h5.ls.st ec (fun z => nomatch z)
      have eS7 := k7 _ _ nSa nSc eS6
      refine ⟨.ref S, rfl, .str t, rfl, S, _, rfl, DPut.k (k := Sum.inr t) eS7 (by rw [kvE_len, sizeLine_eq]; omega), ?_⟩
      have k3 : ∀ x o, x ≠ wa → x ≠ wc → x ≠ Pa → x ≠ S → H5 x = some o → upd H7 S (.dK (putK (kvE (gE (gR ta) τ) ks) (Sum.inr t) (.ref T))) x = some o := fun x o n1 n2 n3 n4 e => by
        rw [upd_ne n4]
        exact k7 _ _ n1 n2 (k2 _ _ n3 e)
      have tS : TupsStay H7 (upd H7 S (.dK (putK (kvE (gE (gR ta) τ) ks) (Sum.inr t) (.ref T)))) := fun x xs e => by
        rw [upd_ne (ne_of e eS7 (fun z => nomatch z))]
        exact e
      have eU7 : H7 U = some (.tup [.str t, oA ta (τ t)]) := k7.tup w2 eU2
      have eP3 : upd H7 S (.dK (putK (kvE (gE (gR ta) τ) ks) (Sum.inr t) (.ref T))) Pa = some (.lst ((ps ++ [U]).map V.ref)) := by
        rw [upd_ne (ne_of ePa h5.ls.st (fun z => nomatch z))]
        exact k7 _ _ ap.Pwa ap.Pwc eP2
      have eS3 : upd H7 S (.dK (putK (kvE (gE (gR ta) τ) ks) (Sum.inr t) (.ref T))) S = some (.dK (putK (kvE (gE (gR ta) τ) ks) (Sum.inr t) (.ref T))) := upd_same
      have w3 : WL (upd H7 S (.dK (putK (kvE (gE (gR ta) τ) ks) (Sum.inr t) (.ref T)))) wa wc := w7.upd nSa nSc
      have sT3 := sT.tups tS
      have eU3 := tS _ _ eU7
      generalize upd H7 S (.dK (putK (kvE (gE (gR ta) τ) ks) (Sum.inr t) (.ref T))) = H8 at k3 eP3 eS3 w3 sT3 eU3
      obtain ⟨R, K2, e1, e2, _⟩ := id sT3.at_
      have dg2 : DGet H8 S (.str t) (some (.ref T)) := by
        have := DGet.k (k := Sum.inr t) eS3
        rw [valV_put, if_pos rfl] at this
        exact this
      have hnt := hnm t tm
      have n8 := nameS_len hnt
      have rl : (rowS (m : Int) (simD m n) (simO m n)).length ≤ 300 := rowS_len (r := simR m n) (sim_ok sT3.hm sT3.hn)
      have e5 : ("tell " : Str).length = 5 := by decide +kernel
      have e6 : (" " : Str).length = 1 := by decide +kernel
      have al : ∀ x y : Str, (x ++ y).length = x.length + y.length := fun x y => by
        rw [TL.len_tl, TL.len_tl x, TL.len_tl y, TL.tl_append, List.length_append]
      refine ⟨.ref d, rfl, .str t, rfl, _, _, rfl, rfl, by rw [e5, sizeLine_eq]; omega, _, _, rfl, rfl, by rw [al, e5, e6, sizeLine_eq]; omega, .ref S, rfl, .str t, rfl, S, .ref T, rfl, dg2, T, _, 0, .ref R, rfl, rfl, SqT.of e1, atI_nat (j := 0) rfl, R, (m : Int), simO m n, simD m n, rfl, e2, sim_ok sT3.hm sT3.hn, fun H9 s9 => ⟨_, _, rfl, rfl, by rw [al, al, e5, e6, sizeLine_eq]; omega, ?_⟩⟩
      have conv82 : ∀ {G : TA} {Q : List V → Hp → Prop} {v : V} {s0 : L2.St} {h0 : Hp}, Q [v] h0 → tCons (tC v) tNil s0 h0 Q := fun h => h
      refine conv82 (G := tNil) ?_
      refine h5.said ap tm hnt (by omega) n60 k3 w3 eP3 hps eU3 eS3 sT3 s9 fun H10 Z h10 => ⟨_, rfl, iteF ?_⟩
      exact ⟨_, _, _, _, _, _, _, _, _, _, _, rfl, h10, by rw [List.length_append]; exact Nat.add_le_add_right pl5 1⟩
    · obtain ⟨y5, y6, c, ta, ba, mm, nn, τ, ks, kb, past', rfl, h5, pl5⟩ := hp
      exact qq H5 c ta ba mm nn τ ks kb past' h5 (by omega)
section w82b
variable {C CD wa wc d p Kd Dn Lk S Pa Nm : Addr} {H H' : Hp} {nms : List Str} {c : Nat} {ta ba : Nat → Addr} {mm nn : Nat → Nat} {τ : Tau} {ks kb : List Str} {past : List Ev}
theorem W82.tups3 {H3 : Hp} (h : W82 P w C CD wa wc d p Kd Dn Lk S Pa Nm H nms c ta ba mm nn τ ks kb past) (ap : Ap82 wa wc Dn Nm Pa S Kd) (k3 : ∀ x o, x ≠ wa → x ≠ wc → x ≠ Pa → x ≠ S → H x = some o → H3 x = some o) :
    TupsStay H H3 ∧ BD P w C CD H3 d p Kd Dn Lk nms c ba (sR mm nn) τ kb past ∧ H3 Nm = some (.lst (nms.map V.str)) := by
  have far := h.far ap
  obtain ⟨_, cs, r, s, ea, ec⟩ := id h.wl
  obtain ⟨ps0, ePa0, _⟩ := id h.pa
  have t3 : TupsStay H H3 := fun x xs e => k3 x _ (ne_of e ea (fun z => nomatch z)) (ne_of e ec (fun z => nomatch z)) (ne_of e ePa0 (fun z => nomatch z)) (ne_of e h.ls.st (fun z => nomatch z)) e
  exact ⟨t3, h.bd.stay (H' := H3) (fun x o hx e => by
    obtain ⟨a1, a2, a3, a4⟩ := far x hx
    exact k3 x o a1 a2 a3 a4 e) t3, k3 _ _ ap.Na ap.Nc ap.PN.symm (ne_of h.nm h.ls.st (fun z => nomatch z)) h.nm⟩
/-- what the law keeps, behind a deed of the book -/
theorem W82.put {H3 H4 : Hp} {kb' ks' : List Str} {τ' : Tau} {past' : List Ev} {ps : List Addr} (h : W82 P w C CD wa wc d p Kd Dn Lk S Pa Nm H nms c ta ba mm nn τ ks kb past) (ap : Ap82 wa wc Dn Nm Pa S Kd)
    (k3 : ∀ x o, x ≠ wa → x ≠ wc → x ≠ Pa → x ≠ S → H x = some o → H3 x = some o) (w3 : WL H3 wa wc) (eS : H3 S = some (.dK (kvE (gE (gR ta) τ') ks'))) (hks : KsOk τ' ks') (ePa : H3 Pa = some (.lst (ps.map V.ref))) (hps : Paired (fun (a : Addr) (e : Ev) => H3 a = some (.tup [.str e.1, oA ta e.2])) ps past') (hi : HistOk past' τ') (un : und past' τ' = fun _ => none)
    (bd4 : BD P w C CD H4 d p Kd Dn Lk nms c ba (sR mm nn) τ' kb' past') (kp : KpB p Kd Dn H3 H4) :
    W82 P w C CD wa wc d p Kd Dn Lk S Pa Nm H4 nms c ta ba mm nn τ' ks' kb' past' := by
  obtain ⟨t3, bd3, eN3⟩ := h.tups3 ap k3
  obtain ⟨t4, _, _⟩ := bd3.kpb kp
  obtain ⟨ts, eD, _⟩ := id bd3.bk.done
  obtain ⟨n0, cs3, r3, s3, ea3, ec3⟩ := id w3
  exact ⟨bd4, ⟨kp _ _ ap.SK (ne_of eS eD (fun z => nomatch z)) eS, hks, fun k hk => ((h.ls.sim k hk).tups t3).tups t4⟩, ⟨ps, kp _ _ (ne_of ePa bd3.bk.kept (fun z => nomatch z)) ap.PD ePa, awMap (fun _ _ z => t4 _ _ z) hps⟩, hi, kp _ _ (ne_of eN3 bd3.bk.kept (fun z => nomatch z)) ap.ND eN3, ⟨n0, cs3, r3, s3, kp _ _ (ne_of ea3 bd3.bk.kept (fun z => nomatch z)) ap.Da.symm ea3, kp _ _ (ne_of ec3 bd3.bk.kept (fun z => nomatch z)) ap.Dc.symm ec3⟩, un⟩
theorem W82.kin {D : Addr} (h : W82 P w C CD wa wc d p Kd Dn Lk S Pa Nm H nms c ta ba mm nn τ ks kb past) (bd : BD P w C CD H' d p Kd Dn D nms c ba (sR mm nn) τ kb past) (k : ∀ x o, x ≠ p → H x = some o → H' x = some o) : W82 P w C CD wa wc d p Kd Dn D S Pa Nm H' nms c ta ba mm nn τ ks kb past := by
  obtain ⟨dx, ob⟩ := id h.bd.bk.ob
  obtain ⟨ps, e1, e2⟩ := id h.pa
  obtain ⟨n0, cs, r, s, ea, ec⟩ := id h.wl
  have np : ∀ {x o}, H x = some o → (∀ a b c, o ≠ .ins a b c) → H' x = some o := fun e z => k _ _ (ne_of e ob (z _ _ _)) e
  have tt : TupsStay H H' := fun x xs e => np e (fun _ _ _ z => nomatch z)
  exact ⟨bd, ⟨np h.ls.st (fun _ _ _ z => nomatch z), h.ls.ks, fun n hn => (h.ls.sim n hn).tups tt⟩, ⟨ps, np e1 (fun _ _ _ z => nomatch z), awMap (fun _ _ z => tt _ _ z) e2⟩, h.hi, np h.nm (fun _ _ _ z => nomatch z), ⟨n0, cs, r, s, np ea (fun _ _ _ z => nomatch z), np ec (fun _ _ _ z => nomatch z)⟩, h.un⟩
/-- what is said where a name is taken out -/
theorem W82.saidF {H3 H7 : Hp} {t : Str} {n : Nat} {ps : List Addr} {U : Addr} {Q : VK} (h : W82 P w C CD wa wc d p Kd Dn Lk S Pa Nm H nms c ta ba mm nn τ ks kb past) (ap : Ap82 wa wc Dn Nm Pa S Kd) (ht : t ∈ nms) (hnt : nameS t = true) (pl : past.length ≤ 3000) (en : τ t = some n)
    (k3 : ∀ x o, x ≠ wa → x ≠ wc → x ≠ Pa → x ≠ S → H x = some o → H3 x = some o) (w3 : WL H3 wa wc) (ePa : H3 Pa = some (.lst ((ps ++ [U]).map V.ref))) (hps : Paired (fun (a : Addr) (e : Ev) => H a = some (.tup [.str e.1, oA ta e.2])) ps past) (eU : H3 U = some (.tup [.str t, oA ta (τ t)]))
    (eS : H3 S = some (.dK (dropK (kvE (gE (gR ta) τ) ks) (Sum.inr t)))) (s37 : Same H3 H7)
    (q : ∀ H4, W82 P w C CD wa wc d p Kd Dn Lk S Pa Nm H4 nms c ta ba mm nn (setT τ t none) (keysDrop ks t) (keysDrop kb t) (past ++ [(t, τ t)]) → Q (.bl true) H4) :
    spSd P w C CD usedL [.ref d, .str ("forget " ++ t), .str "ok"] H7 Q E0 := by
  obtain ⟨t3, bd3, eN3⟩ := h.tups3 ap k3
  have bd7 := bd3.same s37
  obtain ⟨dx, hd⟩ := id bd7.dk
  refine ⟨d, p, dx, _, "forget", [t], "NAME", "ok", rfl, hd, by decide +kernel, said_name (by decide +kernel) (by decide +kernel) (by decide +kernel) hnt, fun H8 L8 s8 hL8 eL8 => ?_⟩
  rw [ans_forget]
  have bd8 := bd7.same s8
  refine ⟨p, Kd, Dn, Lk, L8, _, _, t, ba n, rfl, bd8.bk, by rw [List.length_map]; omega, hnt, eL8, by rw [h.bd.val t, en]; rfl, fun H9 bk9 kp9 => ⟨rfl, q H9 ?_⟩⟩
  have kp3 : KpB p Kd Dn H3 H9 := fun x o n1 n2 e => kp9 x o n1 n2 (s8 _ _ (s37 _ _ e))
  have bd9 := bd3.forget ht en bk9 kp3
  rw [← en] at bd9
  refine h.put ap k3 w3 (by rw [← kd_drop]; exact eS) (h.ls.ks.drop t) ePa (awSnoc (F := fun (a : Addr) (e : Ev) => H3 a = some (.tup [.str e.1, oA ta e.2])) (y := (t, τ t)) eU (awMap (fun _ _ z => t3 _ _ z) hps)) ?_ (by rw [und_snoc, setT_set, setT_self]; exact h.un) bd9 kp3
  rw [hist_snoc]
  refine ⟨fun z => ?_, ?_⟩
  · have z : τ t = none := z
    rw [en] at z
    cases z
  · rw [setT_set, setT_self]
    exact h.hi
/-- what is said where it is gone back -/
theorem W82.saidB {H3 H7 : Hp} {e : Ev} {ks' : List Str} {ps : List Addr} {Q : VK} (h : W82 P w C CD wa wc d p Kd Dn Lk S Pa Nm H nms c ta ba mm nn τ ks kb (past ++ [e])) (ap : Ap82 wa wc Dn Nm Pa S Kd) (nl : nms.length ≤ 60)
    (k3 : ∀ x o, x ≠ wa → x ≠ wc → x ≠ Pa → x ≠ S → H x = some o → H3 x = some o) (w3 : WL H3 wa wc) (ePa : H3 Pa = some (.lst (ps.map V.ref))) (hps : Paired (fun (a : Addr) (e : Ev) => H a = some (.tup [.str e.1, oA ta e.2])) ps past)
    (eS : H3 S = some (.dK (kvE (gE (gR ta) (setT τ e.1 e.2)) ks'))) (hks : KsOk (setT τ e.1 e.2) ks') (s37 : Same H3 H7)
    (q : ∀ H4 kb', W82 P w C CD wa wc d p Kd Dn Lk S Pa Nm H4 nms c ta ba mm nn (setT τ e.1 e.2) ks' kb' past → Q (.bl true) H4) :
    spSd P w C CD usedL [.ref d, .str "back", .str "ok"] H7 Q E0 := by
  obtain ⟨t3, bd3, eN3⟩ := h.tups3 ap k3
  have bd7 := bd3.same s37
  obtain ⟨dx, hd⟩ := id bd7.dk
  have kbl := h.bd.rg.few h.bd.kb
  obtain ⟨hn1, hi0⟩ := (hist_snoc past e τ).mp h.hi
  refine ⟨d, p, dx, _, "back", [], "", "ok", rfl, hd, by decide +kernel, said_0 (by decide +kernel) (by decide +kernel), fun H8 L8 s8 hL8 eL8 => ?_⟩
  rw [ans_back]
  have bd8 := bd7.same s8
  have bk8 := bd8.bk
  rw [List.map_append] at bk8
  refine ⟨p, Kd, Dn, Lk, L8, _, past.map (dnB ba), dnB ba e, rfl, bk8, by rw [kvE_len]; omega, fun z => ?_, fun H9 bk9 kp9 => ⟨rfl, ?_⟩⟩
  · have z2 : e.2 = none := by
      have z : e.2.map ba = none := z
      cases e2 : e.2 with
      | none => rfl
      | some n => rw [e2] at z; cases z
    show (valV (kvE (gE (gR ba) τ) kb) (Sum.inr e.1)).isSome = true
    rw [h.bd.val, Option.isSome_map, Option.isSome_map]
    exact hn1 z2
  · have kp3 : KpB p Kd Dn H3 H9 := fun x o n1 n2 z => kp9 x o n1 n2 (s8 _ _ (s37 _ _ z))
    obtain ⟨kb', bd9⟩ := bd3.back bk9 kp3
    exact q H9 kb' (h.put ap k3 w3 eS hks ePa (awMap (fun _ _ z => t3 _ _ z) hps) hi0 (by rw [← und_snoc]; exact h.un) bd9 kp3)
/-- back, of the book alone -/
theorem BD.saidB {e : Ev} {rf : Nat → Rw} {Q : VK} (h : BD P w C CD H d p Kd Dn Lk nms c ba rf τ kb (past ++ [e])) (nl : nms.length ≤ 60) (hn1 : e.2 = none → (τ e.1).isSome = true)
    (q : ∀ H4 kb', BD P w C CD H4 d p Kd Dn Lk nms c ba rf (setT τ e.1 e.2) kb' past → KpB p Kd Dn H H4 → Q (.bl true) H4) : spSd P w C CD usedL [.ref d, .str "back", .str "ok"] H Q E0 := by
  obtain ⟨dx, hd⟩ := id h.dk
  have kbl := h.rg.few h.kb
  refine ⟨d, p, dx, _, "back", [], "", "ok", rfl, hd, by decide +kernel, said_0 (by decide +kernel) (by decide +kernel), fun H8 L8 s8 hL8 eL8 => ?_⟩
  rw [ans_back]
  have bd8 := h.same s8
  have bk8 := bd8.bk
  rw [List.map_append] at bk8
  refine ⟨p, Kd, Dn, Lk, L8, _, past.map (dnB ba), dnB ba e, rfl, bk8, by rw [kvE_len]; omega, fun z => ?_, fun H9 bk9 kp9 => ⟨rfl, ?_⟩⟩
  · have z2 : e.2 = none := by
      have z : e.2.map ba = none := z
      cases e2 : e.2 with
      | none => rfl
      | some n => rw [e2] at z; cases z
    show (valV (kvE (gE (gR ba) τ) kb) (Sum.inr e.1)).isSome = true
    rw [h.val, Option.isSome_map, Option.isSome_map]
    exact hn1 z2
  · have kp3 : KpB p Kd Dn H H9 := fun x o n1 n2 z => kp9 x o n1 n2 (s8 _ _ z)
    obtain ⟨kb', bd9⟩ := h.back bk9 kp3
    exact q H9 kb' bd9 kp3
/-- a name's row shown -/
theorem BD.saidS {rf : Nat → Rw} {t : Str} {n : Nat} {Q : VK} (h : BD P w C CD H d p Kd Dn Lk nms c ba rf τ kb past) (hnt : nameS t = true) (en : τ t = some n)
    (q : ∀ H4, Same H H4 → Q (.bl true) H4) : spSd P w C CD usedL [.ref d, .str ("show " ++ t), .str (rowS (rf n).m (rf n).ds (rf n).o)] H Q E0 := by
  obtain ⟨dx, hd⟩ := id h.dk
  refine ⟨d, p, dx, _, "show", [t], "NAME", _, rfl, hd, by decide +kernel, said_name (by decide +kernel) (by decide +kernel) (by decide +kernel) hnt, fun H8 L8 s8 hL8 eL8 => ?_⟩
  rw [ans_show]
  have bd8 := h.same s8
  obtain ⟨hR, ok⟩ := bd8.rw n (h.rg t n en).2
  exact ⟨p, Kd, Dn, Lk, L8, _, _, t, ba n, rf n, rfl, bd8.bk, hnt, eL8, by rw [h.val t, en]; rfl, hR, ok, fun H9 s9 => ⟨rfl, q H9 (s8.trans s9)⟩⟩
end w82b
def rEqL0 : R2 := fun x y H Q => ∃ (a b : Addr) (xs : List V), x = .ref a ∧ y = .ref b ∧ H a = some (.lst xs) ∧ H b = some (.lst []) ∧ Q (.bl xs.isEmpty) H
theorem op_eqL0 {X : Cx} (hu : X.A.units + 64 < cLine) : OpR X (compareOp .Eq) rEqL0 := by
  intro pins s σ H x y v u Q I rx ry h
  obtain ⟨a, b, xs, rfl, rfl, ea, eb, q⟩ := h
  cases rx
  cases ry
  obtain ⟨i1, rv1, h1, _⟩ := I.list (.inl (.inl ea))
  obtain ⟨i2, rv2, h2, _⟩ := I.list (.inl (.inl eb))
  cases rv2
  cases rv1 with
  | nil =>
    have r := SeqAt.RcAt.lists (A := X.A) (s := s) (e := fun _ => true) h1.isList h2.isList rfl (by omega) (fun j j1 _ => absurd j1 (by simp))
    exact r _ _ _ _ ⟨.bl true, H, I, rfl, q⟩
  | cons r rs =>
    have r := SeqAt.RcAt.lists_lengths (A := X.A) (s := s) h1.isList h2.isList (by simp) (by omega)
    exact r _ _ _ _ ⟨.bl false, H, I, rfl, q⟩
theorem prUnsnoc {α β : Type} {F : α → β → Prop} {y : β} : ∀ {l : List α} {k : List β}, Paired F l (k ++ [y]) → ∃ l0 x, l = l0 ++ [x] ∧ Paired F l0 k ∧ F x y
  | [], [], h => by cases h
  | [], _ :: _, h => by cases h
  | [x], [], .cons h _ => ⟨[], x, rfl, .nil, h⟩
  | _ :: _ :: _, [], .cons _ t => by cases t
  | x :: l, y' :: k, .cons h t => by
    obtain ⟨l0, z, rfl, h2, h3⟩ := prUnsnoc t
    exact ⟨x :: l0, z, rfl, .cons h h2, h3⟩
theorem conv82c {Q : List V → Hp → Prop} {s0 : L2.St} {h0 : Hp} (h : Q [] h0) : tNil s0 h0 Q := h
theorem conv82b {G : TA} {Q : List V → Hp → Prop} {v u : V} {s0 : L2.St} {h0 : Hp} (h : Q [v, u] h0) : tCons (tC v) (tCons (tC u) tNil) s0 h0 Q := h
set_option maxHeartbeats 4000000 in
theorem law_run {fa fW fD fSi fN fT fS fTo fLg : Addr} {fd fdW fdD fdSi fdN fdT fdS fdTo fdLg : FuncData} {s : Shared} {a : Addr} {ns : List Int} {H : Hp} (F : Fun K "law" "law" s_law fa fd) (bL_ : Binds K fd ["script"] [])
    {C CD fI : Addr} {fdI : FuncData} (TD : DkCls K mg CD) (KD : Mk K CD fI) (GI : FnOk P w K mg base CX0 3 fI fdI ["self"] (spDi P w C CD)) (bI : Binds K fdI ["self"] [])
    (GW : FnOk P w K mg base CX0 1 fW fdW ["script"] (spWell K)) (kW : PySem.W.keepIn K (.ref fW) = true) (bW : Binds K fdW ["script"] []) (gW : mg "_law_well" = some (.ref fW))
    (GD : FnOk P w K mg base CX0 1 fD fdD ["well", "many"] spDraw) (kD : PySem.W.keepIn K (.ref fD) = true) (bD : Binds K fdD ["well", "many"] []) (gD : mg "_law_draw" = some (.ref fD))
    (GSi : FnOk P w K mg base CX0 2 fSi fdSi ["well"] spSi) (kSi : PySem.W.keepIn K (.ref fSi) = true) (bSi : Binds K fdSi ["well"] []) (gSi : mg "_law_simple" = some (.ref fSi))
    (GN : FnOk P w K mg base CX0 2 fN fdN ["well", "many"] spTl) (kN : PySem.W.keepIn K (.ref fN) = true) (bN : Binds K fdN ["well", "many"] []) (gN : mg "_law_two_letters" = some (.ref fN))
    (GT : FnOk P w K mg base CX0 1 fT fdT ["row"] spShow) (kT : PySem.W.keepIn K (.ref fT) = true) (bT : Binds K fdT ["row"] []) (gT : mg "_law_text" = some (.ref fT))
    (GS : FnOk P w K mg base CX0 11 fS fdS ["desk", "row", "due"] (spSd P w C CD usedL)) (kS : PySem.W.keepIn K (.ref fS) = true) (bS : Binds K fdS ["desk", "row", "due"] []) (gS : mg "_law_said" = some (.ref fS))
    (GTo : FnOk P w K mg base CX0 12 fTo fdTo ["desk", "names", "state"] (spTo P w C CD)) (kTo : PySem.W.keepIn K (.ref fTo) = true) (bTo : Binds K fdTo ["desk", "names", "state"] []) (gTo : mg "_law_told" = some (.ref fTo))
    (GLg : FnOk P w K mg base CX0 12 fLg fdLg ["well", "desk", "names", "state", "past"] (spLg82 P w C CD)) (kLg : PySem.W.keepIn K (.ref fLg) = true) (bLg : Binds K fdLg ["well", "desk", "names", "state", "past"] []) (gLg : mg "_law_told_long" = some (.ref fLg))
    (mr : mg "range" = none)
    (hlen : ns.length ≤ 63) (hbits : ∀ z ∈ ns, Builtin.Int.intBits z ≤ 1048576) (e0 : Env0 P w K mg base callerA [] s H) (hS : SqL K H a (ns.map V.int)) :
    codeAny (model P w) callerA (.call (.ref fa) ⟨[.ref a], []⟩) (CR CX0 [] P w H s (fun v _ => v = .bl true) E0) s := by
  refine fn_at (k := 12) (us := [.ref a]) (vs := [.ref a]) F sc_law ⟨rfl, by decide, by decide⟩ e0 ?_ (.cons rfl .nil) rfl (fun cdv => ?_)
  · have := bL_ s [.ref a] (e0.mod.kin.keeps fun b o e => (e0.bs b o e).1) rfl
    simpa using this
  have hr : Room 12 (callerA.deeper (envOfC "law" (defScope s_law) s.heap.objs.size fa cdv)) := Room.deeper (k := 12) ⟨rfl, by decide, by decide⟩ _
  have R11 := hr.mono (show 11 ≤ 12 by decide)
  have R4 := hr.mono (show 4 ≤ 12 by decide)
  have R1 := hr.mono (show 1 ≤ 12 by decide)
  have R2 := hr.mono (show 2 ≤ 12 by decide)
  have hu := hu_of hr
  refine ⟨_, pss_cons (ps_set (i := 1) sc_law.nd rfl (.inl rfl) (pe_call GW R1 (by rfl) gW kW bW .nil pass0 (pa_cons (pv 0) pa_nil)))
    (pss_cons (ps_set (i := 2) sc_law.nd rfl (.inl rfl) (pe_op op_add pe_int (pe_call GD R1 (by rfl) gD kD bD .nil pass0 (pa_cons (pv 1) (pa_cons pe_int pa_nil)))))
    (pss_cons (ps_set (i := 3) sc_law.nd rfl (.inl rfl) (pe_call GN R2 (by rfl) gN kN bN .nil pass0 (pa_cons (pv 1) (pa_cons (pv 2) pa_nil))))
    (pss_cons (ps_set (i := 4) sc_law.nd rfl (.inr rfl) (pe_make0 KD GI R4 (by rfl) TD.mgC bI .nil pass0))
    (pss_cons (ps_set (i := 5) sc_law.nd rfl (.inr rfl) pe_dnewK)
    (pss_cons (ps_set (i := 6) sc_law.nd rfl (.inl rfl) (pe_lst pa_nil))
    (pss_cons (ps_set (i := 7) sc_law.nd rfl (.inl rfl) (pe_cmpR op_eq (pe_call GD R1 (by rfl) gD kD bD .nil pass0 (pa_cons (pv 1) (pa_cons pe_int pa_nil))) pe_int (nomark _)))
    (pss_mid (ps_if (PW.pt (pw_and (pt_val (pv 7)) (pw_and1 (pt_not (pt_val (pe_call GLg hr (by rfl) gLg kLg bLg .nil pass0 (pa_cons (pv 1) (pa_cons (pv 4) (pa_cons (pv 3) (pa_cons (pv 5) (pa_cons (pv 6) pa_nil))))))))))) (pss_one (ps_ret pe_bl)) pss_nil)
    (pss_cons (ps_for PassesOwn.never rfl (pi_range1 (by rfl) mr (pa_cons (pe_op op_add (pv 2) pe_int) pa_nil)) (pg_name (i := 8) sc_law.nd rfl (.inl rfl))
      (pss_cons (ps_set (i := 9) sc_law.nd rfl (.inl rfl) (pe_ix ix_list (pv 3) (pe_op op_mod (pv 8) (pv 2)) (fun _ _ => rfl)))
      (pss_cons (ps_expr (pe_bm PySem.F.plainAttrs_list PySem.F.slot_list_append PySem.F.type_list_append mt_append (pv 6) (pa_cons (pe_tup (pa_cons (pv 9) (pa_cons (pe_dget1 hu (pv 5) (pv 9) ⟨rfl, rfl, rfl, rfl⟩) pa_nil))) pa_nil)))
      (pss_one (ps_if (PW.pt (pw_and (pt_cmpR op_ge (pv 8) (pv 2) (nomark _)) (pw_and (pt_cmp (pc_din hu (pv 9) (pv 5))) (pw_and1 (pt_cmpR op_eq (pe_call GD R1 (by rfl) gD kD bD .nil pass0 (pa_cons (pv 1) (pa_cons pe_int pa_nil))) pe_int (nomark _))))))
        (pss_cons (ps_expr (pe_dpop1 (pv 5) (pv 9) ⟨rfl, rfl, rfl, rfl⟩))
        (pss_one (ps_if (pt_not (pt_val (pe_call GS R11 (by rfl) gS kS bS .nil pass0 (pa_cons (pv 4) (pa_cons (pe_op op_add_str pe_str (pv 9)) (pa_cons pe_str pa_nil)))))) (pss_one (ps_ret pe_bl)) pss_nil)))
        (pss_cons (ps_dput hu (pv 5) (pv 9) (pe_call GSi R2 (by rfl) gSi kSi bSi .nil pass0 (pa_cons (pv 1) pa_nil)) rfl)
        (pss_one (ps_if (pt_not (pt_val (pe_call GS R11 (by rfl) gS kS bS .nil pass0 (pa_cons (pv 4) (pa_cons (pe_op op_add_str (pe_op op_add_str (pe_op op_add_str pe_str (pv 9)) pe_str) (pe_call GT R1 (by rfl) gT kT bT .nil pass0 (pa_cons (pe_ix ix_tup (pe_dget hu (pv 5) (pv 9) (fun _ _ => rfl)) pe_int (fun _ _ => rfl)) pa_nil))) (pa_cons pe_str pa_nil)))))) (pss_one (ps_ret pe_bl)) pss_nil))))))))
    (pss_cons (ps_if (pt_not (pt_val (pe_call GTo hr (by rfl) gTo kTo bTo .nil pass0 (pa_cons (pv 4) (pa_cons (pv 3) (pa_cons (pv 5) pa_nil)))))) (pss_one (ps_ret pe_bl)) pss_nil)
    (pss_cons (ps_for PassesOwn.never rfl (pi_range1 (by rfl) mr (pa_cons (pe_op op_add pe_int (pe_call GD R1 (by rfl) gD kD bD .nil pass0 (pa_cons (pv 1) (pa_cons pe_int pa_nil)))) pa_nil)) (pg_name (i := 8) sc_law.nd rfl (.inl rfl))
      (pss_cons (ps_asg (pe_bm0 PySem.F.plainAttrs_list PySem.F.slot_list_pop PySem.F.type_list_pop mt_pop (pv 6)) (pg_tup rfl (pgs_cons (pg_name (i := 9) sc_law.nd rfl (.inl rfl)) (pgs_cons (pg_name (i := 10) sc_law.nd rfl (.inl rfl)) pgs_nil))))
      (pss_mid (ps_if (pt_cmp (pc_din hu (pv 9) (pv 5))) (pss_one (ps_expr (pe_dpop1 (pv 5) (pv 9) ⟨rfl, rfl, rfl, rfl⟩))) pss_nil)
      (pss_mid (ps_if (pt_cmpR op_notN (pv 10) pe_non (nomark _)) (pss_one (ps_dput hu (pv 5) (pv 9) (pv 10) rfl)) pss_nil)
      (pss_one (ps_if (pt_not (pt_val (pe_call GS R11 (by rfl) gS kS bS .nil pass0 (pa_cons (pv 4) (pa_cons pe_str (pa_cons pe_str pa_nil)))))) (pss_one (ps_ret pe_bl)) pss_nil))))))
    (pss_cons (ps_if (pt_not (pt_val (pe_call GTo hr (by rfl) gTo kTo bTo .nil pass0 (pa_cons (pv 4) (pa_cons (pv 3) (pa_cons (pv 5) pa_nil)))))) (pss_one (ps_ret pe_bl)) pss_nil)
    (pss_cons (ps_if (PW.pt (pw_or (pt_val (pv 7)) (pw_or1 (pt_cmpR op_eq (pe_call GD R1 (by rfl) gD kD bD .nil pass0 (pa_cons (pv 1) (pa_cons pe_int pa_nil))) pe_int (nomark _)))))
      (pss_cons (ps_for PassesOwn.never rfl (pi_list (pv 6)) (pg_name (i := 11) sc_law.nd rfl (.inl rfl))
        (pss_one (ps_if (pt_not (pt_val (pe_call GS R11 (by rfl) gS kS bS .nil pass0 (pa_cons (pv 4) (pa_cons pe_str (pa_cons pe_str pa_nil)))))) (pss_one (ps_ret pe_bl)) pss_nil)))
      (pss_one (ps_ret (pe_call GTo hr (by rfl) gTo kTo bTo .nil pass0 (pa_cons (pv 4) (pa_cons (pv 3) (pa_cons pe_dnewK pa_nil)))))))
      pss_nil)
    (pss_one (ps_ret (pe_cmpR (op_eqL0 hr.units) (pe_lock (pe_lc (own := [("name", 9)]) (g := gName 9) (by rfl) sc_law.nd (pi_keys (pv 5)) (blkOk_by (own := [("name", 9)]) (N := N_law) (sc := defScope s_law) (by decide +kernel)) (fun _ _ _ _ _ => pg_name (i := 9) sc_law.nd rfl (.inl rfl)) (fun _ _ _ _ _ => pts_one (pt_not (pt_val (pe_call GS R11 (by rfl) gS kS bS .nil pass0 (pa_cons (pv 4) (pa_cons (pe_op op_add_str pe_str (pv 9)) (pa_cons (pe_call GT R1 (by rfl) gT kT bT .nil pass0 (pa_cons (pe_ix (r := rIxT K) ix_tup (pe_dget hu (pv 5) (pv 9) (fun _ _ => rfl)) pe_int (fun _ _ => rfl)) pa_nil)) pa_nil))))))) (fun _ _ _ _ _ => pv 9))) (pe_lst pa_nil) (nomark _)))))))))))))))), ?_⟩
  refine ⟨.ref a, rfl, a, ns, rfl, hS, hlen, hbits, fun H1 wa wc s1 hwa hwc w1 => ?_⟩
  refine ⟨.ref wa, rfl, wa, wc, 33, rfl, by decide, by decide, w1, fun H2 z z0 z1 w2 k2 => ⟨8, z, rfl, rfl, ?_⟩⟩
  obtain ⟨n, hn⟩ : ∃ n : Nat, 8 + z = (n : Int) := ⟨(8 + z).toNat, by omega⟩
  change gName 2 (V.int (8 + z)) _ _ _
  rw [hn]
  refine ⟨.ref wa, rfl, .int (n : Int), rfl, wa, wc, n, rfl, by omega, by omega, w2, fun H3 Nm nms eNm nl hnm nmd nNa nNc w3 k3 => ?_⟩
  intro d dx nod ndx nxd
  refine ⟨d, dx, rfl, upd_same, fun H4 p Kd Dn Lk hd bk0 eLk nop noK noD keep0 => ⟨rfl, ?_⟩⟩
  have s34 : Same H3 (upd (upd H3 dx (.own d)) d (.ins CD dx [])) := fun x o e => by
    rw [upd_ne (ne_of_none e nod), upd_ne (ne_of_none e ndx)]
    exact e
  have s4 : Same H3 H4 := fun x o e => keep0 _ _ (ne_of_none e nod) (s34 _ _ e)
  have noD3 := s34.free noD
  intro S hS4
  have s5 := same_new (o := .dK []) hS4
  have eS : upd H4 S (.dK []) S = some (.dK []) := upd_same
  have nSK : S ≠ Kd := (ne_of_none bk0.kept hS4).symm
  generalize upd H4 S (.dK []) = H5 at s5 eS
  refine ⟨Nat.zero_le _, fun Pa hPa => ?_⟩
  have s6 := same_new (o := .lst []) hPa
  have ePa : upd H5 Pa (.lst []) Pa = some (.lst []) := upd_same
  obtain ⟨td, eDn, _⟩ := id bk0.done
  have eDn5 := s5 _ _ eDn
  obtain ⟨nPa, nPc⟩ := ((w3.same s4).same s5).ne_new hPa
  have s36 := s4.trans (s5.trans s6)
  obtain ⟨n0, cs, r0, s0, ewa, ewc⟩ := id w3
  have ap : Ap82 wa wc Dn Nm Pa S Kd := ⟨(ne_of_none ewa noD3).symm, (ne_of_none ewc noD3).symm, nNa, nNc, ne_of_none eNm noD3, nPa, nPc, (ne_of_none eDn5 hPa).symm, (ne_of_none (s5 _ _ (s4 _ _ eNm)) hPa).symm, nSK⟩
  have i0 : W82 P w C CD wa wc d p Kd Dn Lk S Pa Nm (upd H5 Pa (.lst [])) nms 0 (fun _ => 0) (fun _ => 0) (fun _ => 0) (fun _ => 0) (fun _ => none) [] [] [] :=
    ⟨⟨⟨dx, s6 _ _ (s5 _ _ hd)⟩, (bk0.same s5).same s6, (⟨[], ⟨s6 _ _ (s5 _ _ eLk), (fun _ z => nomatch z)⟩, Nat.zero_le _, (fun _ z => nomatch z)⟩ : LkAt P w _ Lk 64), ⟨List.nodup_nil, fun x => ⟨(fun z => nomatch z), (fun z => nomatch z)⟩⟩, (fun t n z => nomatch z), (fun e z => nomatch z), (fun n z => absurd z (Nat.not_lt_zero n))⟩,
      ⟨s6 _ _ eS, ⟨List.nodup_nil, fun x => ⟨(fun z => nomatch z), (fun z => nomatch z)⟩⟩, (fun n z => absurd z (Nat.not_lt_zero n))⟩, ⟨[], ePa, .nil⟩, trivial, s36 _ _ eNm, w3.same s36, rfl⟩
  generalize upd H5 Pa (.lst []) = H6 at i0
  clear s1 s34 s4 s5 s6 s36 eS ePa hPa hS4 nod ndx nxd noD3 nop noK noD keep0 eLk bk0 hd eDn5 n0 ewa ewc w1 w2 w3 k2 k3 eNm hwa hwc nSK nPa nPc nNa nNc
  refine ⟨.ref wa, rfl, wa, wc, 4, rfl, by decide, by decide, i0.wl, fun H7 y y0 y1 w7 k7 => ⟨rfl, ?_⟩⟩
  have i7 := i0.kp ap k7 w7
  obtain ⟨far, hfar⟩ : ∃ b : Bool, b = decide (V.int y = V.int 0) := ⟨_, rfl⟩
  rw [← hfar]
  clear hfar i0 k7 w7
  refine ⟨fun σ' H' => ∃ (c : Nat) (ta ba : Nat → Addr) (mm nn : Nat → Nat) (τ : Tau) (ks kb : List Str) (past : List Ev), σ' = [some (.ref a), some (.ref wa), some (.int (n : Int)), some (.ref Nm), some (.ref d), some (.ref S), some (.ref Pa), some (.bl far), none, none, none, none] ∧ W82 P w C CD wa wc d p Kd Dn Lk S Pa Nm H' nms c ta ba mm nn τ ks kb past ∧ past.length ≤ 200, ?_, ?_⟩
  · refine ⟨.bl far, rfl, far, rfl, ?_⟩
    cases far with
    | false => exact ⟨0, _, _, _, _, _, [], [], [], rfl, i7, Nat.zero_le _⟩
    | true =>
      refine ⟨.ref wa, rfl, .ref d, rfl, .ref Nm, rfl, .ref S, rfl, .ref Pa, rfl, wa, wc, d, p, Kd, Dn, Lk, S, Pa, Nm, nms, 0, _, _, _, _, _, [], [], [], rfl, ap, by omega, by omega, hnm, Nat.zero_le _, i7, fun H8 c ta ba mm nn τ ks kb past' h8 pl => ⟨_, rfl, ?_⟩⟩
      exact ⟨c, ta, ba, mm, nn, τ, ks, kb, past', rfl, h8, by simpa using pl⟩
  rintro σ8 H8 ⟨c, ta, ba, mm, nn, τ, ks, kb, past, rfl, h8, pl⟩
  clear i7
  refine ⟨.int (n : Int), rfl, (n : Int), 8, rfl, rfl, (n : Int) + 8, rfl, by omega, by omega, ?_⟩
  refine for_range (lo := 0) (n := ((n : Int) + 8).toNat) (fun i σ H5 => ∃ (y8 y9 : Option V) (c : Nat) (ta ba : Nat → Addr) (mm nn : Nat → Nat) (τ : Tau) (ks kb : List Str) (past : List Ev), σ = [some (.ref a), some (.ref wa), some (.int (n : Int)), some (.ref Nm), some (.ref d), some (.ref S), some (.ref Pa), some (.bl far), y8, y9, none, none] ∧ W82 P w C CD wa wc d p Kd Dn Lk S Pa Nm H5 nms c ta ba mm nn τ ks kb past ∧ past.length ≤ 200 + i ∧ i ≤ past.length)
    ⟨none, none, c, ta, ba, mm, nn, τ, ks, kb, past, rfl, h8, pl, Nat.zero_le _⟩ (fun i σ H5 hi hp => ?_) (fun σ H5 hp => ?_)
  · obtain ⟨y8, y9, c, ta, ba, mm, nn, τ, ks, kb, past, rfl, h5, pl, pl2⟩ := hp
    clear h8
    have hj : i % n < nms.length := by rw [nl]; exact Nat.mod_lt _ (by omega)
    obtain ⟨t, ht⟩ : ∃ t, nms[i % n]? = some t := ⟨_, List.getElem?_eq_getElem hj⟩
    have tm := List.mem_of_getElem? ht
    have ati : atI (nms.map V.str) ((0 + (i : Int)) % (n : Int)) = some (.str t) := by
      rw [Int.zero_add, show (i : Int) % (n : Int) = ((i % n : Nat) : Int) from (Int.natCast_emod i n).symm]
      exact atI_nat (by rw [List.getElem?_map, ht]; rfl)
    refine ⟨.ref Nm, rfl, .int (0 + (i : Int)), rfl, .int (n : Int), rfl, 0 + (i : Int), (n : Int), rfl, rfl, (by show (0 : Int) < (n : Int); omega), Nm, _, _, .str t, rfl, rfl, .inl (.inl h5.nm), ati, ?_⟩
    obtain ⟨ps, ePa, hps⟩ := id h5.pa
    obtain ⟨_, cs5, r5, s5, ea, ec⟩ := id h5.wl
    have nSa : S ≠ wa := ne_of h5.ls.st ea (fun z => nomatch z)
    have nSc : S ≠ wc := ne_of h5.ls.st ec (fun z => nomatch z)
    have nSP : S ≠ Pa := ne_of h5.ls.st ePa (fun z => nomatch z)
    have dg : DGet H5 S (.str t) ((τ t).map (gR ta)) := by
      have := DGet.k (k := Sum.inr t) h5.ls.st
      rw [kd_val h5.ls.ks] at this
      exact this
    have eo : ((τ t).map (gR ta)).getD .non = oA ta (τ t) := by
      cases τ t <;> rfl
    have psl := awLen hps
    have ksl := h5.bd.rg.few h5.ls.ks
    have hnt := hnm t tm
    have n8 := nameS_len hnt
    have e5 : ("tell " : Str).length = 5 := by decide +kernel
    have e6 : (" " : Str).length = 1 := by decide +kernel
    have e7 : ("forget " : Str).length = 7 := by decide +kernel
    have al : ∀ x y : Str, (x ++ y).length = x.length + y.length := fun x y => by
      rw [TL.len_tl, TL.len_tl x, TL.len_tl y, TL.tl_append, List.length_append]
    have conv82 : ∀ {G : TA} {Q : List V → Hp → Prop} {v : V} {s0 : L2.St} {h0 : Hp}, Q [v] h0 → tCons (tC v) tNil s0 h0 Q := fun h => h
    refine ⟨.ref Pa, rfl, .inl ⟨rfl, _, .inl (.inl ePa)⟩, .str t, rfl, .ref S, rfl, S, rfl, .inl ⟨_, .inl h5.ls.st⟩, .str t, rfl, _, dg, ?_⟩
    rw [eo]
    refine ⟨(by show 2 ≤ sizeLine; decide), fun U hU => ?_⟩
    have sU := same_new (o := .tup [.str t, oA ta (τ t)]) hU
    refine ⟨Pa, _, .ref U, rfl, rfl, sU _ _ ePa, by rw [List.length_map, sizeLine_eq]; omega, ?_⟩
    have nUP : U ≠ Pa := (ne_of_none ePa hU).symm
    have k2 : ∀ x o, x ≠ wa → x ≠ wc → x ≠ Pa → H5 x = some o → upd (upd H5 U (.tup [.str t, oA ta (τ t)])) Pa (.lst (ps.map V.ref ++ [.ref U])) x = some o := fun x o _ _ n e => by
      rw [upd_ne n]
      exact sU _ _ e
    have eP2 : upd (upd H5 U (.tup [.str t, oA ta (τ t)])) Pa (.lst (ps.map V.ref ++ [.ref U])) Pa = some (.lst ((ps ++ [U]).map V.ref)) := by
      rw [upd_same, List.map_append]
      rfl
    have eU2 : upd (upd H5 U (.tup [.str t, oA ta (τ t)])) Pa (.lst (ps.map V.ref ++ [.ref U])) U = some (.tup [.str t, oA ta (τ t)]) := by
      rw [upd_ne nUP]
      exact upd_same
    have w2 : WL (upd (upd H5 U (.tup [.str t, oA ta (τ t)])) Pa (.lst (ps.map V.ref ++ [.ref U]))) wa wc := (h5.wl.same sU).upd ap.Pwa ap.Pwc
    generalize upd (upd H5 U (.tup [.str t, oA ta (τ t)])) Pa (.lst (ps.map V.ref ++ [.ref U])) = H6 at k2 eP2 eU2 w2
    have dg6 : DGet H6 S (.str t) ((τ t).map (gR ta)) := by
      have := DGet.k (k := Sum.inr t) (k2 _ _ nSa nSc nSP h5.ls.st)
      rw [kd_val h5.ls.ks] at this
      exact this
    refine ⟨.int (0 + (i : Int)), rfl, .int (n : Int), rfl, 0 + (i : Int), (n : Int), rfl, rfl, _, rfl, ?_⟩
    obtain ⟨b1, hb1⟩ : ∃ b1 : Bool, b1 = decide (0 + (i : Int) ≥ (n : Int)) := ⟨_, rfl⟩
    rw [← hb1]
    clear hb1
    cases b1 with
    | false =>
      refine ⟨.ref wa, rfl, wa, wc, rfl, w2, fun H7 T m k sT w7 k7 => ?_⟩
      have eS7 := k7 _ _ nSa nSc (k2 _ _ nSa nSc nSP h5.ls.st)
      refine ⟨.ref S, rfl, .str t, rfl, S, _, rfl, DPut.k (k := Sum.inr t) eS7 (by rw [kvE_len, sizeLine_eq]; omega), ?_⟩
      have k3 : ∀ x o, x ≠ wa → x ≠ wc → x ≠ Pa → x ≠ S → H5 x = some o → upd H7 S (.dK (putK (kvE (gE (gR ta) τ) ks) (Sum.inr t) (.ref T))) x = some o := fun x o n1 n2 n3 n4 e => by
        rw [upd_ne n4]
        exact k7 _ _ n1 n2 (k2 _ _ n1 n2 n3 e)
      have tS : TupsStay H7 (upd H7 S (.dK (putK (kvE (gE (gR ta) τ) ks) (Sum.inr t) (.ref T)))) := fun x xs e => by
        rw [upd_ne (ne_of e eS7 (fun z => nomatch z))]
        exact e
      have eU7 : H7 U = some (.tup [.str t, oA ta (τ t)]) := k7.tup w2 eU2
      have eP3 : upd H7 S (.dK (putK (kvE (gE (gR ta) τ) ks) (Sum.inr t) (.ref T))) Pa = some (.lst ((ps ++ [U]).map V.ref)) := by
        rw [upd_ne nSP.symm]
        exact k7 _ _ ap.Pwa ap.Pwc eP2
      have eS3 : upd H7 S (.dK (putK (kvE (gE (gR ta) τ) ks) (Sum.inr t) (.ref T))) S = some (.dK (putK (kvE (gE (gR ta) τ) ks) (Sum.inr t) (.ref T))) := upd_same
      have w3 : WL (upd H7 S (.dK (putK (kvE (gE (gR ta) τ) ks) (Sum.inr t) (.ref T)))) wa wc := w7.upd nSa nSc
      have sT3 := sT.tups tS
      have eU3 := tS _ _ eU7
      generalize upd H7 S (.dK (putK (kvE (gE (gR ta) τ) ks) (Sum.inr t) (.ref T))) = H8 at k3 eP3 eS3 w3 sT3 eU3
      obtain ⟨R, K2, e1, e2, _⟩ := id sT3.at_
      have dg2 : DGet H8 S (.str t) (some (.ref T)) := by
        have := DGet.k (k := Sum.inr t) eS3
        rw [valV_put, if_pos rfl] at this
        exact this
      have rl : (rowS (m : Int) (simD m k) (simO m k)).length ≤ 300 := rowS_len (r := simR m k) (sim_ok sT3.hm sT3.hn)
      refine ⟨.ref d, rfl, .str t, rfl, _, _, rfl, rfl, by rw [e5, sizeLine_eq]; omega, _, _, rfl, rfl, by rw [al, e5, e6, sizeLine_eq]; omega, .ref S, rfl, .str t, rfl, S, .ref T, rfl, dg2, T, _, 0, .ref R, rfl, rfl, SqT.of e1, atI_nat (j := 0) rfl, R, (m : Int), simO m k, simD m k, rfl, e2, sim_ok sT3.hm sT3.hn, fun H9 s9 => ⟨_, _, rfl, rfl, by rw [al, al, e5, e6, sizeLine_eq]; omega, ?_⟩⟩
      refine conv82 (G := tNil) ?_
      refine h5.said ap tm hnt (by omega) (by omega) k3 w3 eP3 hps eU3 eS3 sT3 s9 fun H10 Z h10 => ⟨_, rfl, iteF ?_⟩
      exact ⟨_, _, _, _, _, _, _, _, _, _, _, rfl, h10, by rw [List.length_append]; exact Nat.add_le_add_right pl 1, by rw [List.length_append]; exact Nat.add_le_add_right pl2 1⟩
    | true =>
      refine ⟨.str t, rfl, .ref S, rfl, S, _, rfl, dg6, _, rfl, ?_⟩
      cases en : τ t with
      | none =>
        refine ⟨.ref wa, rfl, wa, wc, rfl, w2, fun H7 T m k sT w7 k7 => ?_⟩
        have eS7 := k7 _ _ nSa nSc (k2 _ _ nSa nSc nSP h5.ls.st)
        refine ⟨.ref S, rfl, .str t, rfl, S, _, rfl, DPut.k (k := Sum.inr t) eS7 (by rw [kvE_len, sizeLine_eq]; omega), ?_⟩
        have k3 : ∀ x o, x ≠ wa → x ≠ wc → x ≠ Pa → x ≠ S → H5 x = some o → upd H7 S (.dK (putK (kvE (gE (gR ta) τ) ks) (Sum.inr t) (.ref T))) x = some o := fun x o n1 n2 n3 n4 e => by
          rw [upd_ne n4]
          exact k7 _ _ n1 n2 (k2 _ _ n1 n2 n3 e)
        have tS : TupsStay H7 (upd H7 S (.dK (putK (kvE (gE (gR ta) τ) ks) (Sum.inr t) (.ref T)))) := fun x xs e => by
          rw [upd_ne (ne_of e eS7 (fun z => nomatch z))]
          exact e
        have eU7 : H7 U = some (.tup [.str t, oA ta (τ t)]) := k7.tup w2 eU2
        have eP3 : upd H7 S (.dK (putK (kvE (gE (gR ta) τ) ks) (Sum.inr t) (.ref T))) Pa = some (.lst ((ps ++ [U]).map V.ref)) := by
          rw [upd_ne nSP.symm]
          exact k7 _ _ ap.Pwa ap.Pwc eP2
        have eS3 : upd H7 S (.dK (putK (kvE (gE (gR ta) τ) ks) (Sum.inr t) (.ref T))) S = some (.dK (putK (kvE (gE (gR ta) τ) ks) (Sum.inr t) (.ref T))) := upd_same
        have w3 : WL (upd H7 S (.dK (putK (kvE (gE (gR ta) τ) ks) (Sum.inr t) (.ref T)))) wa wc := w7.upd nSa nSc
        have sT3 := sT.tups tS
        have eU3 := tS _ _ eU7
        generalize upd H7 S (.dK (putK (kvE (gE (gR ta) τ) ks) (Sum.inr t) (.ref T))) = H8 at k3 eP3 eS3 w3 sT3 eU3
        obtain ⟨R, K2, e1, e2, _⟩ := id sT3.at_
        have dg2 : DGet H8 S (.str t) (some (.ref T)) := by
          have := DGet.k (k := Sum.inr t) eS3
          rw [valV_put, if_pos rfl] at this
          exact this
        have rl : (rowS (m : Int) (simD m k) (simO m k)).length ≤ 300 := rowS_len (r := simR m k) (sim_ok sT3.hm sT3.hn)
        refine ⟨.ref d, rfl, .str t, rfl, _, _, rfl, rfl, by rw [e5, sizeLine_eq]; omega, _, _, rfl, rfl, by rw [al, e5, e6, sizeLine_eq]; omega, .ref S, rfl, .str t, rfl, S, .ref T, rfl, dg2, T, _, 0, .ref R, rfl, rfl, SqT.of e1, atI_nat (j := 0) rfl, R, (m : Int), simO m k, simD m k, rfl, e2, sim_ok sT3.hm sT3.hn, fun H9 s9 => ⟨_, _, rfl, rfl, by rw [al, al, e5, e6, sizeLine_eq]; omega, ?_⟩⟩
        refine conv82 (G := tNil) ?_
        refine h5.said ap tm hnt (by omega) (by omega) k3 w3 eP3 hps eU3 eS3 sT3 s9 fun H10 Z h10 => ⟨_, rfl, iteF ?_⟩
        exact ⟨_, _, _, _, _, _, _, _, _, _, _, rfl, h10, by rw [List.length_append]; exact Nat.add_le_add_right pl 1, by rw [List.length_append]; exact Nat.add_le_add_right pl2 1⟩
      | some k0 =>
        refine ⟨.ref wa, rfl, wa, wc, 2, rfl, by decide, by decide, w2, fun HY y y0 y1 wY kY => ⟨rfl, _, rfl, ?_⟩⟩
        have eU2 := kY.tup w2 eU2
        have eP2 := kY _ _ ap.Pwa ap.Pwc eP2
        have k2 : ∀ x o, x ≠ wa → x ≠ wc → x ≠ Pa → H5 x = some o → HY x = some o := fun x o n1 n2 n3 e => kY _ _ n1 n2 (k2 x o n1 n2 n3 e)
        have w2 := wY
        obtain ⟨b2, hb2⟩ : ∃ b2 : Bool, b2 = decide (V.int y = V.int 0) := ⟨_, rfl⟩
        rw [← hb2]
        clear hb2
        cases b2 with
        | false =>
          refine ⟨.ref wa, rfl, wa, wc, rfl, w2, fun H7 T m k sT w7 k7 => ?_⟩
          have eS7 := k7 _ _ nSa nSc (k2 _ _ nSa nSc nSP h5.ls.st)
          refine ⟨.ref S, rfl, .str t, rfl, S, _, rfl, DPut.k (k := Sum.inr t) eS7 (by rw [kvE_len, sizeLine_eq]; omega), ?_⟩
          have k3 : ∀ x o, x ≠ wa → x ≠ wc → x ≠ Pa → x ≠ S → H5 x = some o → upd H7 S (.dK (putK (kvE (gE (gR ta) τ) ks) (Sum.inr t) (.ref T))) x = some o := fun x o n1 n2 n3 n4 e => by
            rw [upd_ne n4]
            exact k7 _ _ n1 n2 (k2 _ _ n1 n2 n3 e)
          have tS : TupsStay H7 (upd H7 S (.dK (putK (kvE (gE (gR ta) τ) ks) (Sum.inr t) (.ref T)))) := fun x xs e => by
            rw [upd_ne (ne_of e eS7 (fun z => nomatch z))]
            exact e
          have eU7 : H7 U = some (.tup [.str t, oA ta (τ t)]) := k7.tup w2 eU2
          have eP3 : upd H7 S (.dK (putK (kvE (gE (gR ta) τ) ks) (Sum.inr t) (.ref T))) Pa = some (.lst ((ps ++ [U]).map V.ref)) := by
            rw [upd_ne nSP.symm]
            exact k7 _ _ ap.Pwa ap.Pwc eP2
          have eS3 : upd H7 S (.dK (putK (kvE (gE (gR ta) τ) ks) (Sum.inr t) (.ref T))) S = some (.dK (putK (kvE (gE (gR ta) τ) ks) (Sum.inr t) (.ref T))) := upd_same
          have w3 : WL (upd H7 S (.dK (putK (kvE (gE (gR ta) τ) ks) (Sum.inr t) (.ref T)))) wa wc := w7.upd nSa nSc
          have sT3 := sT.tups tS
          have eU3 := tS _ _ eU7
          generalize upd H7 S (.dK (putK (kvE (gE (gR ta) τ) ks) (Sum.inr t) (.ref T))) = H8 at k3 eP3 eS3 w3 sT3 eU3
          obtain ⟨R, K2, e1, e2, _⟩ := id sT3.at_
          have dg2 : DGet H8 S (.str t) (some (.ref T)) := by
            have := DGet.k (k := Sum.inr t) eS3
            rw [valV_put, if_pos rfl] at this
            exact this
          have rl : (rowS (m : Int) (simD m k) (simO m k)).length ≤ 300 := rowS_len (r := simR m k) (sim_ok sT3.hm sT3.hn)
          refine ⟨.ref d, rfl, .str t, rfl, _, _, rfl, rfl, by rw [e5, sizeLine_eq]; omega, _, _, rfl, rfl, by rw [al, e5, e6, sizeLine_eq]; omega, .ref S, rfl, .str t, rfl, S, .ref T, rfl, dg2, T, _, 0, .ref R, rfl, rfl, SqT.of e1, atI_nat (j := 0) rfl, R, (m : Int), simO m k, simD m k, rfl, e2, sim_ok sT3.hm sT3.hn, fun H9 s9 => ⟨_, _, rfl, rfl, by rw [al, al, e5, e6, sizeLine_eq]; omega, ?_⟩⟩
          refine conv82 (G := tNil) ?_
          refine h5.said ap tm hnt (by omega) (by omega) k3 w3 eP3 hps eU3 eS3 sT3 s9 fun H10 Z h10 => ⟨_, rfl, iteF ?_⟩
          exact ⟨_, _, _, _, _, _, _, _, _, _, _, rfl, h10, by rw [List.length_append]; exact Nat.add_le_add_right pl 1, by rw [List.length_append]; exact Nat.add_le_add_right pl2 1⟩
        | true =>
          have eSY := k2 _ _ nSa nSc nSP h5.ls.st
          have val : valV (kvE (gE (gR ta) τ) ks) (Sum.inr t) = some (.ref (ta k0)) := by
            rw [kd_val h5.ls.ks, en]
            rfl
          refine ⟨.ref S, rfl, S, rfl, .inl ⟨_, .inl eSY⟩, .str t, rfl, _, Sum.inr t, .ref (ta k0), eSY, rfl, val, ?_⟩
          have k3 : ∀ x o, x ≠ wa → x ≠ wc → x ≠ Pa → x ≠ S → H5 x = some o → upd HY S (.dK (dropK (kvE (gE (gR ta) τ) ks) (Sum.inr t))) x = some o := fun x o n1 n2 n3 n4 e => by
            rw [upd_ne n4]
            exact k2 _ _ n1 n2 n3 e
          have eP3 : upd HY S (.dK (dropK (kvE (gE (gR ta) τ) ks) (Sum.inr t))) Pa = some (.lst ((ps ++ [U]).map V.ref)) := by
            rw [upd_ne nSP.symm]
            exact eP2
          have eU3 : upd HY S (.dK (dropK (kvE (gE (gR ta) τ) ks) (Sum.inr t))) U = some (.tup [.str t, oA ta (τ t)]) := by
            rw [upd_ne (ne_of eU2 eSY (fun z => nomatch z))]
            exact eU2
          have eS3 : upd HY S (.dK (dropK (kvE (gE (gR ta) τ) ks) (Sum.inr t))) S = some (.dK (dropK (kvE (gE (gR ta) τ) ks) (Sum.inr t))) := upd_same
          have w3 : WL (upd HY S (.dK (dropK (kvE (gE (gR ta) τ) ks) (Sum.inr t)))) wa wc := w2.upd nSa nSc
          generalize upd HY S (.dK (dropK (kvE (gE (gR ta) τ) ks) (Sum.inr t))) = H8 at k3 eP3 eU3 eS3 w3
          refine ⟨.ref d, rfl, .str t, rfl, _, _, rfl, rfl, by rw [e7, sizeLine_eq]; omega, ?_⟩
          refine conv82 (G := tNil) ?_
          refine h5.saidF ap tm hnt (by omega) en k3 w3 eP3 hps eU3 eS3 (Same.refl H8) fun H10 h10 => ⟨_, rfl, iteF ?_⟩
          exact ⟨_, _, _, _, _, _, _, _, _, _, _, rfl, h10, by rw [List.length_append]; exact Nat.add_le_add_right pl 1, by rw [List.length_append]; exact Nat.add_le_add_right pl2 1⟩
  clear h8 pl
  obtain ⟨y8, y9, c, ta, ba, mm, nn, τ, ks, kb, past, rfl, h5, pl, pl2⟩ := hp
  have nl8 : 8 ≤ n := by omega
  refine ⟨.ref d, rfl, .ref Nm, rfl, .ref S, rfl, d, Nm, S, p, Kd, Dn, Lk, nms, c, ta, ba, mm, nn, τ, ks, kb, past, rfl, h5.bd, h5.ls, by omega, hnm, fun H9 D bd9 keep9 => ⟨_, rfl, iteF ?_⟩⟩
  have h9 := h5.kin bd9 keep9
  clear bd9 keep9 h5
  have pl16 : 16 ≤ past.length := by omega
  have pl3 : past.length ≤ 300 := by omega
  clear pl pl2
  refine ⟨.ref wa, rfl, wa, wc, 12, rfl, by decide, by decide, h9.wl, fun H10 z2 z20 z21 w10 k10 => ⟨1, z2, rfl, rfl, 1 + z2, rfl, by omega, by omega, ?_⟩⟩
  have h10 := h9.kp ap k10 w10
  clear h9 k10 w10
  obtain ⟨L0, hL0⟩ : ∃ L0, L0 = past.length := ⟨_, rfl⟩
  refine for_range (lo := 0) (n := (1 + z2).toNat) (fun i σ H5 => ∃ (y8 y9 y10 : Option V) (τ : Tau) (ks kb : List Str) (past : List Ev), σ = [some (.ref a), some (.ref wa), some (.int (n : Int)), some (.ref Nm), some (.ref d), some (.ref S), some (.ref Pa), some (.bl far), y8, y9, y10, none] ∧ W82 P w C CD wa wc d p Kd Dn D S Pa Nm H5 nms c ta ba mm nn τ ks kb past ∧ past.length + i = L0)
    ⟨_, _, none, τ, ks, kb, past, rfl, h10, by omega⟩ (fun i σ H5 hi hp => ?_) (fun σ H5 hp => ?_)
  · obtain ⟨y8, y9, y10, τ, ks, kb, past1, rfl, h5, pl⟩ := hp
    have pne : past1 ≠ [] := fun z => by
      rw [z] at pl
      simp at pl
      omega
    obtain ⟨past0, e, rfl⟩ : ∃ past0 e, past1 = past0 ++ [e] := ⟨past1.dropLast, past1.getLast pne, (List.dropLast_concat_getLast pne).symm⟩
    rw [List.length_append] at pl
    have pl : past0.length + 1 + i = L0 := pl
    obtain ⟨ps, ePa, hps⟩ := id h5.pa
    obtain ⟨_, cs5, r5, s5, ea, ec⟩ := id h5.wl
    have nSa : S ≠ wa := ne_of h5.ls.st ea (fun z => nomatch z)
    have nSc : S ≠ wc := ne_of h5.ls.st ec (fun z => nomatch z)
    have nSP : S ≠ Pa := ne_of h5.ls.st ePa (fun z => nomatch z)
    have ksl := h5.bd.rg.few h5.ls.ks
    obtain ⟨ps0, U, rfl, hps0, eU⟩ := prUnsnoc hps
    obtain ⟨t', o⟩ := e
    have conv82 : ∀ {G : TA} {Q : List V → Hp → Prop} {v : V} {s0 : L2.St} {h0 : Hp}, Q [v] h0 → tCons (tC v) tNil s0 h0 Q := fun h => h
    refine ⟨.ref Pa, rfl, .inl ⟨rfl, _, .inl (.inl ePa)⟩, Pa, _, .ref U, rfl, rfl, ePa, by rw [List.map_append, List.length_append]; simp, ?_⟩
    have ed : ((ps0 ++ [U]).map V.ref).dropLast = ps0.map V.ref := by rw [List.map_append]; simp
    rw [ed]
    have k4 : ∀ x u, x ≠ Pa → H5 x = some u → upd H5 Pa (.lst (ps0.map V.ref)) x = some u := fun x u n e => by
      rw [upd_ne n]
      exact e
    have eP4 : upd H5 Pa (.lst (ps0.map V.ref)) Pa = some (.lst (ps0.map V.ref)) := upd_same
    have w4 : WL (upd H5 Pa (.lst (ps0.map V.ref))) wa wc := h5.wl.upd ap.Pwa ap.Pwc
    generalize upd H5 Pa (.lst (ps0.map V.ref)) = H4 at k4 eP4 w4
    have t4 : TupsStay H5 H4 := fun x xs e => k4 x _ (ne_of e ePa (fun z => nomatch z)) e
    have eS4 := k4 _ _ nSP h5.ls.st
    refine ⟨U, _, rfl, SqT.of (t4 _ _ eU), rfl, _, _, rfl, _, _, rfl, rfl, ?_⟩
    refine ⟨fun σ' H' => σ' = [some (.ref a), some (.ref wa), some (.int (n : Int)), some (.ref Nm), some (.ref d), some (.ref S), some (.ref Pa), some (.bl far), some (.int (0 + (i : Int))), some (.str t'), some (oA ta o), none] ∧ H' S = some (.dK (kvE (gE (gR ta) (setT τ t' none)) (keysDrop ks t'))) ∧ ∀ x u, x ≠ S → H4 x = some u → H' x = some u, ?_, ?_⟩
    · have dg := DGet.k (k := Sum.inr t') eS4
      rw [kd_val h5.ls.ks] at dg
      refine ⟨.str t', rfl, .ref S, rfl, S, _, rfl, dg, _, rfl, ?_⟩
      cases en : τ t' with
      | none =>
        refine iteF ⟨rfl, ?_, fun _ _ _ z => z⟩
        have nin : t' ∉ ks := fun z => by
          have := (h5.ls.ks.mem t').mp z
          rw [en] at this
          cases this
        have ekd : keysDrop ks t' = ks := List.filter_eq_self.mpr fun x hx => decide_eq_true fun z => nin (z ▸ hx)
        have := kvE_drop (gE (gR ta) τ) ks t'
        rw [kd_drop, ekd] at this
        rw [ekd, this]
        exact eS4
      | some k0 =>
        have val : valV (kvE (gE (gR ta) τ) ks) (Sum.inr t') = some (.ref (ta k0)) := by
          rw [kd_val h5.ls.ks, en]
          rfl
        exact iteT ⟨.ref S, rfl, S, rfl, .inl ⟨_, .inl eS4⟩, .str t', rfl, _, Sum.inr t', .ref (ta k0), eS4, rfl, val, rfl, by rw [upd_same, kd_drop], fun x u n1 z => by rw [upd_ne n1]; exact z⟩
    rintro σ5 H6 ⟨rfl, eS5, k5⟩
    refine ⟨fun σ' H' => σ' = [some (.ref a), some (.ref wa), some (.int (n : Int)), some (.ref Nm), some (.ref d), some (.ref S), some (.ref Pa), some (.bl far), some (.int (0 + (i : Int))), some (.str t'), some (oA ta o), none] ∧ (∃ ks', H' S = some (.dK (kvE (gE (gR ta) (setT τ t' o)) ks')) ∧ KsOk (setT τ t' o) ks') ∧ ∀ x u, x ≠ S → H4 x = some u → H' x = some u, ?_, ?_⟩
    · refine ⟨oA ta o, rfl, rfl, _, rfl, ?_⟩
      cases o with
      | none => exact iteF ⟨rfl, ⟨_, eS5, h5.ls.ks.drop t'⟩, k5⟩
      | some k0 =>
        have hdl : (keysDrop ks t').length ≤ 60 := Nat.le_trans (List.length_filter_le _ _) (by omega)
        refine iteT ⟨.ref (ta k0), rfl, .ref S, rfl, .str t', rfl, S, _, rfl, DPut.k (k := Sum.inr t') eS5 (by rw [kvE_len, sizeLine_eq]; omega), rfl, ⟨keysPut (keysDrop ks t') t', ?_, ?_⟩, fun x u n1 z => by rw [upd_ne n1]; exact k5 _ _ n1 z⟩
        · rw [upd_same]
          have := kd_put (gR ta) (setT τ t' none) (keysDrop ks t') t' k0
          rw [setT_set] at this
          exact congrArg (fun z => some (HO.dK z)) this
        · have := (h5.ls.ks.drop t').put t' k0
          rw [setT_set] at this
          exact this
    rintro σ6 H7 ⟨rfl, ⟨ks', eS6, hks'⟩, k6⟩
    refine ⟨.ref d, rfl, ?_⟩
    refine conv82b (G := tNil) ?_
    refine h5.saidB ap (by omega) (fun x u n1 n2 n3 n4 z => k6 _ _ n4 (k4 _ _ n3 z)) ?_ (k6 _ _ nSP.symm eP4) hps0 eS6 hks' (Same.refl H7) fun H8 kb' h8 => ⟨_, rfl, iteF ?_⟩
    · obtain ⟨n0, cs4, r4, s4, ea4, ec4⟩ := w4
      exact ⟨n0, cs4, r4, s4, k6 _ _ nSa.symm ea4, k6 _ _ nSc.symm ec4⟩
    · exact ⟨_, _, _, _, _, _, _, rfl, h8, by omega⟩
  obtain ⟨y8, y9, y10, τ, ks, kb, past, rfl, h5, pl⟩ := hp
  clear h10 hL0 pl16 pl3
  refine ⟨.ref d, rfl, .ref Nm, rfl, .ref S, rfl, d, Nm, S, p, Kd, Dn, D, nms, c, ta, ba, mm, nn, τ, ks, kb, past, rfl, h5.bd, h5.ls, by omega, hnm, fun HX D2 bd9 keep9 => ⟨_, rfl, iteF ?_⟩⟩
  have h9 := h5.kin bd9 keep9
  clear bd9 keep9 h5 pl
  refine ⟨.bl far, rfl, far, rfl, ?_⟩
  cases far with
  | true =>
    obtain ⟨ps, ePa, hps⟩ := id h9.pa
    have psl := awLen hps
    obtain ⟨tsD, eDn, _⟩ := id h9.bd.bk.done
    have nPK : Pa ≠ Kd := ne_of ePa h9.bd.bk.kept (fun z => nomatch z)
    refine ⟨.ref Pa, rfl, Pa, rfl, ⟨_, .inl (.inl ePa)⟩, for_list (K := K) (a := Pa) (xs := ps.map V.ref) (fun i σ H' => ∃ (y11 : Option V) (τ' : Tau) (kb' : List Str), σ = [some (.ref a), some (.ref wa), some (.int (n : Int)), some (.ref Nm), some (.ref d), some (.ref S), some (.ref Pa), some (.bl true), y8, y9, y10, y11] ∧ BD P w C CD H' d p Kd Dn D2 nms c ba (sR mm nn) τ' kb' (past.take (past.length - i)) ∧ HistOk (past.take (past.length - i)) τ' ∧ und (past.take (past.length - i)) τ' = (fun _ => none) ∧ ∀ x o, x ≠ Kd → x ≠ Dn → HX x = some o → H' x = some o)
      ⟨none, τ, kb, rfl, by rw [Nat.sub_zero, List.take_length]; exact h9.bd, by rw [Nat.sub_zero, List.take_length]; exact h9.hi, by rw [Nat.sub_zero, List.take_length]; exact h9.un, fun _ _ _ _ z => z⟩ (fun i σ H' _ hp => ?_) (fun i x σ H' hx hp => ?_) (fun σ H' hp => ?_)⟩
    · obtain ⟨_, _, _, _, _, _, _, st⟩ := hp
      exact .inl (.inl (st _ _ nPK ap.PD ePa))
    · obtain ⟨y11, τ', kb', rfl, bd', hi', un', st⟩ := hp
      have hil := (List.getElem?_eq_some_iff.mp hx).1
      rw [List.length_map] at hil
      obtain ⟨e, he⟩ : ∃ e, past[past.length - (i + 1)]? = some e := ⟨_, List.getElem?_eq_getElem (by omega)⟩
      have tk : past.take (past.length - i) = past.take (past.length - (i + 1)) ++ [e] := by
        rw [show past.length - i = (past.length - (i + 1)) + 1 by omega, List.take_add_one, he]
        rfl
      rw [tk] at bd' hi' un'
      obtain ⟨hn1, hi0⟩ := (hist_snoc _ e τ').mp hi'
      rw [und_snoc] at un'
      refine ⟨.ref d, rfl, ?_⟩
      refine conv82b (G := tNil) ?_
      refine bd'.saidB (by omega) hn1 fun H4 kb4 bd4 kp4 => ⟨_, rfl, iteF ?_⟩
      exact ⟨_, _, _, rfl, bd4, hi0, un', fun x o n1 n2 z => kp4 x o n1 n2 (st x o n1 n2 z)⟩
    obtain ⟨y11, τ', kb', rfl, bd', _, un', st⟩ := hp
    rw [List.length_map, show past.length - ps.length = 0 by omega, List.take_zero] at bd' un'
    have un2 : τ' = fun _ => none := un'
    subst un2
    refine ⟨.ref d, rfl, .ref Nm, rfl, fun Sn hSn => ?_⟩
    have sS := same_new (o := .dK []) hSn
    have tt : TupsStay HX H' := fun x xs z => st x _ (ne_of z h9.bd.bk.kept (fun z => nomatch z)) (ne_of z eDn (fun z => nomatch z)) z
    refine ⟨d, Nm, Sn, p, Kd, Dn, D2, nms, c, ta, ba, mm, nn, (fun _ => none), [], kb', [], rfl, bd'.same sS, ⟨upd_same, ⟨List.nodup_nil, fun x => ⟨(fun z => nomatch z), (fun z => nomatch z)⟩⟩, fun k hk => ((h9.ls.sim k hk).tups tt).tups (Same.tups sS)⟩, by omega, hnm, fun H5 D3 _ _ => rfl⟩
  | false =>
    refine ⟨.ref wa, rfl, wa, wc, 3, rfl, by decide, by decide, h9.wl, fun HY y y0 y1 wY kY => ⟨rfl, _, rfl, ?_⟩⟩
    have h9 := h9.kp ap kY wY
    obtain ⟨b2, hb2⟩ : ∃ b2 : Bool, b2 = decide (V.int y = V.int 0) := ⟨_, rfl⟩
    rw [← hb2]
    clear hb2 kY wY
    cases b2 with
    | true =>
      obtain ⟨ps, ePa, hps⟩ := id h9.pa
      have psl := awLen hps
      obtain ⟨tsD, eDn, _⟩ := id h9.bd.bk.done
      have nPK : Pa ≠ Kd := ne_of ePa h9.bd.bk.kept (fun z => nomatch z)
      refine ⟨.ref Pa, rfl, Pa, rfl, ⟨_, .inl (.inl ePa)⟩, for_list (K := K) (a := Pa) (xs := ps.map V.ref) (fun i σ H' => ∃ (y11 : Option V) (τ' : Tau) (kb' : List Str), σ = [some (.ref a), some (.ref wa), some (.int (n : Int)), some (.ref Nm), some (.ref d), some (.ref S), some (.ref Pa), some (.bl false), y8, y9, y10, y11] ∧ BD P w C CD H' d p Kd Dn D2 nms c ba (sR mm nn) τ' kb' (past.take (past.length - i)) ∧ HistOk (past.take (past.length - i)) τ' ∧ und (past.take (past.length - i)) τ' = (fun _ => none) ∧ ∀ x o, x ≠ Kd → x ≠ Dn → HY x = some o → H' x = some o)
        ⟨none, τ, kb, rfl, by rw [Nat.sub_zero, List.take_length]; exact h9.bd, by rw [Nat.sub_zero, List.take_length]; exact h9.hi, by rw [Nat.sub_zero, List.take_length]; exact h9.un, fun _ _ _ _ z => z⟩ (fun i σ H' _ hp => ?_) (fun i x σ H' hx hp => ?_) (fun σ H' hp => ?_)⟩
      · obtain ⟨_, _, _, _, _, _, _, st⟩ := hp
        exact .inl (.inl (st _ _ nPK ap.PD ePa))
      · obtain ⟨y11, τ', kb', rfl, bd', hi', un', st⟩ := hp
        have hil := (List.getElem?_eq_some_iff.mp hx).1
        rw [List.length_map] at hil
        obtain ⟨e, he⟩ : ∃ e, past[past.length - (i + 1)]? = some e := ⟨_, List.getElem?_eq_getElem (by omega)⟩
        have tk : past.take (past.length - i) = past.take (past.length - (i + 1)) ++ [e] := by
          rw [show past.length - i = (past.length - (i + 1)) + 1 by omega, List.take_add_one, he]
          rfl
        rw [tk] at bd' hi' un'
        obtain ⟨hn1, hi0⟩ := (hist_snoc _ e τ').mp hi'
        rw [und_snoc] at un'
        refine ⟨.ref d, rfl, ?_⟩
        refine conv82b (G := tNil) ?_
        refine bd'.saidB (by omega) hn1 fun H4 kb4 bd4 kp4 => ⟨_, rfl, iteF ?_⟩
        exact ⟨_, _, _, rfl, bd4, hi0, un', fun x o n1 n2 z => kp4 x o n1 n2 (st x o n1 n2 z)⟩
      obtain ⟨y11, τ', kb', rfl, bd', _, un', st⟩ := hp
      rw [List.length_map, show past.length - ps.length = 0 by omega, List.take_zero] at bd' un'
      have un2 : τ' = fun _ => none := un'
      subst un2
      refine ⟨.ref d, rfl, .ref Nm, rfl, fun Sn hSn => ?_⟩
      have sS := same_new (o := .dK []) hSn
      have tt : TupsStay HY H' := fun x xs z => st x _ (ne_of z h9.bd.bk.kept (fun z => nomatch z)) (ne_of z eDn (fun z => nomatch z)) z
      refine ⟨d, Nm, Sn, p, Kd, Dn, D2, nms, c, ta, ba, mm, nn, (fun _ => none), [], kb', [], rfl, bd'.same sS, ⟨upd_same, ⟨List.nodup_nil, fun x => ⟨(fun z => nomatch z), (fun z => nomatch z)⟩⟩, fun k hk => ((h9.ls.sim k hk).tups tt).tups (Same.tups sS)⟩, by omega, hnm, fun H5 D3 _ _ => rfl⟩
    | false =>
      have far7 := h9.far ap
      have eSx := h9.ls.st
      refine ⟨S, _, eSx, trivial, fun od => ?_⟩
      have kF : ∀ x o, x ≠ S → HY x = some o → upd HY S (.frz od (.dK (kvE (gE (gR ta) τ) ks))) x = some o := fun x o m e => by
        rw [upd_ne m]
        exact e
      have eF : upd HY S (.frz od (.dK (kvE (gE (gR ta) τ) ks))) S = some (.frz od (.dK (kvE (gE (gR ta) τ) ks))) := upd_same
      have tF : TupsStay HY (upd HY S (.frz od (.dK (kvE (gE (gR ta) τ) ks)))) := fun x xs e => kF x _ (ne_of e eSx (fun z => nomatch z)) e
      have bdF := h9.bd.stay (H' := upd HY S (.frz od (.dK (kvE (gE (gR ta) τ) ks)))) (fun x o hx e => kF x o (far7 x hx).2.2.2 e) tF
      have simF := fun k hk => (h9.ls.sim k hk).tups tF
      generalize upd HY S (.frz od (.dK (kvE (gE (gR ta) τ) ks))) = HF at kF eF tF bdF simF
      refine ⟨.ref S, rfl, S, od, rfl, .inl ⟨_, eF, fun W hW => ?_⟩⟩
      refine lc_it walk_keys (fun i H6 => H6 W = some (.lst []) ∧ Same HF H6) ⟨upd_same, same_new hW⟩ (fun i H6 _ h6 => h6.2 _ _ eF) (fun i x H6 H7 hi h6 hy => ?_) (fun H6 h6 => ?_)
      · obtain ⟨eW, s6⟩ := h6
        obtain ⟨rfl, k0, v, hk, rfl⟩ := hy
        unfold kvE at hk
        rw [List.getElem?_map] at hk
        obtain ⟨t, ht, hkv⟩ := Option.map_eq_some_iff.mp hk
        obtain ⟨rfl, rfl⟩ := Prod.mk.inj hkv
        have tks := List.mem_of_getElem? ht
        obtain ⟨q, en⟩ : ∃ q, τ t = some q := by
          have := (h9.ls.ks.mem t).mp tks
          cases e : τ t with
          | none => rw [e] at this; cases this
          | some q => exact ⟨q, rfl⟩
        obtain ⟨tm, hq⟩ := h9.bd.rg t q en
        have hnt := hnm t tm
        have n8 := nameS_len hnt
        have e5 : ("show " : Str).length = 5 := by decide +kernel
        obtain ⟨R, K2, e1, e2, _⟩ := id (simF q hq).at_
        have dg : DGet H7 S (.str t) (some (.ref (ta q))) := .inl ⟨_, Sum.inr t, .inr ⟨od, s6 _ _ eF⟩, rfl, by rw [kd_val h9.ls.ks, en]; rfl⟩
        refine ⟨rfl, .ref d, rfl, .str t, rfl, _, _, rfl, rfl, by rw [e5, sizeLine_eq]; omega, .ref S, rfl, .str t, rfl, S, .ref (ta q), rfl, dg, ta q, _, 0, .ref R, rfl, rfl, SqT.of (s6 _ _ e1), atI_nat (j := 0) rfl, R, (mm q : Int), simO (mm q) (nn q), simD (mm q) (nn q), rfl, (Same.tups s6).row e2, sim_ok (simF q hq).hm (simF q hq).hn, fun H8 s8 => ?_⟩
        refine conv82c ?_
        refine (bdF.same (s6.trans s8)).saidS hnt en fun H10 s10 => ⟨_, rfl, iteF ⟨s10 _ _ (s8 _ _ eW), s6.trans (s8.trans s10)⟩⟩
      · obtain ⟨eW, s6⟩ := h6
        refine ⟨s6 _ _ eF, (by show 0 ≤ sizeLine; decide), fun Z hZ => ?_⟩
        have nWS : W ≠ S := (ne_of_none eF hW).symm
        have sZ := same_new (o := .lst []) hZ
        exact ⟨W, Z, [], rfl, rfl, sZ _ _ (by rw [upd_ne nWS]; exact eW), upd_same, rfl⟩
theorem awL1 {α : Type} : ∀ {l : List α}, l.length = 1 → ∃ a0, l = [a0]
  | [a0], _ => ⟨a0, rfl⟩
theorem awL2 {α : Type} : ∀ {l : List α}, l.length = 2 → ∃ a0 a1, l = [a0, a1]
  | [a0, a1], _ => ⟨a0, a1, rfl⟩
theorem awL3 {α : Type} : ∀ {l : List α}, l.length = 3 → ∃ a0 a1 a2, l = [a0, a1, a2]
  | [a0, a1, a2], _ => ⟨a0, a1, a2, rfl⟩
theorem awL4 {α : Type} : ∀ {l : List α}, l.length = 4 → ∃ a0 a1 a2 a3, l = [a0, a1, a2, a3]
  | [a0, a1, a2, a3], _ => ⟨a0, a1, a2, a3, rfl⟩
theorem awL5 {α : Type} : ∀ {l : List α}, l.length = 5 → ∃ a0 a1 a2 a3 a4, l = [a0, a1, a2, a3, a4]
  | [a0, a1, a2, a3, a4], _ => ⟨a0, a1, a2, a3, a4, rfl⟩
set_option maxHeartbeats 4000000 in
theorem all_mk {l : PySem.W.OpenLaw} {w : World} {K : PySem.W.Frag} {h : Heap} {mg : Str → Option Value} {fa : Addr} (X : K.In h) (G : h.Ns mainGlobals mg) (hfa : mg "law" = some (.ref fa))
    {f0 : Addr} {od0 an0 : Option Addr} {sl0 : Array (Option Value)} {oc0 kV0 dc0 pm0 cd0 ct0 : Value}
    {f1 : Addr} {od1 an1 : Option Addr} {sl1 : Array (Option Value)} {oc1 kV1 dc1 pm1 cd1 ct1 : Value}
    {f2 : Addr} {od2 an2 : Option Addr} {sl2 : Array (Option Value)} {oc2 kV2 dc2 pm2 cd2 ct2 : Value}
    {f3 : Addr} {od3 an3 : Option Addr} {sl3 : Array (Option Value)} {oc3 kV3 dc3 pm3 cd3 ct3 : Value}
    {f4 : Addr} {od4 an4 : Option Addr} {sl4 : Array (Option Value)} {oc4 kV4 dc4 pm4 cd4 ct4 : Value}
    {f5 : Addr} {od5 an5 : Option Addr} {sl5 : Array (Option Value)} {oc5 kV5 dc5 pm5 cd5 ct5 : Value}
    {f6 : Addr} {od6 an6 : Option Addr} {sl6 : Array (Option Value)} {oc6 kV6 dc6 pm6 cd6 ct6 : Value}
    {f7 : Addr} {od7 an7 : Option Addr} {sl7 : Array (Option Value)} {oc7 kV7 dc7 pm7 cd7 ct7 : Value}
    {f8 : Addr} {od8 an8 : Option Addr} {sl8 : Array (Option Value)} {oc8 kV8 dc8 pm8 cd8 ct8 : Value}
    {f9 : Addr} {od9 an9 : Option Addr} {sl9 : Array (Option Value)} {oc9 kV9 dc9 pm9 cd9 ct9 : Value}
    {f10 : Addr} {od10 an10 : Option Addr} {sl10 : Array (Option Value)} {oc10 kV10 dc10 pm10 cd10 ct10 : Value}
    {f11 : Addr} {od11 an11 : Option Addr} {sl11 : Array (Option Value)} {oc11 kV11 dc11 pm11 cd11 ct11 : Value}
    {f12 : Addr} {od12 an12 : Option Addr} {sl12 : Array (Option Value)} {oc12 kV12 dc12 pm12 cd12 ct12 : Value}
    {f13 : Addr} {od13 an13 : Option Addr} {sl13 : Array (Option Value)} {oc13 kV13 dc13 pm13 cd13 ct13 : Value}
    {f14 : Addr} {od14 an14 : Option Addr} {sl14 : Array (Option Value)} {oc14 kV14 dc14 pm14 cd14 ct14 : Value}
    {f15 : Addr} {od15 an15 : Option Addr} {sl15 : Array (Option Value)} {oc15 kV15 dc15 pm15 cd15 ct15 : Value}
    {f16 : Addr} {od16 an16 : Option Addr} {sl16 : Array (Option Value)} {oc16 kV16 dc16 pm16 cd16 ct16 : Value}
    {f17 : Addr} {od17 an17 : Option Addr} {sl17 : Array (Option Value)} {oc17 kV17 dc17 pm17 cd17 ct17 : Value}
    {f18 : Addr} {od18 an18 : Option Addr} {sl18 : Array (Option Value)} {oc18 kV18 dc18 pm18 cd18 ct18 : Value}
    {f19 : Addr} {od19 an19 : Option Addr} {sl19 : Array (Option Value)} {oc19 kV19 dc19 pm19 cd19 ct19 : Value}
    {f20 : Addr} {od20 an20 : Option Addr} {sl20 : Array (Option Value)} {oc20 kV20 dc20 pm20 cd20 ct20 : Value}
    {f21 : Addr} {od21 an21 : Option Addr} {sl21 : Array (Option Value)} {oc21 kV21 dc21 pm21 cd21 ct21 : Value}
    {f22 : Addr} {od22 an22 : Option Addr} {sl22 : Array (Option Value)} {oc22 kV22 dc22 pm22 cd22 ct22 : Value}
    {f23 : Addr} {od23 an23 : Option Addr} {sl23 : Array (Option Value)} {oc23 kV23 dc23 pm23 cd23 ct23 : Value}
    {f24 : Addr} {od24 an24 : Option Addr} {sl24 : Array (Option Value)} {oc24 kV24 dc24 pm24 cd24 ct24 : Value}
    {f25 : Addr} {od25 an25 : Option Addr} {sl25 : Array (Option Value)} {oc25 kV25 dc25 pm25 cd25 ct25 : Value}
    {f26 : Addr} {od26 an26 : Option Addr} {sl26 : Array (Option Value)} {oc26 kV26 dc26 pm26 cd26 ct26 : Value}
    {f27 : Addr} {od27 an27 : Option Addr} {sl27 : Array (Option Value)} {oc27 kV27 dc27 pm27 cd27 ct27 : Value}
    {f28 : Addr} {od28 an28 : Option Addr} {sl28 : Array (Option Value)} {oc28 kV28 dc28 pm28 cd28 ct28 : Value}
    {f29 : Addr} {od29 an29 : Option Addr} {sl29 : Array (Option Value)} {oc29 kV29 dc29 pm29 cd29 ct29 : Value}
    {f30 : Addr} {od30 an30 : Option Addr} {sl30 : Array (Option Value)} {oc30 kV30 dc30 pm30 cd30 ct30 : Value}
    {f31 : Addr} {od31 an31 : Option Addr} {sl31 : Array (Option Value)} {oc31 kV31 dc31 pm31 cd31 ct31 : Value}
    {f32 : Addr} {od32 an32 : Option Addr} {sl32 : Array (Option Value)} {oc32 kV32 dc32 pm32 cd32 ct32 : Value}
    {f33 : Addr} {od33 an33 : Option Addr} {sl33 : Array (Option Value)} {oc33 kV33 dc33 pm33 cd33 ct33 : Value}
    {f34 : Addr} {od34 an34 : Option Addr} {sl34 : Array (Option Value)} {oc34 kV34 dc34 pm34 cd34 ct34 : Value}
    {f35 : Addr} {od35 an35 : Option Addr} {sl35 : Array (Option Value)} {oc35 kV35 dc35 pm35 cd35 ct35 : Value}
    {f36 : Addr} {od36 an36 : Option Addr} {sl36 : Array (Option Value)} {oc36 kV36 dc36 pm36 cd36 ct36 : Value}
    {f37 : Addr} {od37 an37 : Option Addr} {sl37 : Array (Option Value)} {oc37 kV37 dc37 pm37 cd37 ct37 : Value}
    {f38 : Addr} {od38 an38 : Option Addr} {sl38 : Array (Option Value)} {oc38 kV38 dc38 pm38 cd38 ct38 : Value}
    {f39 : Addr} {od39 an39 : Option Addr} {sl39 : Array (Option Value)} {oc39 kV39 dc39 pm39 cd39 ct39 : Value}
    {f40 : Addr} {od40 an40 : Option Addr} {sl40 : Array (Option Value)} {oc40 kV40 dc40 pm40 cd40 ct40 : Value}
    {f41 : Addr} {od41 an41 : Option Addr} {sl41 : Array (Option Value)} {oc41 kV41 dc41 pm41 cd41 ct41 : Value}
    {f42 : Addr} {od42 an42 : Option Addr} {sl42 : Array (Option Value)} {oc42 kV42 dc42 pm42 cd42 ct42 : Value}
    {f43 : Addr} {od43 an43 : Option Addr} {sl43 : Array (Option Value)} {oc43 kV43 dc43 pm43 cd43 ct43 : Value}
    {f44 : Addr} {od44 an44 : Option Addr} {sl44 : Array (Option Value)} {oc44 kV44 dc44 pm44 cd44 ct44 : Value}
    {f45 : Addr} {od45 an45 : Option Addr} {sl45 : Array (Option Value)} {oc45 kV45 dc45 pm45 cd45 ct45 : Value}
    {f46 : Addr} {od46 an46 : Option Addr} {sl46 : Array (Option Value)} {oc46 kV46 dc46 pm46 cd46 ct46 : Value}
    {f47 : Addr} {od47 an47 : Option Addr} {sl47 : Array (Option Value)} {oc47 kV47 dc47 pm47 cd47 ct47 : Value}
    {f48 : Addr} {od48 an48 : Option Addr} {sl48 : Array (Option Value)} {oc48 kV48 dc48 pm48 cd48 ct48 : Value}
    {f49 : Addr} {od49 an49 : Option Addr} {sl49 : Array (Option Value)} {oc49 kV49 dc49 pm49 cd49 ct49 : Value}
    {f50 : Addr} {od50 an50 : Option Addr} {sl50 : Array (Option Value)} {oc50 kV50 dc50 pm50 cd50 ct50 : Value}
    {f51 : Addr} {od51 an51 : Option Addr} {sl51 : Array (Option Value)} {oc51 kV51 dc51 pm51 cd51 ct51 : Value}
    {f52 : Addr} {od52 an52 : Option Addr} {sl52 : Array (Option Value)} {oc52 kV52 dc52 pm52 cd52 ct52 : Value}
    {f53 : Addr} {od53 an53 : Option Addr} {sl53 : Array (Option Value)} {oc53 kV53 dc53 pm53 cd53 ct53 : Value}
    {f54 : Addr} {od54 an54 : Option Addr} {sl54 : Array (Option Value)} {oc54 kV54 dc54 pm54 cd54 ct54 : Value}
    {f55 : Addr} {od55 an55 : Option Addr} {sl55 : Array (Option Value)} {oc55 kV55 dc55 pm55 cd55 ct55 : Value}
    {f56 : Addr} {od56 an56 : Option Addr} {sl56 : Array (Option Value)} {oc56 kV56 dc56 pm56 cd56 ct56 : Value}
    {f57 : Addr} {od57 an57 : Option Addr} {sl57 : Array (Option Value)} {oc57 kV57 dc57 pm57 cd57 ct57 : Value}
    {f58 : Addr} {od58 an58 : Option Addr} {sl58 : Array (Option Value)} {oc58 kV58 dc58 pm58 cd58 ct58 : Value}
    {f59 : Addr} {od59 an59 : Option Addr} {sl59 : Array (Option Value)} {oc59 kV59 dc59 pm59 cd59 ct59 : Value}
    {f60 : Addr} {od60 an60 : Option Addr} {sl60 : Array (Option Value)} {oc60 kV60 dc60 pm60 cd60 ct60 : Value}
    {f61 : Addr} {od61 an61 : Option Addr} {sl61 : Array (Option Value)} {oc61 kV61 dc61 pm61 cd61 ct61 : Value}
    {f62 : Addr} {od62 an62 : Option Addr} {sl62 : Array (Option Value)} {oc62 kV62 dc62 pm62 cd62 ct62 : Value}
    {f63 : Addr} {od63 an63 : Option Addr} {sl63 : Array (Option Value)} {oc63 kV63 dc63 pm63 cd63 ct63 : Value}
    {f64 : Addr} {od64 an64 : Option Addr} {sl64 : Array (Option Value)} {oc64 kV64 dc64 pm64 cd64 ct64 : Value}
    {f65 : Addr} {od65 an65 : Option Addr} {sl65 : Array (Option Value)} {oc65 kV65 dc65 pm65 cd65 ct65 : Value}
    {f66 : Addr} {od66 an66 : Option Addr} {sl66 : Array (Option Value)} {oc66 kV66 dc66 pm66 cd66 ct66 : Value}
    {f67 : Addr} {od67 an67 : Option Addr} {sl67 : Array (Option Value)} {oc67 kV67 dc67 pm67 cd67 ct67 : Value}
    {f68 : Addr} {od68 an68 : Option Addr} {sl68 : Array (Option Value)} {oc68 kV68 dc68 pm68 cd68 ct68 : Value}
    {f69 : Addr} {od69 an69 : Option Addr} {sl69 : Array (Option Value)} {oc69 kV69 dc69 pm69 cd69 ct69 : Value}
    {f70 : Addr} {od70 an70 : Option Addr} {sl70 : Array (Option Value)} {oc70 kV70 dc70 pm70 cd70 ct70 : Value}
    {f71 : Addr} {od71 an71 : Option Addr} {sl71 : Array (Option Value)} {oc71 kV71 dc71 pm71 cd71 ct71 : Value}
    {f72 : Addr} {od72 an72 : Option Addr} {sl72 : Array (Option Value)} {oc72 kV72 dc72 pm72 cd72 ct72 : Value}
    {f73 : Addr} {od73 an73 : Option Addr} {sl73 : Array (Option Value)} {oc73 kV73 dc73 pm73 cd73 ct73 : Value}
    {f74 : Addr} {od74 an74 : Option Addr} {sl74 : Array (Option Value)} {oc74 kV74 dc74 pm74 cd74 ct74 : Value}
    {f75 : Addr} {od75 an75 : Option Addr} {sl75 : Array (Option Value)} {oc75 kV75 dc75 pm75 cd75 ct75 : Value}
    {f76 : Addr} {od76 an76 : Option Addr} {sl76 : Array (Option Value)} {oc76 kV76 dc76 pm76 cd76 ct76 : Value}
    {f77 : Addr} {od77 an77 : Option Addr} {sl77 : Array (Option Value)} {oc77 kV77 dc77 pm77 cd77 ct77 : Value}
    {f78 : Addr} {od78 an78 : Option Addr} {sl78 : Array (Option Value)} {oc78 kV78 dc78 pm78 cd78 ct78 : Value}
    {f79 : Addr} {od79 an79 : Option Addr} {sl79 : Array (Option Value)} {oc79 kV79 dc79 pm79 cd79 ct79 : Value}
    {CWalk : Addr}
    {fWalk___init__ : Addr} {odWalk___init__ anWalk___init__ : Option Addr} {slWalk___init__ : Array (Option Value)} {ocWalk___init__ kVWalk___init__ dcWalk___init__ pmWalk___init__ cdWalk___init__ ctWalk___init__ : Value}
    {fWalk_meet : Addr} {odWalk_meet anWalk_meet : Option Addr} {slWalk_meet : Array (Option Value)} {ocWalk_meet kVWalk_meet dcWalk_meet pmWalk_meet cdWalk_meet ctWalk_meet : Value}
    {CBook : Addr}
    {fBook___init__ : Addr} {odBook___init__ anBook___init__ : Option Addr} {slBook___init__ : Array (Option Value)} {ocBook___init__ kVBook___init__ dcBook___init__ pmBook___init__ cdBook___init__ ctBook___init__ : Value}
    {fBook_check_kept : Addr} {odBook_check_kept anBook_check_kept : Option Addr} {slBook_check_kept : Array (Option Value)} {ocBook_check_kept kVBook_check_kept dcBook_check_kept pmBook_check_kept cdBook_check_kept ctBook_check_kept : Value}
    {fBook_tell : Addr} {odBook_tell anBook_tell : Option Addr} {slBook_tell : Array (Option Value)} {ocBook_tell kVBook_tell dcBook_tell pmBook_tell cdBook_tell ctBook_tell : Value}
    {fBook_forget : Addr} {odBook_forget anBook_forget : Option Addr} {slBook_forget : Array (Option Value)} {ocBook_forget kVBook_forget dcBook_forget pmBook_forget cdBook_forget ctBook_forget : Value}
    {fBook_back : Addr} {odBook_back anBook_back : Option Addr} {slBook_back : Array (Option Value)} {ocBook_back kVBook_back dcBook_back pmBook_back cdBook_back ctBook_back : Value}
    {fBook_row : Addr} {odBook_row anBook_row : Option Addr} {slBook_row : Array (Option Value)} {ocBook_row kVBook_row dcBook_row pmBook_row cdBook_row ctBook_row : Value}
    {fBook_names : Addr} {odBook_names anBook_names : Option Addr} {slBook_names : Array (Option Value)} {ocBook_names kVBook_names dcBook_names pmBook_names cdBook_names ctBook_names : Value}
    {fBook_kinds : Addr} {odBook_kinds anBook_kinds : Option Addr} {slBook_kinds : Array (Option Value)} {ocBook_kinds kVBook_kinds dcBook_kinds pmBook_kinds cdBook_kinds ctBook_kinds : Value}
    {CDesk : Addr}
    {fDesk___init__ : Addr} {odDesk___init__ anDesk___init__ : Option Addr} {slDesk___init__ : Array (Option Value)} {ocDesk___init__ kVDesk___init__ dcDesk___init__ pmDesk___init__ cdDesk___init__ ctDesk___init__ : Value}
    {fDesk_say : Addr} {odDesk_say anDesk_say : Option Addr} {slDesk_say : Array (Option Value)} {ocDesk_say kVDesk_say dcDesk_say pmDesk_say cdDesk_say ctDesk_say : Value}
    {t_LONGEST_NAME : Tok}
    {t_MOST_DEEDS : Tok}
    {t_MOST_INPUTS : Tok}
    {t_MOST_FIGURES : Tok}
    {t_WIDEST : Tok}
    {t_LETTERS : Tok}
    {t_FIGURES : Tok}
    {pl_PLACES : Addr} {es_PLACES : Array DictEntry} {n_PLACES : Nat}
    {pt0_PLACES : Tok} {pt1_PLACES : Tok} {pt2_PLACES : Tok} {pt3_PLACES : Tok} {pt4_PLACES : Tok} {pt5_PLACES : Tok} {pt6_PLACES : Tok} {pt7_PLACES : Tok} {pt8_PLACES : Tok} {pt9_PLACES : Tok} {pt10_PLACES : Tok}
    {pl_FORMS : Addr} {es_FORMS : Array DictEntry} {n_FORMS : Nat}
    {pt0_FORMS : Tok} {pt1_FORMS : Tok} {pt2_FORMS : Tok} {pt3_FORMS : Tok} {pt4_FORMS : Tok} {pt5_FORMS : Tok} {pt6_FORMS : Tok} {pt7_FORMS : Tok} {pt8_FORMS : Tok} {pt9_FORMS : Tok} {pt10_FORMS : Tok} {pt11_FORMS : Tok} {pt12_FORMS : Tok} {pt13_FORMS : Tok}
    {pl_ANSWERS : Addr} {es_ANSWERS : Array DictEntry} {n_ANSWERS : Nat}
    {sv_SEVERAL : Addr} {od_SEVERAL : Option Addr} {its_SEVERAL : Array Value} {n_SEVERAL : Nat} {sl_SEVERAL : Array (Option Value)}
    {pt0_SEVERAL : Tok} {pt1_SEVERAL : Tok} {pt2_SEVERAL : Tok}
    {cWideError : Addr}
    {cNoRow : Addr}
    {cNoPair : Addr}
    {cNoName : Addr}
    {cNoText : Addr}
    {cTooMany : Addr}
    {cNothing : Addr}
    (a0 : PySem.W.nsIn K mainGlobals "all_bits" = some (some (.ref f0)))
    (l0 : K.lookup f0 = some ⟨oc0, od0, .func (PySem.W.fnOf "all_bits" "all_bits" (defArgs s_all_bits) (defBody s_all_bits) (defScope s_all_bits) .none kV0 dc0 pm0 an0 cd0 ct0), sl0⟩)
    (c0 : PySem.W.codeIn K cd0 "all_bits" = true) (k0 : PySem.W.keepIn K (.ref f0) = true)
    (a1 : PySem.W.nsIn K mainGlobals "first_carry" = some (some (.ref f1)))
    (l1 : K.lookup f1 = some ⟨oc1, od1, .func (PySem.W.fnOf "first_carry" "first_carry" (defArgs s_first_carry) (defBody s_first_carry) (defScope s_first_carry) .none kV1 dc1 pm1 an1 cd1 ct1), sl1⟩)
    (c1 : PySem.W.codeIn K cd1 "first_carry" = true) (k1 : PySem.W.keepIn K (.ref f1) = true)
    (a2 : PySem.W.nsIn K mainGlobals "deed_bit" = some (some (.ref f2)))
    (l2 : K.lookup f2 = some ⟨oc2, od2, .func (PySem.W.fnOf "deed_bit" "deed_bit" (defArgs s_deed_bit) (defBody s_deed_bit) (defScope s_deed_bit) .none kV2 dc2 pm2 an2 cd2 ct2), sl2⟩)
    (c2 : PySem.W.codeIn K cd2 "deed_bit" = true) (k2 : PySem.W.keepIn K (.ref f2) = true)
    (a3 : PySem.W.nsIn K mainGlobals "bits_of" = some (some (.ref f3)))
    (l3 : K.lookup f3 = some ⟨oc3, od3, .func (PySem.W.fnOf "bits_of" "bits_of" (defArgs s_bits_of) (defBody s_bits_of) (defScope s_bits_of) .none kV3 dc3 pm3 an3 cd3 ct3), sl3⟩)
    (c3 : PySem.W.codeIn K cd3 "bits_of" = true) (k3 : PySem.W.keepIn K (.ref f3) = true)
    (a4 : PySem.W.nsIn K mainGlobals "two_or_more" = some (some (.ref f4)))
    (l4 : K.lookup f4 = some ⟨oc4, od4, .func (PySem.W.fnOf "two_or_more" "two_or_more" (defArgs s_two_or_more) (defBody s_two_or_more) (defScope s_two_or_more) .none kV4 dc4 pm4 an4 cd4 ct4), sl4⟩)
    (c4 : PySem.W.codeIn K cd4 "two_or_more" = true) (k4 : PySem.W.keepIn K (.ref f4) = true)
    (a5 : PySem.W.nsIn K mainGlobals "deed_carry" = some (some (.ref f5)))
    (l5 : K.lookup f5 = some ⟨oc5, od5, .func (PySem.W.fnOf "deed_carry" "deed_carry" (defArgs s_deed_carry) (defBody s_deed_carry) (defScope s_deed_carry) .none kV5 dc5 pm5 an5 cd5 ct5), sl5⟩)
    (c5 : PySem.W.codeIn K cd5 "deed_carry" = true) (k5 : PySem.W.keepIn K (.ref f5) = true)
    (a6 : PySem.W.nsIn K mainGlobals "carry_behind" = some (some (.ref f6)))
    (l6 : K.lookup f6 = some ⟨oc6, od6, .func (PySem.W.fnOf "carry_behind" "carry_behind" (defArgs s_carry_behind) (defBody s_carry_behind) (defScope s_carry_behind) .none kV6 dc6 pm6 an6 cd6 ct6), sl6⟩)
    (c6 : PySem.W.codeIn K cd6 "carry_behind" = true) (k6 : PySem.W.keepIn K (.ref f6) = true)
    (a7 : PySem.W.nsIn K mainGlobals "steps" = some (some (.ref f7)))
    (l7 : K.lookup f7 = some ⟨oc7, od7, .func (PySem.W.fnOf "steps" "steps" (defArgs s_steps) (defBody s_steps) (defScope s_steps) .none kV7 dc7 pm7 an7 cd7 ct7), sl7⟩)
    (c7 : PySem.W.codeIn K cd7 "steps" = true) (k7 : PySem.W.keepIn K (.ref f7) = true)
    (a8 : PySem.W.nsIn K mainGlobals "kept_steps" = some (some (.ref f8)))
    (l8 : K.lookup f8 = some ⟨oc8, od8, .func (PySem.W.fnOf "kept_steps" "kept_steps" (defArgs s_kept_steps) (defBody s_kept_steps) (defScope s_kept_steps) .none kV8 dc8 pm8 an8 cd8 ct8), sl8⟩)
    (c8 : PySem.W.codeIn K cd8 "kept_steps" = true) (k8 : PySem.W.keepIn K (.ref f8) = true)
    (a9 : PySem.W.nsIn K mainGlobals "carries" = some (some (.ref f9)))
    (l9 : K.lookup f9 = some ⟨oc9, od9, .func (PySem.W.fnOf "carries" "carries" (defArgs s_carries) (defBody s_carries) (defScope s_carries) .none kV9 dc9 pm9 an9 cd9 ct9), sl9⟩)
    (c9 : PySem.W.codeIn K cd9 "carries" = true) (k9 : PySem.W.keepIn K (.ref f9) = true)
    (a10 : PySem.W.nsIn K mainGlobals "both_steps" = some (some (.ref f10)))
    (l10 : K.lookup f10 = some ⟨oc10, od10, .func (PySem.W.fnOf "both_steps" "both_steps" (defArgs s_both_steps) (defBody s_both_steps) (defScope s_both_steps) .none kV10 dc10 pm10 an10 cd10 ct10), sl10⟩)
    (c10 : PySem.W.codeIn K cd10 "both_steps" = true) (k10 : PySem.W.keepIn K (.ref f10) = true)
    (a11 : PySem.W.nsIn K mainGlobals "words_of" = some (some (.ref f11)))
    (l11 : K.lookup f11 = some ⟨oc11, od11, .func (PySem.W.fnOf "words_of" "words_of" (defArgs s_words_of) (defBody s_words_of) (defScope s_words_of) .none kV11 dc11 pm11 an11 cd11 ct11), sl11⟩)
    (c11 : PySem.W.codeIn K cd11 "words_of" = true) (k11 : PySem.W.keepIn K (.ref f11) = true)
    (a12 : PySem.W.nsIn K mainGlobals "check_pair" = some (some (.ref f12)))
    (l12 : K.lookup f12 = some ⟨oc12, od12, .func (PySem.W.fnOf "check_pair" "check_pair" (defArgs s_check_pair) (defBody s_check_pair) (defScope s_check_pair) .none kV12 dc12 pm12 an12 cd12 ct12), sl12⟩)
    (c12 : PySem.W.codeIn K cd12 "check_pair" = true) (k12 : PySem.W.keepIn K (.ref f12) = true)
    (a13 : PySem.W.nsIn K mainGlobals "alike" = some (some (.ref f13)))
    (l13 : K.lookup f13 = some ⟨oc13, od13, .func (PySem.W.fnOf "alike" "alike" (defArgs s_alike) (defBody s_alike) (defScope s_alike) .none kV13 dc13 pm13 an13 cd13 ct13), sl13⟩)
    (c13 : PySem.W.codeIn K cd13 "alike" = true) (k13 : PySem.W.keepIn K (.ref f13) = true)
    (a14 : PySem.W.nsIn K mainGlobals "sign_behind" = some (some (.ref f14)))
    (l14 : K.lookup f14 = some ⟨oc14, od14, .func (PySem.W.fnOf "sign_behind" "sign_behind" (defArgs s_sign_behind) (defBody s_sign_behind) (defScope s_sign_behind) .none kV14 dc14 pm14 an14 cd14 ct14), sl14⟩)
    (c14 : PySem.W.codeIn K cd14 "sign_behind" = true) (k14 : PySem.W.keepIn K (.ref f14) = true)
    (a15 : PySem.W.nsIn K mainGlobals "triples_behind" = some (some (.ref f15)))
    (l15 : K.lookup f15 = some ⟨oc15, od15, .func (PySem.W.fnOf "triples_behind" "triples_behind" (defArgs s_triples_behind) (defBody s_triples_behind) (defScope s_triples_behind) .none kV15 dc15 pm15 an15 cd15 ct15), sl15⟩)
    (c15 : PySem.W.codeIn K cd15 "triples_behind" = true) (k15 : PySem.W.keepIn K (.ref f15) = true)
    (a16 : PySem.W.nsIn K mainGlobals "at_most" = some (some (.ref f16)))
    (l16 : K.lookup f16 = some ⟨oc16, od16, .func (PySem.W.fnOf "at_most" "at_most" (defArgs s_at_most) (defBody s_at_most) (defScope s_at_most) .none kV16 dc16 pm16 an16 cd16 ct16), sl16⟩)
    (c16 : PySem.W.codeIn K cd16 "at_most" = true) (k16 : PySem.W.keepIn K (.ref f16) = true)
    (a17 : PySem.W.nsIn K mainGlobals "whole_machine" = some (some (.ref f17)))
    (l17 : K.lookup f17 = some ⟨oc17, od17, .func (PySem.W.fnOf "whole_machine" "whole_machine" (defArgs s_whole_machine) (defBody s_whole_machine) (defScope s_whole_machine) .none kV17 dc17 pm17 an17 cd17 ct17), sl17⟩)
    (c17 : PySem.W.codeIn K cd17 "whole_machine" = true) (k17 : PySem.W.keepIn K (.ref f17) = true)
    (a18 : PySem.W.nsIn K mainGlobals "numbered" = some (some (.ref f18)))
    (l18 : K.lookup f18 = some ⟨oc18, od18, .func (PySem.W.fnOf "numbered" "numbered" (defArgs s_numbered) (defBody s_numbered) (defScope s_numbered) .none kV18 dc18 pm18 an18 cd18 ct18), sl18⟩)
    (c18 : PySem.W.codeIn K cd18 "numbered" = true) (k18 : PySem.W.keepIn K (.ref f18) = true)
    (a19 : PySem.W.nsIn K mainGlobals "kinds_of_states" = some (some (.ref f19)))
    (l19 : K.lookup f19 = some ⟨oc19, od19, .func (PySem.W.fnOf "kinds_of_states" "kinds_of_states" (defArgs s_kinds_of_states) (defBody s_kinds_of_states) (defScope s_kinds_of_states) .none kV19 dc19 pm19 an19 cd19 ct19), sl19⟩)
    (c19 : PySem.W.codeIn K cd19 "kinds_of_states" = true) (k19 : PySem.W.keepIn K (.ref f19) = true)
    (a20 : PySem.W.nsIn K mainGlobals "least_machine" = some (some (.ref f20)))
    (l20 : K.lookup f20 = some ⟨oc20, od20, .func (PySem.W.fnOf "least_machine" "least_machine" (defArgs s_least_machine) (defBody s_least_machine) (defScope s_least_machine) .none kV20 dc20 pm20 an20 cd20 ct20), sl20⟩)
    (c20 : PySem.W.codeIn K cd20 "least_machine" = true) (k20 : PySem.W.keepIn K (.ref f20) = true)
    (a21 : PySem.W.nsIn K mainGlobals "is_whole" = some (some (.ref f21)))
    (l21 : K.lookup f21 = some ⟨oc21, od21, .func (PySem.W.fnOf "is_whole" "is_whole" (defArgs s_is_whole) (defBody s_is_whole) (defScope s_is_whole) .none kV21 dc21 pm21 an21 cd21 ct21), sl21⟩)
    (c21 : PySem.W.codeIn K cd21 "is_whole" = true) (k21 : PySem.W.keepIn K (.ref f21) = true)
    (a22 : PySem.W.nsIn K mainGlobals "is_number_below" = some (some (.ref f22)))
    (l22 : K.lookup f22 = some ⟨oc22, od22, .func (PySem.W.fnOf "is_number_below" "is_number_below" (defArgs s_is_number_below) (defBody s_is_number_below) (defScope s_is_number_below) .none kV22 dc22 pm22 an22 cd22 ct22), sl22⟩)
    (c22 : PySem.W.codeIn K cd22 "is_number_below" = true) (k22 : PySem.W.keepIn K (.ref f22) = true)
    (a23 : PySem.W.nsIn K mainGlobals "is_deed" = some (some (.ref f23)))
    (l23 : K.lookup f23 = some ⟨oc23, od23, .func (PySem.W.fnOf "is_deed" "is_deed" (defArgs s_is_deed) (defBody s_is_deed) (defScope s_is_deed) .none kV23 dc23 pm23 an23 cd23 ct23), sl23⟩)
    (c23 : PySem.W.codeIn K cd23 "is_deed" = true) (k23 : PySem.W.keepIn K (.ref f23) = true)
    (a24 : PySem.W.nsIn K mainGlobals "are_deeds" = some (some (.ref f24)))
    (l24 : K.lookup f24 = some ⟨oc24, od24, .func (PySem.W.fnOf "are_deeds" "are_deeds" (defArgs s_are_deeds) (defBody s_are_deeds) (defScope s_are_deeds) .none kV24 dc24 pm24 an24 cd24 ct24), sl24⟩)
    (c24 : PySem.W.codeIn K cd24 "are_deeds" = true) (k24 : PySem.W.keepIn K (.ref f24) = true)
    (a25 : PySem.W.nsIn K mainGlobals "is_row" = some (some (.ref f25)))
    (l25 : K.lookup f25 = some ⟨oc25, od25, .func (PySem.W.fnOf "is_row" "is_row" (defArgs s_is_row) (defBody s_is_row) (defScope s_is_row) .none kV25 dc25 pm25 an25 cd25 ct25), sl25⟩)
    (c25 : PySem.W.codeIn K cd25 "is_row" = true) (k25 : PySem.W.keepIn K (.ref f25) = true)
    (a26 : PySem.W.nsIn K mainGlobals "renumbered" = some (some (.ref f26)))
    (l26 : K.lookup f26 = some ⟨oc26, od26, .func (PySem.W.fnOf "renumbered" "renumbered" (defArgs s_renumbered) (defBody s_renumbered) (defScope s_renumbered) .none kV26 dc26 pm26 an26 cd26 ct26), sl26⟩)
    (c26 : PySem.W.codeIn K cd26 "renumbered" = true) (k26 : PySem.W.keepIn K (.ref f26) = true)
    (a27 : PySem.W.nsIn K mainGlobals "deed_value" = some (some (.ref f27)))
    (l27 : K.lookup f27 = some ⟨oc27, od27, .func (PySem.W.fnOf "deed_value" "deed_value" (defArgs s_deed_value) (defBody s_deed_value) (defScope s_deed_value) .none kV27 dc27 pm27 an27 cd27 ct27), sl27⟩)
    (c27 : PySem.W.codeIn K cd27 "deed_value" = true) (k27 : PySem.W.keepIn K (.ref f27) = true)
    (a28 : PySem.W.nsIn K mainGlobals "values" = some (some (.ref f28)))
    (l28 : K.lookup f28 = some ⟨oc28, od28, .func (PySem.W.fnOf "values" "values" (defArgs s_values) (defBody s_values) (defScope s_values) .none kV28 dc28 pm28 an28 cd28 ct28), sl28⟩)
    (c28 : PySem.W.codeIn K cd28 "values" = true) (k28 : PySem.W.keepIn K (.ref f28) = true)
    (a29 : PySem.W.nsIn K mainGlobals "worth" = some (some (.ref f29)))
    (l29 : K.lookup f29 = some ⟨oc29, od29, .func (PySem.W.fnOf "worth" "worth" (defArgs s_worth) (defBody s_worth) (defScope s_worth) .none kV29 dc29 pm29 an29 cd29 ct29), sl29⟩)
    (c29 : PySem.W.codeIn K cd29 "worth" = true) (k29 : PySem.W.keepIn K (.ref f29) = true)
    (a30 : PySem.W.nsIn K mainGlobals "is_name" = some (some (.ref f30)))
    (l30 : K.lookup f30 = some ⟨oc30, od30, .func (PySem.W.fnOf "is_name" "is_name" (defArgs s_is_name) (defBody s_is_name) (defScope s_is_name) .none kV30 dc30 pm30 an30 cd30 ct30), sl30⟩)
    (c30 : PySem.W.codeIn K cd30 "is_name" = true) (k30 : PySem.W.keepIn K (.ref f30) = true)
    (a31 : PySem.W.nsIn K mainGlobals "check_name" = some (some (.ref f31)))
    (l31 : K.lookup f31 = some ⟨oc31, od31, .func (PySem.W.fnOf "check_name" "check_name" (defArgs s_check_name) (defBody s_check_name) (defScope s_check_name) .none kV31 dc31 pm31 an31 cd31 ct31), sl31⟩)
    (c31 : PySem.W.codeIn K cd31 "check_name" = true) (k31 : PySem.W.keepIn K (.ref f31) = true)
    (a32 : PySem.W.nsIn K mainGlobals "look_of" = some (some (.ref f32)))
    (l32 : K.lookup f32 = some ⟨oc32, od32, .func (PySem.W.fnOf "look_of" "look_of" (defArgs s_look_of) (defBody s_look_of) (defScope s_look_of) .none kV32 dc32 pm32 an32 cd32 ct32), sl32⟩)
    (c32 : PySem.W.codeIn K cd32 "look_of" = true) (k32 : PySem.W.keepIn K (.ref f32) = true)
    (a33 : PySem.W.nsIn K mainGlobals "agreeing" = some (some (.ref f33)))
    (l33 : K.lookup f33 = some ⟨oc33, od33, .func (PySem.W.fnOf "agreeing" "agreeing" (defArgs s_agreeing) (defBody s_agreeing) (defScope s_agreeing) .none kV33 dc33 pm33 an33 cd33 ct33), sl33⟩)
    (c33 : PySem.W.codeIn K cd33 "agreeing" = true) (k33 : PySem.W.keepIn K (.ref f33) = true)
    (a34 : PySem.W.nsIn K mainGlobals "how_often" = some (some (.ref f34)))
    (l34 : K.lookup f34 = some ⟨oc34, od34, .func (PySem.W.fnOf "how_often" "how_often" (defArgs s_how_often) (defBody s_how_often) (defScope s_how_often) .none kV34 dc34 pm34 an34 cd34 ct34), sl34⟩)
    (c34 : PySem.W.codeIn K cd34 "how_often" = true) (k34 : PySem.W.keepIn K (.ref f34) = true)
    (a35 : PySem.W.nsIn K mainGlobals "check_parts" = some (some (.ref f35)))
    (l35 : K.lookup f35 = some ⟨oc35, od35, .func (PySem.W.fnOf "check_parts" "check_parts" (defArgs s_check_parts) (defBody s_check_parts) (defScope s_check_parts) .none kV35 dc35 pm35 an35 cd35 ct35), sl35⟩)
    (c35 : PySem.W.codeIn K cd35 "check_parts" = true) (k35 : PySem.W.keepIn K (.ref f35) = true)
    (a36 : PySem.W.nsIn K mainGlobals "put_behind" = some (some (.ref f36)))
    (l36 : K.lookup f36 = some ⟨oc36, od36, .func (PySem.W.fnOf "put_behind" "put_behind" (defArgs s_put_behind) (defBody s_put_behind) (defScope s_put_behind) .none kV36 dc36 pm36 an36 cd36 ct36), sl36⟩)
    (c36 : PySem.W.codeIn K cd36 "put_behind" = true) (k36 : PySem.W.keepIn K (.ref f36) = true)
    (a37 : PySem.W.nsIn K mainGlobals "put_together" = some (some (.ref f37)))
    (l37 : K.lookup f37 = some ⟨oc37, od37, .func (PySem.W.fnOf "put_together" "put_together" (defArgs s_put_together) (defBody s_put_together) (defScope s_put_together) .none kV37 dc37 pm37 an37 cd37 ct37), sl37⟩)
    (c37 : PySem.W.codeIn K cd37 "put_together" = true) (k37 : PySem.W.keepIn K (.ref f37) = true)
    (a38 : PySem.W.nsIn K mainGlobals "first_alikes" = some (some (.ref f38)))
    (l38 : K.lookup f38 = some ⟨oc38, od38, .func (PySem.W.fnOf "first_alikes" "first_alikes" (defArgs s_first_alikes) (defBody s_first_alikes) (defScope s_first_alikes) .none kV38 dc38 pm38 an38 cd38 ct38), sl38⟩)
    (c38 : PySem.W.codeIn K cd38 "first_alikes" = true) (k38 : PySem.W.keepIn K (.ref f38) = true)
    (a39 : PySem.W.nsIn K mainGlobals "is_had" = some (some (.ref f39)))
    (l39 : K.lookup f39 = some ⟨oc39, od39, .func (PySem.W.fnOf "is_had" "is_had" (defArgs s_is_had) (defBody s_is_had) (defScope s_is_had) .none kV39 dc39 pm39 an39 cd39 ct39), sl39⟩)
    (c39 : PySem.W.codeIn K cd39 "is_had" = true) (k39 : PySem.W.keepIn K (.ref f39) = true)
    (a40 : PySem.W.nsIn K mainGlobals "fitting" = some (some (.ref f40)))
    (l40 : K.lookup f40 = some ⟨oc40, od40, .func (PySem.W.fnOf "fitting" "fitting" (defArgs s_fitting) (defBody s_fitting) (defScope s_fitting) .none kV40 dc40 pm40 an40 cd40 ct40), sl40⟩)
    (c40 : PySem.W.codeIn K cd40 "fitting" = true) (k40 : PySem.W.keepIn K (.ref f40) = true)
    (a41 : PySem.W.nsIn K mainGlobals "dropped" = some (some (.ref f41)))
    (l41 : K.lookup f41 = some ⟨oc41, od41, .func (PySem.W.fnOf "dropped" "dropped" (defArgs s_dropped) (defBody s_dropped) (defScope s_dropped) .none kV41 dc41 pm41 an41 cd41 ct41), sl41⟩)
    (c41 : PySem.W.codeIn K cd41 "dropped" = true) (k41 : PySem.W.keepIn K (.ref f41) = true)
    (a42 : PySem.W.nsIn K mainGlobals "brought_back" = some (some (.ref f42)))
    (l42 : K.lookup f42 = some ⟨oc42, od42, .func (PySem.W.fnOf "brought_back" "brought_back" (defArgs s_brought_back) (defBody s_brought_back) (defScope s_brought_back) .none kV42 dc42 pm42 an42 cd42 ct42), sl42⟩)
    (c42 : PySem.W.codeIn K cd42 "brought_back" = true) (k42 : PySem.W.keepIn K (.ref f42) = true)
    (a43 : PySem.W.nsIn K mainGlobals "put_by" = some (some (.ref f43)))
    (l43 : K.lookup f43 = some ⟨oc43, od43, .func (PySem.W.fnOf "put_by" "put_by" (defArgs s_put_by) (defBody s_put_by) (defScope s_put_by) .none kV43 dc43 pm43 an43 cd43 ct43), sl43⟩)
    (c43 : PySem.W.codeIn K cd43 "put_by" = true) (k43 : PySem.W.keepIn K (.ref f43) = true)
    (a44 : PySem.W.nsIn K mainGlobals "mended" = some (some (.ref f44)))
    (l44 : K.lookup f44 = some ⟨oc44, od44, .func (PySem.W.fnOf "mended" "mended" (defArgs s_mended) (defBody s_mended) (defScope s_mended) .none kV44 dc44 pm44 an44 cd44 ct44), sl44⟩)
    (c44 : PySem.W.codeIn K cd44 "mended" = true) (k44 : PySem.W.keepIn K (.ref f44) = true)
    (a45 : PySem.W.nsIn K mainGlobals "read_number" = some (some (.ref f45)))
    (l45 : K.lookup f45 = some ⟨oc45, od45, .func (PySem.W.fnOf "read_number" "read_number" (defArgs s_read_number) (defBody s_read_number) (defScope s_read_number) .none kV45 dc45 pm45 an45 cd45 ct45), sl45⟩)
    (c45 : PySem.W.codeIn K cd45 "read_number" = true) (k45 : PySem.W.keepIn K (.ref f45) = true)
    (a46 : PySem.W.nsIn K mainGlobals "written_part" = some (some (.ref f46)))
    (l46 : K.lookup f46 = some ⟨oc46, od46, .func (PySem.W.fnOf "written_part" "written_part" (defArgs s_written_part) (defBody s_written_part) (defScope s_written_part) .none kV46 dc46 pm46 an46 cd46 ct46), sl46⟩)
    (c46 : PySem.W.codeIn K cd46 "written_part" = true) (k46 : PySem.W.keepIn K (.ref f46) = true)
    (a47 : PySem.W.nsIn K mainGlobals "read_part" = some (some (.ref f47)))
    (l47 : K.lookup f47 = some ⟨oc47, od47, .func (PySem.W.fnOf "read_part" "read_part" (defArgs s_read_part) (defBody s_read_part) (defScope s_read_part) .none kV47 dc47 pm47 an47 cd47 ct47), sl47⟩)
    (c47 : PySem.W.codeIn K cd47 "read_part" = true) (k47 : PySem.W.keepIn K (.ref f47) = true)
    (a48 : PySem.W.nsIn K mainGlobals "show_row" = some (some (.ref f48)))
    (l48 : K.lookup f48 = some ⟨oc48, od48, .func (PySem.W.fnOf "show_row" "show_row" (defArgs s_show_row) (defBody s_show_row) (defScope s_show_row) .none kV48 dc48 pm48 an48 cd48 ct48), sl48⟩)
    (c48 : PySem.W.codeIn K cd48 "show_row" = true) (k48 : PySem.W.keepIn K (.ref f48) = true)
    (a49 : PySem.W.nsIn K mainGlobals "read_row" = some (some (.ref f49)))
    (l49 : K.lookup f49 = some ⟨oc49, od49, .func (PySem.W.fnOf "read_row" "read_row" (defArgs s_read_row) (defBody s_read_row) (defScope s_read_row) .none kV49 dc49 pm49 an49 cd49 ct49), sl49⟩)
    (c49 : PySem.W.codeIn K cd49 "read_row" = true) (k49 : PySem.W.keepIn K (.ref f49) = true)
    (a50 : PySem.W.nsIn K mainGlobals "check_single" = some (some (.ref f50)))
    (l50 : K.lookup f50 = some ⟨oc50, od50, .func (PySem.W.fnOf "check_single" "check_single" (defArgs s_check_single) (defBody s_check_single) (defScope s_check_single) .none kV50 dc50 pm50 an50 cd50 ct50), sl50⟩)
    (c50 : PySem.W.codeIn K cd50 "check_single" = true) (k50 : PySem.W.keepIn K (.ref f50) = true)
    (a51 : PySem.W.nsIn K mainGlobals "turned" = some (some (.ref f51)))
    (l51 : K.lookup f51 = some ⟨oc51, od51, .func (PySem.W.fnOf "turned" "turned" (defArgs s_turned) (defBody s_turned) (defScope s_turned) .none kV51 dc51 pm51 an51 cd51 ct51), sl51⟩)
    (c51 : PySem.W.codeIn K cd51 "turned" = true) (k51 : PySem.W.keepIn K (.ref f51) = true)
    (a52 : PySem.W.nsIn K mainGlobals "is_width" = some (some (.ref f52)))
    (l52 : K.lookup f52 = some ⟨oc52, od52, .func (PySem.W.fnOf "is_width" "is_width" (defArgs s_is_width) (defBody s_is_width) (defScope s_is_width) .none kV52 dc52 pm52 an52 cd52 ct52), sl52⟩)
    (c52 : PySem.W.codeIn K cd52 "is_width" = true) (k52 : PySem.W.keepIn K (.ref f52) = true)
    (a53 : PySem.W.nsIn K mainGlobals "is_in_place" = some (some (.ref f53)))
    (l53 : K.lookup f53 = some ⟨oc53, od53, .func (PySem.W.fnOf "is_in_place" "is_in_place" (defArgs s_is_in_place) (defBody s_is_in_place) (defScope s_is_in_place) .none kV53 dc53 pm53 an53 cd53 ct53), sl53⟩)
    (c53 : PySem.W.codeIn K cd53 "is_in_place" = true) (k53 : PySem.W.keepIn K (.ref f53) = true)
    (a54 : PySem.W.nsIn K mainGlobals "is_of_form" = some (some (.ref f54)))
    (l54 : K.lookup f54 = some ⟨oc54, od54, .func (PySem.W.fnOf "is_of_form" "is_of_form" (defArgs s_is_of_form) (defBody s_is_of_form) (defScope s_is_of_form) .none kV54 dc54 pm54 an54 cd54 ct54), sl54⟩)
    (c54 : PySem.W.codeIn K cd54 "is_of_form" = true) (k54 : PySem.W.keepIn K (.ref f54) = true)
    (a55 : PySem.W.nsIn K mainGlobals "words_said" = some (some (.ref f55)))
    (l55 : K.lookup f55 = some ⟨oc55, od55, .func (PySem.W.fnOf "words_said" "words_said" (defArgs s_words_said) (defBody s_words_said) (defScope s_words_said) .none kV55 dc55 pm55 an55 cd55 ct55), sl55⟩)
    (c55 : PySem.W.codeIn K cd55 "words_said" = true) (k55 : PySem.W.keepIn K (.ref f55) = true)
    (a56 : PySem.W.nsIn K mainGlobals "with_width" = some (some (.ref f56)))
    (l56 : K.lookup f56 = some ⟨oc56, od56, .func (PySem.W.fnOf "with_width" "with_width" (defArgs s_with_width) (defBody s_with_width) (defScope s_with_width) .none kV56 dc56 pm56 an56 cd56 ct56), sl56⟩)
    (c56 : PySem.W.codeIn K cd56 "with_width" = true) (k56 : PySem.W.keepIn K (.ref f56) = true)
    (a57 : PySem.W.nsIn K mainGlobals "answer_tell" = some (some (.ref f57)))
    (l57 : K.lookup f57 = some ⟨oc57, od57, .func (PySem.W.fnOf "answer_tell" "answer_tell" (defArgs s_answer_tell) (defBody s_answer_tell) (defScope s_answer_tell) .none kV57 dc57 pm57 an57 cd57 ct57), sl57⟩)
    (c57 : PySem.W.codeIn K cd57 "answer_tell" = true) (k57 : PySem.W.keepIn K (.ref f57) = true)
    (a58 : PySem.W.nsIn K mainGlobals "answer_forget" = some (some (.ref f58)))
    (l58 : K.lookup f58 = some ⟨oc58, od58, .func (PySem.W.fnOf "answer_forget" "answer_forget" (defArgs s_answer_forget) (defBody s_answer_forget) (defScope s_answer_forget) .none kV58 dc58 pm58 an58 cd58 ct58), sl58⟩)
    (c58 : PySem.W.codeIn K cd58 "answer_forget" = true) (k58 : PySem.W.keepIn K (.ref f58) = true)
    (a59 : PySem.W.nsIn K mainGlobals "answer_back" = some (some (.ref f59)))
    (l59 : K.lookup f59 = some ⟨oc59, od59, .func (PySem.W.fnOf "answer_back" "answer_back" (defArgs s_answer_back) (defBody s_answer_back) (defScope s_answer_back) .none kV59 dc59 pm59 an59 cd59 ct59), sl59⟩)
    (c59 : PySem.W.codeIn K cd59 "answer_back" = true) (k59 : PySem.W.keepIn K (.ref f59) = true)
    (a60 : PySem.W.nsIn K mainGlobals "answer_show" = some (some (.ref f60)))
    (l60 : K.lookup f60 = some ⟨oc60, od60, .func (PySem.W.fnOf "answer_show" "answer_show" (defArgs s_answer_show) (defBody s_answer_show) (defScope s_answer_show) .none kV60 dc60 pm60 an60 cd60 ct60), sl60⟩)
    (c60 : PySem.W.codeIn K cd60 "answer_show" = true) (k60 : PySem.W.keepIn K (.ref f60) = true)
    (a61 : PySem.W.nsIn K mainGlobals "answer_names" = some (some (.ref f61)))
    (l61 : K.lookup f61 = some ⟨oc61, od61, .func (PySem.W.fnOf "answer_names" "answer_names" (defArgs s_answer_names) (defBody s_answer_names) (defScope s_answer_names) .none kV61 dc61 pm61 an61 cd61 ct61), sl61⟩)
    (c61 : PySem.W.codeIn K cd61 "answer_names" = true) (k61 : PySem.W.keepIn K (.ref f61) = true)
    (a62 : PySem.W.nsIn K mainGlobals "answer_kinds" = some (some (.ref f62)))
    (l62 : K.lookup f62 = some ⟨oc62, od62, .func (PySem.W.fnOf "answer_kinds" "answer_kinds" (defArgs s_answer_kinds) (defBody s_answer_kinds) (defScope s_answer_kinds) .none kV62 dc62 pm62 an62 cd62 ct62), sl62⟩)
    (c62 : PySem.W.codeIn K cd62 "answer_kinds" = true) (k62 : PySem.W.keepIn K (.ref f62) = true)
    (a63 : PySem.W.nsIn K mainGlobals "answer_worth" = some (some (.ref f63)))
    (l63 : K.lookup f63 = some ⟨oc63, od63, .func (PySem.W.fnOf "answer_worth" "answer_worth" (defArgs s_answer_worth) (defBody s_answer_worth) (defScope s_answer_worth) .none kV63 dc63 pm63 an63 cd63 ct63), sl63⟩)
    (c63 : PySem.W.codeIn K cd63 "answer_worth" = true) (k63 : PySem.W.keepIn K (.ref f63) = true)
    (a64 : PySem.W.nsIn K mainGlobals "answer_alike" = some (some (.ref f64)))
    (l64 : K.lookup f64 = some ⟨oc64, od64, .func (PySem.W.fnOf "answer_alike" "answer_alike" (defArgs s_answer_alike) (defBody s_answer_alike) (defScope s_answer_alike) .none kV64 dc64 pm64 an64 cd64 ct64), sl64⟩)
    (c64 : PySem.W.codeIn K cd64 "answer_alike" = true) (k64 : PySem.W.keepIn K (.ref f64) = true)
    (a65 : PySem.W.nsIn K mainGlobals "answer_turned" = some (some (.ref f65)))
    (l65 : K.lookup f65 = some ⟨oc65, od65, .func (PySem.W.fnOf "answer_turned" "answer_turned" (defArgs s_answer_turned) (defBody s_answer_turned) (defScope s_answer_turned) .none kV65 dc65 pm65 an65 cd65 ct65), sl65⟩)
    (c65 : PySem.W.codeIn K cd65 "answer_turned" = true) (k65 : PySem.W.keepIn K (.ref f65) = true)
    (a66 : PySem.W.nsIn K mainGlobals "answer_most" = some (some (.ref f66)))
    (l66 : K.lookup f66 = some ⟨oc66, od66, .func (PySem.W.fnOf "answer_most" "answer_most" (defArgs s_answer_most) (defBody s_answer_most) (defScope s_answer_most) .none kV66 dc66 pm66 an66 cd66 ct66), sl66⟩)
    (c66 : PySem.W.codeIn K cd66 "answer_most" = true) (k66 : PySem.W.keepIn K (.ref f66) = true)
    (a67 : PySem.W.nsIn K mainGlobals "answer_states" = some (some (.ref f67)))
    (l67 : K.lookup f67 = some ⟨oc67, od67, .func (PySem.W.fnOf "answer_states" "answer_states" (defArgs s_answer_states) (defBody s_answer_states) (defScope s_answer_states) .none kV67 dc67 pm67 an67 cd67 ct67), sl67⟩)
    (c67 : PySem.W.codeIn K cd67 "answer_states" = true) (k67 : PySem.W.keepIn K (.ref f67) = true)
    (a68 : PySem.W.nsIn K mainGlobals "answer_agree" = some (some (.ref f68)))
    (l68 : K.lookup f68 = some ⟨oc68, od68, .func (PySem.W.fnOf "answer_agree" "answer_agree" (defArgs s_answer_agree) (defBody s_answer_agree) (defScope s_answer_agree) .none kV68 dc68 pm68 an68 cd68 ct68), sl68⟩)
    (c68 : PySem.W.codeIn K cd68 "answer_agree" = true) (k68 : PySem.W.keepIn K (.ref f68) = true)
    (a69 : PySem.W.nsIn K mainGlobals "answer_mend" = some (some (.ref f69)))
    (l69 : K.lookup f69 = some ⟨oc69, od69, .func (PySem.W.fnOf "answer_mend" "answer_mend" (defArgs s_answer_mend) (defBody s_answer_mend) (defScope s_answer_mend) .none kV69 dc69 pm69 an69 cd69 ct69), sl69⟩)
    (c69 : PySem.W.codeIn K cd69 "answer_mend" = true) (k69 : PySem.W.keepIn K (.ref f69) = true)
    (a70 : PySem.W.nsIn K mainGlobals "answer_put" = some (some (.ref f70)))
    (l70 : K.lookup f70 = some ⟨oc70, od70, .func (PySem.W.fnOf "answer_put" "answer_put" (defArgs s_answer_put) (defBody s_answer_put) (defScope s_answer_put) .none kV70 dc70 pm70 an70 cd70 ct70), sl70⟩)
    (c70 : PySem.W.codeIn K cd70 "answer_put" = true) (k70 : PySem.W.keepIn K (.ref f70) = true)
    (a71 : PySem.W.nsIn K mainGlobals "_law_well" = some (some (.ref f71)))
    (l71 : K.lookup f71 = some ⟨oc71, od71, .func (PySem.W.fnOf "_law_well" "_law_well" (defArgs s_law_well) (defBody s_law_well) (defScope s_law_well) .none kV71 dc71 pm71 an71 cd71 ct71), sl71⟩)
    (c71 : PySem.W.codeIn K cd71 "_law_well" = true) (k71 : PySem.W.keepIn K (.ref f71) = true)
    (a72 : PySem.W.nsIn K mainGlobals "_law_draw" = some (some (.ref f72)))
    (l72 : K.lookup f72 = some ⟨oc72, od72, .func (PySem.W.fnOf "_law_draw" "_law_draw" (defArgs s_law_draw) (defBody s_law_draw) (defScope s_law_draw) .none kV72 dc72 pm72 an72 cd72 ct72), sl72⟩)
    (c72 : PySem.W.codeIn K cd72 "_law_draw" = true) (k72 : PySem.W.keepIn K (.ref f72) = true)
    (a73 : PySem.W.nsIn K mainGlobals "_law_text" = some (some (.ref f73)))
    (l73 : K.lookup f73 = some ⟨oc73, od73, .func (PySem.W.fnOf "_law_text" "_law_text" (defArgs s_law_text) (defBody s_law_text) (defScope s_law_text) .none kV73 dc73 pm73 an73 cd73 ct73), sl73⟩)
    (c73 : PySem.W.codeIn K cd73 "_law_text" = true) (k73 : PySem.W.keepIn K (.ref f73) = true)
    (a74 : PySem.W.nsIn K mainGlobals "_law_said" = some (some (.ref f74)))
    (l74 : K.lookup f74 = some ⟨oc74, od74, .func (PySem.W.fnOf "_law_said" "_law_said" (defArgs s_law_said) (defBody s_law_said) (defScope s_law_said) .none kV74 dc74 pm74 an74 cd74 ct74), sl74⟩)
    (c74 : PySem.W.codeIn K cd74 "_law_said" = true) (k74 : PySem.W.keepIn K (.ref f74) = true)
    (a75 : PySem.W.nsIn K mainGlobals "_law_simple" = some (some (.ref f75)))
    (l75 : K.lookup f75 = some ⟨oc75, od75, .func (PySem.W.fnOf "_law_simple" "_law_simple" (defArgs s_law_simple) (defBody s_law_simple) (defScope s_law_simple) .none kV75 dc75 pm75 an75 cd75 ct75), sl75⟩)
    (c75 : PySem.W.codeIn K cd75 "_law_simple" = true) (k75 : PySem.W.keepIn K (.ref f75) = true)
    (a76 : PySem.W.nsIn K mainGlobals "_law_told" = some (some (.ref f76)))
    (l76 : K.lookup f76 = some ⟨oc76, od76, .func (PySem.W.fnOf "_law_told" "_law_told" (defArgs s_law_told) (defBody s_law_told) (defScope s_law_told) .none kV76 dc76 pm76 an76 cd76 ct76), sl76⟩)
    (c76 : PySem.W.codeIn K cd76 "_law_told" = true) (k76 : PySem.W.keepIn K (.ref f76) = true)
    (a77 : PySem.W.nsIn K mainGlobals "_law_two_letters" = some (some (.ref f77)))
    (l77 : K.lookup f77 = some ⟨oc77, od77, .func (PySem.W.fnOf "_law_two_letters" "_law_two_letters" (defArgs s_law_two_letters) (defBody s_law_two_letters) (defScope s_law_two_letters) .none kV77 dc77 pm77 an77 cd77 ct77), sl77⟩)
    (c77 : PySem.W.codeIn K cd77 "_law_two_letters" = true) (k77 : PySem.W.keepIn K (.ref f77) = true)
    (a78 : PySem.W.nsIn K mainGlobals "_law_told_long" = some (some (.ref f78)))
    (l78 : K.lookup f78 = some ⟨oc78, od78, .func (PySem.W.fnOf "_law_told_long" "_law_told_long" (defArgs s_law_told_long) (defBody s_law_told_long) (defScope s_law_told_long) .none kV78 dc78 pm78 an78 cd78 ct78), sl78⟩)
    (c78 : PySem.W.codeIn K cd78 "_law_told_long" = true) (k78 : PySem.W.keepIn K (.ref f78) = true)
    (a79 : PySem.W.nsIn K mainGlobals "law" = some (some (.ref f79)))
    (l79 : K.lookup f79 = some ⟨oc79, od79, .func (PySem.W.fnOf "law" "law" (defArgs s_law) (defBody s_law) (defScope s_law) .none kV79 dc79 pm79 an79 cd79 ct79), sl79⟩)
    (c79 : PySem.W.codeIn K cd79 "law" = true) (k79 : PySem.W.keepIn K (.ref f79) = true)
    (oa_Walk : PySem.W.nsIn K mainGlobals "Walk" = some (some (.ref CWalk)))
    (ma_Walk___init__ : PySem.W.findIn K (.ref CWalk) "__init__" = some (some (.ref fWalk___init__)))
    (mi_Walk___init__ : PySem.W.isFn K (.ref fWalk___init__) = true)
    (ml_Walk___init__ : K.lookup fWalk___init__ = some ⟨ocWalk___init__, odWalk___init__, .func (PySem.W.fnOf "__init__" "Walk.__init__" (defArgs sWalk___init__) (defBody sWalk___init__) (defScope sWalk___init__) .none kVWalk___init__ dcWalk___init__ pmWalk___init__ anWalk___init__ cdWalk___init__ ctWalk___init__), slWalk___init__⟩)
    (mc_Walk___init__ : PySem.W.codeIn K cdWalk___init__ "Walk.__init__" = true)
    (mk_Walk___init__ : PySem.W.keepIn K (.ref fWalk___init__) = true)
    (ma_Walk_meet : PySem.W.findIn K (.ref CWalk) "meet" = some (some (.ref fWalk_meet)))
    (mi_Walk_meet : PySem.W.isFn K (.ref fWalk_meet) = true)
    (ml_Walk_meet : K.lookup fWalk_meet = some ⟨ocWalk_meet, odWalk_meet, .func (PySem.W.fnOf "meet" "Walk.meet" (defArgs sWalk_meet) (defBody sWalk_meet) (defScope sWalk_meet) .none kVWalk_meet dcWalk_meet pmWalk_meet anWalk_meet cdWalk_meet ctWalk_meet), slWalk_meet⟩)
    (mc_Walk_meet : PySem.W.codeIn K cdWalk_meet "Walk.meet" = true)
    (mk_Walk_meet : PySem.W.keepIn K (.ref fWalk_meet) = true)
    (pg_Walk : PySem.W.plainGet K CWalk Str.empty = true)
    (hd_Walk : PySem.W.hasDictIn K CWalk = true)
    (po_Walk : PySem.W.plainOver K CWalk = true)
    (sa_Walk : PySem.W.findIn K (.ref CWalk) "__setattr__" = some (some (.builtin "object.__setattr__")))
    (mk_Walk : PySem.W.makesIn K CWalk = true)
    (kc_Walk : PySem.W.keepIn K (.ref CWalk) = true)
    (na_Walk_met : PySem.W.findIn K (.ref CWalk) "met" = some none)
    (na_Walk_numbers : PySem.W.findIn K (.ref CWalk) "numbers" = some none)
    (na_Walk_ways : PySem.W.findIn K (.ref CWalk) "ways" = some none)
    (oa_Book : PySem.W.nsIn K mainGlobals "Book" = some (some (.ref CBook)))
    (ma_Book___init__ : PySem.W.findIn K (.ref CBook) "__init__" = some (some (.ref fBook___init__)))
    (mi_Book___init__ : PySem.W.isFn K (.ref fBook___init__) = true)
    (ml_Book___init__ : K.lookup fBook___init__ = some ⟨ocBook___init__, odBook___init__, .func (PySem.W.fnOf "__init__" "Book.__init__" (defArgs sBook___init__) (defBody sBook___init__) (defScope sBook___init__) .none kVBook___init__ dcBook___init__ pmBook___init__ anBook___init__ cdBook___init__ ctBook___init__), slBook___init__⟩)
    (mc_Book___init__ : PySem.W.codeIn K cdBook___init__ "Book.__init__" = true)
    (mk_Book___init__ : PySem.W.keepIn K (.ref fBook___init__) = true)
    (ma_Book_check_kept : PySem.W.findIn K (.ref CBook) "check_kept" = some (some (.ref fBook_check_kept)))
    (mi_Book_check_kept : PySem.W.isFn K (.ref fBook_check_kept) = true)
    (ml_Book_check_kept : K.lookup fBook_check_kept = some ⟨ocBook_check_kept, odBook_check_kept, .func (PySem.W.fnOf "check_kept" "Book.check_kept" (defArgs sBook_check_kept) (defBody sBook_check_kept) (defScope sBook_check_kept) .none kVBook_check_kept dcBook_check_kept pmBook_check_kept anBook_check_kept cdBook_check_kept ctBook_check_kept), slBook_check_kept⟩)
    (mc_Book_check_kept : PySem.W.codeIn K cdBook_check_kept "Book.check_kept" = true)
    (mk_Book_check_kept : PySem.W.keepIn K (.ref fBook_check_kept) = true)
    (ma_Book_tell : PySem.W.findIn K (.ref CBook) "tell" = some (some (.ref fBook_tell)))
    (mi_Book_tell : PySem.W.isFn K (.ref fBook_tell) = true)
    (ml_Book_tell : K.lookup fBook_tell = some ⟨ocBook_tell, odBook_tell, .func (PySem.W.fnOf "tell" "Book.tell" (defArgs sBook_tell) (defBody sBook_tell) (defScope sBook_tell) .none kVBook_tell dcBook_tell pmBook_tell anBook_tell cdBook_tell ctBook_tell), slBook_tell⟩)
    (mc_Book_tell : PySem.W.codeIn K cdBook_tell "Book.tell" = true)
    (mk_Book_tell : PySem.W.keepIn K (.ref fBook_tell) = true)
    (ma_Book_forget : PySem.W.findIn K (.ref CBook) "forget" = some (some (.ref fBook_forget)))
    (mi_Book_forget : PySem.W.isFn K (.ref fBook_forget) = true)
    (ml_Book_forget : K.lookup fBook_forget = some ⟨ocBook_forget, odBook_forget, .func (PySem.W.fnOf "forget" "Book.forget" (defArgs sBook_forget) (defBody sBook_forget) (defScope sBook_forget) .none kVBook_forget dcBook_forget pmBook_forget anBook_forget cdBook_forget ctBook_forget), slBook_forget⟩)
    (mc_Book_forget : PySem.W.codeIn K cdBook_forget "Book.forget" = true)
    (mk_Book_forget : PySem.W.keepIn K (.ref fBook_forget) = true)
    (ma_Book_back : PySem.W.findIn K (.ref CBook) "back" = some (some (.ref fBook_back)))
    (mi_Book_back : PySem.W.isFn K (.ref fBook_back) = true)
    (ml_Book_back : K.lookup fBook_back = some ⟨ocBook_back, odBook_back, .func (PySem.W.fnOf "back" "Book.back" (defArgs sBook_back) (defBody sBook_back) (defScope sBook_back) .none kVBook_back dcBook_back pmBook_back anBook_back cdBook_back ctBook_back), slBook_back⟩)
    (mc_Book_back : PySem.W.codeIn K cdBook_back "Book.back" = true)
    (mk_Book_back : PySem.W.keepIn K (.ref fBook_back) = true)
    (ma_Book_row : PySem.W.findIn K (.ref CBook) "row" = some (some (.ref fBook_row)))
    (mi_Book_row : PySem.W.isFn K (.ref fBook_row) = true)
    (ml_Book_row : K.lookup fBook_row = some ⟨ocBook_row, odBook_row, .func (PySem.W.fnOf "row" "Book.row" (defArgs sBook_row) (defBody sBook_row) (defScope sBook_row) .none kVBook_row dcBook_row pmBook_row anBook_row cdBook_row ctBook_row), slBook_row⟩)
    (mc_Book_row : PySem.W.codeIn K cdBook_row "Book.row" = true)
    (mk_Book_row : PySem.W.keepIn K (.ref fBook_row) = true)
    (ma_Book_names : PySem.W.findIn K (.ref CBook) "names" = some (some (.ref fBook_names)))
    (mi_Book_names : PySem.W.isFn K (.ref fBook_names) = true)
    (ml_Book_names : K.lookup fBook_names = some ⟨ocBook_names, odBook_names, .func (PySem.W.fnOf "names" "Book.names" (defArgs sBook_names) (defBody sBook_names) (defScope sBook_names) .none kVBook_names dcBook_names pmBook_names anBook_names cdBook_names ctBook_names), slBook_names⟩)
    (mc_Book_names : PySem.W.codeIn K cdBook_names "Book.names" = true)
    (mk_Book_names : PySem.W.keepIn K (.ref fBook_names) = true)
    (ma_Book_kinds : PySem.W.findIn K (.ref CBook) "kinds" = some (some (.ref fBook_kinds)))
    (mi_Book_kinds : PySem.W.isFn K (.ref fBook_kinds) = true)
    (ml_Book_kinds : K.lookup fBook_kinds = some ⟨ocBook_kinds, odBook_kinds, .func (PySem.W.fnOf "kinds" "Book.kinds" (defArgs sBook_kinds) (defBody sBook_kinds) (defScope sBook_kinds) .none kVBook_kinds dcBook_kinds pmBook_kinds anBook_kinds cdBook_kinds ctBook_kinds), slBook_kinds⟩)
    (mc_Book_kinds : PySem.W.codeIn K cdBook_kinds "Book.kinds" = true)
    (mk_Book_kinds : PySem.W.keepIn K (.ref fBook_kinds) = true)
    (pg_Book : PySem.W.plainGet K CBook Str.empty = true)
    (hd_Book : PySem.W.hasDictIn K CBook = true)
    (po_Book : PySem.W.plainOver K CBook = true)
    (sa_Book : PySem.W.findIn K (.ref CBook) "__setattr__" = some (some (.builtin "object.__setattr__")))
    (mk_Book : PySem.W.makesIn K CBook = true)
    (kc_Book : PySem.W.keepIn K (.ref CBook) = true)
    (na_Book_kept : PySem.W.findIn K (.ref CBook) "kept" = some none)
    (na_Book_done : PySem.W.findIn K (.ref CBook) "done" = some none)
    (na_Book_looks : PySem.W.findIn K (.ref CBook) "looks" = some none)
    (oa_Desk : PySem.W.nsIn K mainGlobals "Desk" = some (some (.ref CDesk)))
    (ma_Desk___init__ : PySem.W.findIn K (.ref CDesk) "__init__" = some (some (.ref fDesk___init__)))
    (mi_Desk___init__ : PySem.W.isFn K (.ref fDesk___init__) = true)
    (ml_Desk___init__ : K.lookup fDesk___init__ = some ⟨ocDesk___init__, odDesk___init__, .func (PySem.W.fnOf "__init__" "Desk.__init__" (defArgs sDesk___init__) (defBody sDesk___init__) (defScope sDesk___init__) .none kVDesk___init__ dcDesk___init__ pmDesk___init__ anDesk___init__ cdDesk___init__ ctDesk___init__), slDesk___init__⟩)
    (mc_Desk___init__ : PySem.W.codeIn K cdDesk___init__ "Desk.__init__" = true)
    (mk_Desk___init__ : PySem.W.keepIn K (.ref fDesk___init__) = true)
    (ma_Desk_say : PySem.W.findIn K (.ref CDesk) "say" = some (some (.ref fDesk_say)))
    (mi_Desk_say : PySem.W.isFn K (.ref fDesk_say) = true)
    (ml_Desk_say : K.lookup fDesk_say = some ⟨ocDesk_say, odDesk_say, .func (PySem.W.fnOf "say" "Desk.say" (defArgs sDesk_say) (defBody sDesk_say) (defScope sDesk_say) .none kVDesk_say dcDesk_say pmDesk_say anDesk_say cdDesk_say ctDesk_say), slDesk_say⟩)
    (mc_Desk_say : PySem.W.codeIn K cdDesk_say "Desk.say" = true)
    (mk_Desk_say : PySem.W.keepIn K (.ref fDesk_say) = true)
    (pg_Desk : PySem.W.plainGet K CDesk Str.empty = true)
    (hd_Desk : PySem.W.hasDictIn K CDesk = true)
    (po_Desk : PySem.W.plainOver K CDesk = true)
    (sa_Desk : PySem.W.findIn K (.ref CDesk) "__setattr__" = some (some (.builtin "object.__setattr__")))
    (mk_Desk : PySem.W.makesIn K CDesk = true)
    (kc_Desk : PySem.W.keepIn K (.ref CDesk) = true)
    (na_Desk_book : PySem.W.findIn K (.ref CDesk) "book" = some none)
    (v_LONGEST_NAME : PySem.W.nsIn K mainGlobals "LONGEST_NAME" = some (some (.int 8 t_LONGEST_NAME)))
    (v_MOST_DEEDS : PySem.W.nsIn K mainGlobals "MOST_DEEDS" = some (some (.int 8 t_MOST_DEEDS)))
    (v_MOST_INPUTS : PySem.W.nsIn K mainGlobals "MOST_INPUTS" = some (some (.int 3 t_MOST_INPUTS)))
    (v_MOST_FIGURES : PySem.W.nsIn K mainGlobals "MOST_FIGURES" = some (some (.int 19 t_MOST_FIGURES)))
    (v_WIDEST : PySem.W.nsIn K mainGlobals "WIDEST" = some (some (.int 60 t_WIDEST)))
    (v_LETTERS : PySem.W.nsIn K mainGlobals "LETTERS" = some (some (.str "abcdefghijklmnopqrstuvwxyz" t_LETTERS)))
    (v_FIGURES : PySem.W.nsIn K mainGlobals "FIGURES" = some (some (.str "0123456789" t_FIGURES)))
    (v_PLACES : PySem.W.nsIn K mainGlobals "PLACES" = some (some (.ref pl_PLACES)))
    (pa_PLACES : K.lookup pl_PLACES = some ⟨.type "dict", none, .dict es_PLACES n_PLACES, #[]⟩)
    (pw0_PLACES : PySem.W.nsIn K pl_PLACES "none" = some (some (.int 0 pt0_PLACES)))
    (pw1_PLACES : PySem.W.nsIn K pl_PLACES "one" = some (some (.int 0 pt1_PLACES)))
    (pw2_PLACES : PySem.W.nsIn K pl_PLACES "all" = some (some (.int 0 pt2_PLACES)))
    (pw3_PLACES : PySem.W.nsIn K pl_PLACES "not" = some (some (.int 1 pt3_PLACES)))
    (pw4_PLACES : PySem.W.nsIn K pl_PLACES "neg" = some (some (.int 1 pt4_PLACES)))
    (pw5_PLACES : PySem.W.nsIn K pl_PLACES "twice" = some (some (.int 1 pt5_PLACES)))
    (pw6_PLACES : PySem.W.nsIn K pl_PLACES "and" = some (some (.int 2 pt6_PLACES)))
    (pw7_PLACES : PySem.W.nsIn K pl_PLACES "or" = some (some (.int 2 pt7_PLACES)))
    (pw8_PLACES : PySem.W.nsIn K pl_PLACES "xor" = some (some (.int 2 pt8_PLACES)))
    (pw9_PLACES : PySem.W.nsIn K pl_PLACES "add" = some (some (.int 2 pt9_PLACES)))
    (pw10_PLACES : PySem.W.nsIn K pl_PLACES "sub" = some (some (.int 2 pt10_PLACES)))
    (pk_PLACES : PySem.W.KeysLit w.params es_PLACES.toList)
    (pz_PLACES : (pl_PLACES == sysModules) = false)
    (pf_PLACES : KeysFw es_PLACES.toList)
    (v_FORMS : PySem.W.nsIn K mainGlobals "FORMS" = some (some (.ref pl_FORMS)))
    (pa_FORMS : K.lookup pl_FORMS = some ⟨.type "dict", none, .dict es_FORMS n_FORMS, #[]⟩)
    (pw0_FORMS : PySem.W.nsIn K pl_FORMS "tell" = some (some (.str "NAME TEXT" pt0_FORMS)))
    (pw1_FORMS : PySem.W.nsIn K pl_FORMS "forget" = some (some (.str "NAME" pt1_FORMS)))
    (pw2_FORMS : PySem.W.nsIn K pl_FORMS "back" = some (some (.str "" pt2_FORMS)))
    (pw3_FORMS : PySem.W.nsIn K pl_FORMS "show" = some (some (.str "NAME" pt3_FORMS)))
    (pw4_FORMS : PySem.W.nsIn K pl_FORMS "names" = some (some (.str "" pt4_FORMS)))
    (pw5_FORMS : PySem.W.nsIn K pl_FORMS "kinds" = some (some (.str "" pt5_FORMS)))
    (pw6_FORMS : PySem.W.nsIn K pl_FORMS "worth" = some (some (.str "NAME WIDTH WORDS" pt6_FORMS)))
    (pw7_FORMS : PySem.W.nsIn K pl_FORMS "alike" = some (some (.str "NAME NAME" pt7_FORMS)))
    (pw8_FORMS : PySem.W.nsIn K pl_FORMS "turned" = some (some (.str "NAME" pt8_FORMS)))
    (pw9_FORMS : PySem.W.nsIn K pl_FORMS "most" = some (some (.str "NAME NAME" pt9_FORMS)))
    (pw10_FORMS : PySem.W.nsIn K pl_FORMS "states" = some (some (.str "NAME" pt10_FORMS)))
    (pw11_FORMS : PySem.W.nsIn K pl_FORMS "agree" = some (some (.str "NAME NAME WIDTH" pt11_FORMS)))
    (pw12_FORMS : PySem.W.nsIn K pl_FORMS "mend" = some (some (.str "NAME" pt12_FORMS)))
    (pw13_FORMS : PySem.W.nsIn K pl_FORMS "put" = some (some (.str "NAME NAME NAMES" pt13_FORMS)))
    (pk_FORMS : PySem.W.KeysLit w.params es_FORMS.toList)
    (pz_FORMS : (pl_FORMS == sysModules) = false)
    (v_ANSWERS : PySem.W.nsIn K mainGlobals "ANSWERS" = some (some (.ref pl_ANSWERS)))
    (pa_ANSWERS : K.lookup pl_ANSWERS = some ⟨.type "dict", none, .dict es_ANSWERS n_ANSWERS, #[]⟩)
    (pw_tell_ANSWERS : PySem.W.nsIn K pl_ANSWERS "tell" = some (some (.ref f57)))
    (pw_forget_ANSWERS : PySem.W.nsIn K pl_ANSWERS "forget" = some (some (.ref f58)))
    (pw_back_ANSWERS : PySem.W.nsIn K pl_ANSWERS "back" = some (some (.ref f59)))
    (pw_show_ANSWERS : PySem.W.nsIn K pl_ANSWERS "show" = some (some (.ref f60)))
    (pw_names_ANSWERS : PySem.W.nsIn K pl_ANSWERS "names" = some (some (.ref f61)))
    (pw_kinds_ANSWERS : PySem.W.nsIn K pl_ANSWERS "kinds" = some (some (.ref f62)))
    (pk_ANSWERS : PySem.W.KeysLit w.params es_ANSWERS.toList)
    (pz_ANSWERS : (pl_ANSWERS == sysModules) = false)
    (v_SEVERAL : PySem.W.nsIn K mainGlobals "SEVERAL" = some (some (.ref sv_SEVERAL)))
    (pa_SEVERAL : K.lookup sv_SEVERAL = some ⟨.type "tuple", od_SEVERAL, .seq its_SEVERAL n_SEVERAL, sl_SEVERAL⟩)
    (pi_SEVERAL : its_SEVERAL.toList = [.str "TEXT" pt0_SEVERAL, .str "WORDS" pt1_SEVERAL, .str "NAMES" pt2_SEVERAL])
    (a_WideError : PySem.W.nsIn K mainGlobals "WideError" = some (some (.ref cWideError)))
    (x_WideError : PySem.W.excIn K cWideError [.type "ValueError", .type "Exception", .type "BaseException", .type "object"] "ValueError.__new__" = true)
    (k_WideError : PySem.W.keepIn K (.ref cWideError) = true)
    (e1_WideError : PySem.W.findIn K (.ref cWideError) "__getattribute__" = some (some (.builtin "BaseException.__getattribute__")))
    (e2_WideError : PySem.W.findIn K (.ref cWideError) "__getattr__" = some none)
    (e3_WideError : PySem.W.subIn K (.ref cWideError) (.type "BaseException") = some true)
    (e4_WideError : PySem.W.hasDictIn K cWideError = true)
    (e5_WideError : PySem.W.findIn K (.ref cWideError) "__class__" = some (some (.builtin "object.__class__")))
    (e6_WideError : PySem.W.specialIn K (.builtin "object.__class__") "__get__" = some (some (.builtin "getset_descriptor.__get__")))
    (e7_WideError : PySem.W.takesIn K (.builtin "object.__class__") = some true)
    (e8_WideError : PySem.W.mroIn K cWideError (.type "object") = some true)
    (e9_WideError : PySem.W.isClsIn K cWideError = true)
    (e10_WideError : PySem.W.typeIn K (.ref cWideError) = some (.type "type"))
    (e11_WideError : PySem.W.subIn K (.ref cWideError) (.type "ValueError") = some true)
    (a_NoRow : PySem.W.nsIn K mainGlobals "NoRow" = some (some (.ref cNoRow)))
    (x_NoRow : PySem.W.excIn K cNoRow [.type "ValueError", .type "Exception", .type "BaseException", .type "object"] "ValueError.__new__" = true)
    (k_NoRow : PySem.W.keepIn K (.ref cNoRow) = true)
    (e1_NoRow : PySem.W.findIn K (.ref cNoRow) "__getattribute__" = some (some (.builtin "BaseException.__getattribute__")))
    (e2_NoRow : PySem.W.findIn K (.ref cNoRow) "__getattr__" = some none)
    (e3_NoRow : PySem.W.subIn K (.ref cNoRow) (.type "BaseException") = some true)
    (e4_NoRow : PySem.W.hasDictIn K cNoRow = true)
    (e5_NoRow : PySem.W.findIn K (.ref cNoRow) "__class__" = some (some (.builtin "object.__class__")))
    (e6_NoRow : PySem.W.specialIn K (.builtin "object.__class__") "__get__" = some (some (.builtin "getset_descriptor.__get__")))
    (e7_NoRow : PySem.W.takesIn K (.builtin "object.__class__") = some true)
    (e8_NoRow : PySem.W.mroIn K cNoRow (.type "object") = some true)
    (e9_NoRow : PySem.W.isClsIn K cNoRow = true)
    (e10_NoRow : PySem.W.typeIn K (.ref cNoRow) = some (.type "type"))
    (e11_NoRow : PySem.W.subIn K (.ref cNoRow) (.type "ValueError") = some true)
    (a_NoPair : PySem.W.nsIn K mainGlobals "NoPair" = some (some (.ref cNoPair)))
    (x_NoPair : PySem.W.excIn K cNoPair [.type "ValueError", .type "Exception", .type "BaseException", .type "object"] "ValueError.__new__" = true)
    (k_NoPair : PySem.W.keepIn K (.ref cNoPair) = true)
    (e1_NoPair : PySem.W.findIn K (.ref cNoPair) "__getattribute__" = some (some (.builtin "BaseException.__getattribute__")))
    (e2_NoPair : PySem.W.findIn K (.ref cNoPair) "__getattr__" = some none)
    (e3_NoPair : PySem.W.subIn K (.ref cNoPair) (.type "BaseException") = some true)
    (e4_NoPair : PySem.W.hasDictIn K cNoPair = true)
    (e5_NoPair : PySem.W.findIn K (.ref cNoPair) "__class__" = some (some (.builtin "object.__class__")))
    (e6_NoPair : PySem.W.specialIn K (.builtin "object.__class__") "__get__" = some (some (.builtin "getset_descriptor.__get__")))
    (e7_NoPair : PySem.W.takesIn K (.builtin "object.__class__") = some true)
    (e8_NoPair : PySem.W.mroIn K cNoPair (.type "object") = some true)
    (e9_NoPair : PySem.W.isClsIn K cNoPair = true)
    (e10_NoPair : PySem.W.typeIn K (.ref cNoPair) = some (.type "type"))
    (e11_NoPair : PySem.W.subIn K (.ref cNoPair) (.type "ValueError") = some true)
    (a_NoName : PySem.W.nsIn K mainGlobals "NoName" = some (some (.ref cNoName)))
    (x_NoName : PySem.W.excIn K cNoName [.type "ValueError", .type "Exception", .type "BaseException", .type "object"] "ValueError.__new__" = true)
    (k_NoName : PySem.W.keepIn K (.ref cNoName) = true)
    (e1_NoName : PySem.W.findIn K (.ref cNoName) "__getattribute__" = some (some (.builtin "BaseException.__getattribute__")))
    (e2_NoName : PySem.W.findIn K (.ref cNoName) "__getattr__" = some none)
    (e3_NoName : PySem.W.subIn K (.ref cNoName) (.type "BaseException") = some true)
    (e4_NoName : PySem.W.hasDictIn K cNoName = true)
    (e5_NoName : PySem.W.findIn K (.ref cNoName) "__class__" = some (some (.builtin "object.__class__")))
    (e6_NoName : PySem.W.specialIn K (.builtin "object.__class__") "__get__" = some (some (.builtin "getset_descriptor.__get__")))
    (e7_NoName : PySem.W.takesIn K (.builtin "object.__class__") = some true)
    (e8_NoName : PySem.W.mroIn K cNoName (.type "object") = some true)
    (e9_NoName : PySem.W.isClsIn K cNoName = true)
    (e10_NoName : PySem.W.typeIn K (.ref cNoName) = some (.type "type"))
    (e11_NoName : PySem.W.subIn K (.ref cNoName) (.type "ValueError") = some true)
    (a_NoText : PySem.W.nsIn K mainGlobals "NoText" = some (some (.ref cNoText)))
    (x_NoText : PySem.W.excIn K cNoText [.type "ValueError", .type "Exception", .type "BaseException", .type "object"] "ValueError.__new__" = true)
    (k_NoText : PySem.W.keepIn K (.ref cNoText) = true)
    (e1_NoText : PySem.W.findIn K (.ref cNoText) "__getattribute__" = some (some (.builtin "BaseException.__getattribute__")))
    (e2_NoText : PySem.W.findIn K (.ref cNoText) "__getattr__" = some none)
    (e3_NoText : PySem.W.subIn K (.ref cNoText) (.type "BaseException") = some true)
    (e4_NoText : PySem.W.hasDictIn K cNoText = true)
    (e5_NoText : PySem.W.findIn K (.ref cNoText) "__class__" = some (some (.builtin "object.__class__")))
    (e6_NoText : PySem.W.specialIn K (.builtin "object.__class__") "__get__" = some (some (.builtin "getset_descriptor.__get__")))
    (e7_NoText : PySem.W.takesIn K (.builtin "object.__class__") = some true)
    (e8_NoText : PySem.W.mroIn K cNoText (.type "object") = some true)
    (e9_NoText : PySem.W.isClsIn K cNoText = true)
    (e10_NoText : PySem.W.typeIn K (.ref cNoText) = some (.type "type"))
    (e11_NoText : PySem.W.subIn K (.ref cNoText) (.type "ValueError") = some true)
    (a_TooMany : PySem.W.nsIn K mainGlobals "TooMany" = some (some (.ref cTooMany)))
    (x_TooMany : PySem.W.excIn K cTooMany [.type "ValueError", .type "Exception", .type "BaseException", .type "object"] "ValueError.__new__" = true)
    (k_TooMany : PySem.W.keepIn K (.ref cTooMany) = true)
    (e1_TooMany : PySem.W.findIn K (.ref cTooMany) "__getattribute__" = some (some (.builtin "BaseException.__getattribute__")))
    (e2_TooMany : PySem.W.findIn K (.ref cTooMany) "__getattr__" = some none)
    (e3_TooMany : PySem.W.subIn K (.ref cTooMany) (.type "BaseException") = some true)
    (e4_TooMany : PySem.W.hasDictIn K cTooMany = true)
    (e5_TooMany : PySem.W.findIn K (.ref cTooMany) "__class__" = some (some (.builtin "object.__class__")))
    (e6_TooMany : PySem.W.specialIn K (.builtin "object.__class__") "__get__" = some (some (.builtin "getset_descriptor.__get__")))
    (e7_TooMany : PySem.W.takesIn K (.builtin "object.__class__") = some true)
    (e8_TooMany : PySem.W.mroIn K cTooMany (.type "object") = some true)
    (e9_TooMany : PySem.W.isClsIn K cTooMany = true)
    (e10_TooMany : PySem.W.typeIn K (.ref cTooMany) = some (.type "type"))
    (e11_TooMany : PySem.W.subIn K (.ref cTooMany) (.type "ValueError") = some true)
    (a_Nothing : PySem.W.nsIn K mainGlobals "Nothing" = some (some (.ref cNothing)))
    (x_Nothing : PySem.W.excIn K cNothing [.type "ValueError", .type "Exception", .type "BaseException", .type "object"] "ValueError.__new__" = true)
    (k_Nothing : PySem.W.keepIn K (.ref cNothing) = true)
    (e1_Nothing : PySem.W.findIn K (.ref cNothing) "__getattribute__" = some (some (.builtin "BaseException.__getattribute__")))
    (e2_Nothing : PySem.W.findIn K (.ref cNothing) "__getattr__" = some none)
    (e3_Nothing : PySem.W.subIn K (.ref cNothing) (.type "BaseException") = some true)
    (e4_Nothing : PySem.W.hasDictIn K cNothing = true)
    (e5_Nothing : PySem.W.findIn K (.ref cNothing) "__class__" = some (some (.builtin "object.__class__")))
    (e6_Nothing : PySem.W.specialIn K (.builtin "object.__class__") "__get__" = some (some (.builtin "getset_descriptor.__get__")))
    (e7_Nothing : PySem.W.takesIn K (.builtin "object.__class__") = some true)
    (e8_Nothing : PySem.W.mroIn K cNothing (.type "object") = some true)
    (e9_Nothing : PySem.W.isClsIn K cNothing = true)
    (e10_Nothing : PySem.W.typeIn K (.ref cNothing) = some (.type "type"))
    (e11_Nothing : PySem.W.subIn K (.ref cNothing) (.type "ValueError") = some true)
    (s_WideError_WideError : PySem.W.subIn K (.ref cWideError) (.ref cWideError) = some true)
    (s_WideError_NoRow : PySem.W.subIn K (.ref cWideError) (.ref cNoRow) = some false)
    (s_WideError_NoPair : PySem.W.subIn K (.ref cWideError) (.ref cNoPair) = some false)
    (s_WideError_NoName : PySem.W.subIn K (.ref cWideError) (.ref cNoName) = some false)
    (s_WideError_NoText : PySem.W.subIn K (.ref cWideError) (.ref cNoText) = some false)
    (s_WideError_TooMany : PySem.W.subIn K (.ref cWideError) (.ref cTooMany) = some false)
    (s_WideError_Nothing : PySem.W.subIn K (.ref cWideError) (.ref cNothing) = some false)
    (s_NoRow_WideError : PySem.W.subIn K (.ref cNoRow) (.ref cWideError) = some true)
    (s_NoRow_NoRow : PySem.W.subIn K (.ref cNoRow) (.ref cNoRow) = some true)
    (s_NoRow_NoPair : PySem.W.subIn K (.ref cNoRow) (.ref cNoPair) = some false)
    (s_NoRow_NoName : PySem.W.subIn K (.ref cNoRow) (.ref cNoName) = some false)
    (s_NoRow_NoText : PySem.W.subIn K (.ref cNoRow) (.ref cNoText) = some false)
    (s_NoRow_TooMany : PySem.W.subIn K (.ref cNoRow) (.ref cTooMany) = some false)
    (s_NoRow_Nothing : PySem.W.subIn K (.ref cNoRow) (.ref cNothing) = some false)
    (s_NoPair_WideError : PySem.W.subIn K (.ref cNoPair) (.ref cWideError) = some true)
    (s_NoPair_NoRow : PySem.W.subIn K (.ref cNoPair) (.ref cNoRow) = some false)
    (s_NoPair_NoPair : PySem.W.subIn K (.ref cNoPair) (.ref cNoPair) = some true)
    (s_NoPair_NoName : PySem.W.subIn K (.ref cNoPair) (.ref cNoName) = some false)
    (s_NoPair_NoText : PySem.W.subIn K (.ref cNoPair) (.ref cNoText) = some false)
    (s_NoPair_TooMany : PySem.W.subIn K (.ref cNoPair) (.ref cTooMany) = some false)
    (s_NoPair_Nothing : PySem.W.subIn K (.ref cNoPair) (.ref cNothing) = some false)
    (s_NoName_WideError : PySem.W.subIn K (.ref cNoName) (.ref cWideError) = some true)
    (s_NoName_NoRow : PySem.W.subIn K (.ref cNoName) (.ref cNoRow) = some false)
    (s_NoName_NoPair : PySem.W.subIn K (.ref cNoName) (.ref cNoPair) = some false)
    (s_NoName_NoName : PySem.W.subIn K (.ref cNoName) (.ref cNoName) = some true)
    (s_NoName_NoText : PySem.W.subIn K (.ref cNoName) (.ref cNoText) = some false)
    (s_NoName_TooMany : PySem.W.subIn K (.ref cNoName) (.ref cTooMany) = some false)
    (s_NoName_Nothing : PySem.W.subIn K (.ref cNoName) (.ref cNothing) = some false)
    (s_NoText_WideError : PySem.W.subIn K (.ref cNoText) (.ref cWideError) = some true)
    (s_NoText_NoRow : PySem.W.subIn K (.ref cNoText) (.ref cNoRow) = some false)
    (s_NoText_NoPair : PySem.W.subIn K (.ref cNoText) (.ref cNoPair) = some false)
    (s_NoText_NoName : PySem.W.subIn K (.ref cNoText) (.ref cNoName) = some false)
    (s_NoText_NoText : PySem.W.subIn K (.ref cNoText) (.ref cNoText) = some true)
    (s_NoText_TooMany : PySem.W.subIn K (.ref cNoText) (.ref cTooMany) = some false)
    (s_NoText_Nothing : PySem.W.subIn K (.ref cNoText) (.ref cNothing) = some false)
    (s_TooMany_WideError : PySem.W.subIn K (.ref cTooMany) (.ref cWideError) = some true)
    (s_TooMany_NoRow : PySem.W.subIn K (.ref cTooMany) (.ref cNoRow) = some false)
    (s_TooMany_NoPair : PySem.W.subIn K (.ref cTooMany) (.ref cNoPair) = some false)
    (s_TooMany_NoName : PySem.W.subIn K (.ref cTooMany) (.ref cNoName) = some false)
    (s_TooMany_NoText : PySem.W.subIn K (.ref cTooMany) (.ref cNoText) = some false)
    (s_TooMany_TooMany : PySem.W.subIn K (.ref cTooMany) (.ref cTooMany) = some true)
    (s_TooMany_Nothing : PySem.W.subIn K (.ref cTooMany) (.ref cNothing) = some false)
    (s_Nothing_WideError : PySem.W.subIn K (.ref cNothing) (.ref cWideError) = some true)
    (s_Nothing_NoRow : PySem.W.subIn K (.ref cNothing) (.ref cNoRow) = some false)
    (s_Nothing_NoPair : PySem.W.subIn K (.ref cNothing) (.ref cNoPair) = some false)
    (s_Nothing_NoName : PySem.W.subIn K (.ref cNothing) (.ref cNoName) = some false)
    (s_Nothing_NoText : PySem.W.subIn K (.ref cNothing) (.ref cNoText) = some false)
    (s_Nothing_TooMany : PySem.W.subIn K (.ref cNothing) (.ref cTooMany) = some false)
    (s_Nothing_Nothing : PySem.W.subIn K (.ref cNothing) (.ref cNothing) = some true)
    (z_abs : PySem.W.nsIn K mainGlobals "abs" = some none)
    (z_all : PySem.W.nsIn K mainGlobals "all" = some none)
    (z_any : PySem.W.nsIn K mainGlobals "any" = some none)
    (z_bool : PySem.W.nsIn K mainGlobals "bool" = some none)
    (z_enumerate : PySem.W.nsIn K mainGlobals "enumerate" = some none)
    (z_int : PySem.W.nsIn K mainGlobals "int" = some none)
    (z_isinstance : PySem.W.nsIn K mainGlobals "isinstance" = some none)
    (z_len : PySem.W.nsIn K mainGlobals "len" = some none)
    (z_list : PySem.W.nsIn K mainGlobals "list" = some none)
    (z_max : PySem.W.nsIn K mainGlobals "max" = some none)
    (z_range : PySem.W.nsIn K mainGlobals "range" = some none)
    (z_set : PySem.W.nsIn K mainGlobals "set" = some none)
    (z_sorted : PySem.W.nsIn K mainGlobals "sorted" = some none)
    (z_str : PySem.W.nsIn K mainGlobals "str" = some none)
    (z_sum : PySem.W.nsIn K mainGlobals "sum" = some none)
    (z_tuple : PySem.W.nsIn K mainGlobals "tuple" = some none)
    (z_zip : PySem.W.nsIn K mainGlobals "zip" = some none)
    : ∀ (s : Shared) (a : Addr) (ns : List Int) (base : Heap) (H : Hp), ns.length ≤ 63 → (∀ z ∈ ns, Builtin.Int.intBits z ≤ 1048576) → Env0 l.prog w K mg base callerA [] s H → SqL K H a (ns.map V.int) →
      codeAny (model l.prog w) callerA (.call (.ref fa) ⟨[.ref a], []⟩) (CR CX0 [] l.prog w H s (fun v _ => v = .bl true) E0) s := by
  have F_all_bits := fun_mk (st := s_all_bits) l0 c0 k0
  have b_all_bits := F_all_bits.binds (ps := ["many"]) fun _ _ _ _ _ _ us hl => by
    obtain ⟨_, rfl⟩ := awL1 hl
    rfl
  have g_all_bits := PySem.W.mg_of X G a0
  have F_first_carry := fun_mk (st := s_first_carry) l1 c1 k1
  have b_first_carry := F_first_carry.binds (ps := ["row"]) fun _ _ _ _ _ _ us hl => by
    obtain ⟨_, rfl⟩ := awL1 hl
    rfl
  have g_first_carry := PySem.W.mg_of X G a1
  have F_deed_bit := fun_mk (st := s_deed_bit) l2 c2 k2
  have b_deed_bit := F_deed_bit.binds (ps := ["deed", "held", "told"]) fun _ _ _ _ _ _ us hl => by
    obtain ⟨_, _, _, rfl⟩ := awL3 hl
    rfl
  have g_deed_bit := PySem.W.mg_of X G a2
  have F_bits_of := fun_mk (st := s_bits_of) l3 c3 k3
  have b_bits_of := F_bits_of.binds (ps := ["row", "carry", "bits"]) fun _ _ _ _ _ _ us hl => by
    obtain ⟨_, _, _, rfl⟩ := awL3 hl
    rfl
  have g_bits_of := PySem.W.mg_of X G a3
  have F_two_or_more := fun_mk (st := s_two_or_more) l4 c4 k4
  have b_two_or_more := F_two_or_more.binds (ps := ["one", "other", "third"]) fun _ _ _ _ _ _ us hl => by
    obtain ⟨_, _, _, rfl⟩ := awL3 hl
    rfl
  have g_two_or_more := PySem.W.mg_of X G a4
  have F_deed_carry := fun_mk (st := s_deed_carry) l5 c5 k5
  have b_deed_carry := F_deed_carry.binds (ps := ["deed", "held", "told"]) fun _ _ _ _ _ _ us hl => by
    obtain ⟨_, _, _, rfl⟩ := awL3 hl
    rfl
  have g_deed_carry := PySem.W.mg_of X G a5
  have F_carry_behind := fun_mk (st := s_carry_behind) l6 c6 k6
  have b_carry_behind := F_carry_behind.binds (ps := ["row", "carry", "told"]) fun _ _ _ _ _ _ us hl => by
    obtain ⟨_, _, _, rfl⟩ := awL3 hl
    rfl
  have g_carry_behind := PySem.W.mg_of X G a6
  have F_steps := fun_mk (st := s_steps) l7 c7 k7
  have b_steps := F_steps.binds (ps := ["row", "carry"]) fun _ _ _ _ _ _ us hl => by
    obtain ⟨_, _, rfl⟩ := awL2 hl
    rfl
  have g_steps := PySem.W.mg_of X G a7
  have F_kept_steps := fun_mk (st := s_kept_steps) l8 c8 k8
  have b_kept_steps := F_kept_steps.binds (ps := ["kept", "row", "carry"]) fun _ _ _ _ _ _ us hl => by
    obtain ⟨_, _, _, rfl⟩ := awL3 hl
    rfl
  have g_kept_steps := PySem.W.mg_of X G a8
  have F_carries := fun_mk (st := s_carries) l9 c9 k9
  have b_carries := F_carries.binds (ps := ["row"]) fun _ _ _ _ _ _ us hl => by
    obtain ⟨_, rfl⟩ := awL1 hl
    rfl
  have g_carries := PySem.W.mg_of X G a9
  have F_both_steps := fun_mk (st := s_both_steps) l10 c10 k10
  have b_both_steps := F_both_steps.binds (ps := ["ones", "others"]) fun _ _ _ _ _ _ us hl => by
    obtain ⟨_, _, rfl⟩ := awL2 hl
    rfl
  have g_both_steps := PySem.W.mg_of X G a10
  have F_words_of := fun_mk (st := s_words_of) l11 c11 k11
  have b_words_of := F_words_of.binds (ps := ["many", "columns"]) fun _ _ _ _ _ _ us hl => by
    obtain ⟨_, _, rfl⟩ := awL2 hl
    rfl
  have g_words_of := PySem.W.mg_of X G a11
  have F_check_pair := fun_mk (st := s_check_pair) l12 c12 k12
  have b_check_pair := F_check_pair.binds (ps := ["row", "other"]) fun _ _ _ _ _ _ us hl => by
    obtain ⟨_, _, rfl⟩ := awL2 hl
    rfl
  have g_check_pair := PySem.W.mg_of X G a12
  have F_alike := fun_mk (st := s_alike) l13 c13 k13
  have b_alike := F_alike.binds (ps := ["row", "other"]) fun _ _ _ _ _ _ us hl => by
    obtain ⟨_, _, rfl⟩ := awL2 hl
    rfl
  have g_alike := PySem.W.mg_of X G a13
  have F_sign_behind := fun_mk (st := s_sign_behind) l14 c14 k14
  have b_sign_behind := F_sign_behind.binds (ps := ["sign", "bit", "others_bit"]) fun _ _ _ _ _ _ us hl => by
    obtain ⟨_, _, _, rfl⟩ := awL3 hl
    rfl
  have g_sign_behind := PySem.W.mg_of X G a14
  have F_triples_behind := fun_mk (st := s_triples_behind) l15 c15 k15
  have b_triples_behind := F_triples_behind.binds (ps := ["sign", "both"]) fun _ _ _ _ _ _ us hl => by
    obtain ⟨_, _, rfl⟩ := awL2 hl
    rfl
  have g_triples_behind := PySem.W.mg_of X G a15
  have F_at_most := fun_mk (st := s_at_most) l16 c16 k16
  have b_at_most := F_at_most.binds (ps := ["row", "other"]) fun _ _ _ _ _ _ us hl => by
    obtain ⟨_, _, rfl⟩ := awL2 hl
    rfl
  have g_at_most := PySem.W.mg_of X G a16
  have F_whole_machine := fun_mk (st := s_whole_machine) l17 c17 k17
  have b_whole_machine := F_whole_machine.binds (ps := ["row"]) fun _ _ _ _ _ _ us hl => by
    obtain ⟨_, rfl⟩ := awL1 hl
    rfl
  have g_whole_machine := PySem.W.mg_of X G a17
  have F_numbered := fun_mk (st := s_numbered) l18 c18 k18
  have b_numbered := F_numbered.binds (ps := ["looks"]) fun _ _ _ _ _ _ us hl => by
    obtain ⟨_, rfl⟩ := awL1 hl
    rfl
  have g_numbered := PySem.W.mg_of X G a18
  have F_kinds_of_states := fun_mk (st := s_kinds_of_states) l19 c19 k19
  have b_kinds_of_states := F_kinds_of_states.binds (ps := ["machine"]) fun _ _ _ _ _ _ us hl => by
    obtain ⟨_, rfl⟩ := awL1 hl
    rfl
  have g_kinds_of_states := PySem.W.mg_of X G a19
  have F_least_machine := fun_mk (st := s_least_machine) l20 c20 k20
  have b_least_machine := F_least_machine.binds (ps := ["row"]) fun _ _ _ _ _ _ us hl => by
    obtain ⟨_, rfl⟩ := awL1 hl
    rfl
  have g_least_machine := PySem.W.mg_of X G a20
  have F_is_whole := fun_mk (st := s_is_whole) l21 c21 k21
  have b_is_whole := F_is_whole.binds (ps := ["thing"]) fun _ _ _ _ _ _ us hl => by
    obtain ⟨_, rfl⟩ := awL1 hl
    rfl
  have g_is_whole := PySem.W.mg_of X G a21
  have F_is_number_below := fun_mk (st := s_is_number_below) l22 c22 k22
  have b_is_number_below := F_is_number_below.binds (ps := ["thing", "many"]) fun _ _ _ _ _ _ us hl => by
    obtain ⟨_, _, rfl⟩ := awL2 hl
    rfl
  have g_is_number_below := PySem.W.mg_of X G a22
  have F_is_deed := fun_mk (st := s_is_deed) l23 c23 k23
  have b_is_deed := F_is_deed.binds (ps := ["thing", "ahead"]) fun _ _ _ _ _ _ us hl => by
    obtain ⟨_, _, rfl⟩ := awL2 hl
    rfl
  have g_is_deed := PySem.W.mg_of X G a23
  have F_are_deeds := fun_mk (st := s_are_deeds) l24 c24 k24
  have b_are_deeds := F_are_deeds.binds (ps := ["thing", "many"]) fun _ _ _ _ _ _ us hl => by
    obtain ⟨_, _, rfl⟩ := awL2 hl
    rfl
  have g_are_deeds := PySem.W.mg_of X G a24
  have F_is_row := fun_mk (st := s_is_row) l25 c25 k25
  have b_is_row := F_is_row.binds (ps := ["thing"]) fun _ _ _ _ _ _ us hl => by
    obtain ⟨_, rfl⟩ := awL1 hl
    rfl
  have g_is_row := PySem.W.mg_of X G a25
  have F_renumbered := fun_mk (st := s_renumbered) l26 c26 k26
  have b_renumbered := F_renumbered.binds (ps := ["deed", "numbers"]) fun _ _ _ _ _ _ us hl => by
    obtain ⟨_, _, rfl⟩ := awL2 hl
    rfl
  have g_renumbered := PySem.W.mg_of X G a26
  have F_deed_value := fun_mk (st := s_deed_value) l27 c27 k27
  have b_deed_value := F_deed_value.binds (ps := ["deed", "told", "size"]) fun _ _ _ _ _ _ us hl => by
    obtain ⟨_, _, _, rfl⟩ := awL3 hl
    rfl
  have g_deed_value := PySem.W.mg_of X G a27
  have F_values := fun_mk (st := s_values) l28 c28 k28
  have b_values := F_values.binds (ps := ["row", "width", "words"]) fun _ _ _ _ _ _ us hl => by
    obtain ⟨_, _, _, rfl⟩ := awL3 hl
    rfl
  have g_values := PySem.W.mg_of X G a28
  have F_worth := fun_mk (st := s_worth) l29 c29 k29
  have b_worth := F_worth.binds (ps := ["row", "width", "words"]) fun _ _ _ _ _ _ us hl => by
    obtain ⟨_, _, _, rfl⟩ := awL3 hl
    rfl
  have g_worth := PySem.W.mg_of X G a29
  have F_is_name := fun_mk (st := s_is_name) l30 c30 k30
  have b_is_name := F_is_name.binds (ps := ["thing"]) fun _ _ _ _ _ _ us hl => by
    obtain ⟨_, rfl⟩ := awL1 hl
    rfl
  have g_is_name := PySem.W.mg_of X G a30
  have F_check_name := fun_mk (st := s_check_name) l31 c31 k31
  have b_check_name := F_check_name.binds (ps := ["thing"]) fun _ _ _ _ _ _ us hl => by
    obtain ⟨_, rfl⟩ := awL1 hl
    rfl
  have g_check_name := PySem.W.mg_of X G a31
  have F_look_of := fun_mk (st := s_look_of) l32 c32 k32
  have b_look_of := F_look_of.binds (ps := ["row"]) fun _ _ _ _ _ _ us hl => by
    obtain ⟨_, rfl⟩ := awL1 hl
    rfl
  have g_look_of := PySem.W.mg_of X G a32
  have F_agreeing := fun_mk (st := s_agreeing) l33 c33 k33
  have b_agreeing := F_agreeing.binds (ps := ["row", "other"]) fun _ _ _ _ _ _ us hl => by
    obtain ⟨_, _, rfl⟩ := awL2 hl
    rfl
  have g_agreeing := PySem.W.mg_of X G a33
  have F_how_often := fun_mk (st := s_how_often) l34 c34 k34
  have b_how_often := F_how_often.binds (ps := ["row", "other", "width"]) fun _ _ _ _ _ _ us hl => by
    obtain ⟨_, _, _, rfl⟩ := awL3 hl
    rfl
  have g_how_often := PySem.W.mg_of X G a34
  have F_check_parts := fun_mk (st := s_check_parts) l35 c35 k35
  have b_check_parts := F_check_parts.binds (ps := ["row", "rows"]) fun _ _ _ _ _ _ us hl => by
    obtain ⟨_, _, rfl⟩ := awL2 hl
    rfl
  have g_check_parts := PySem.W.mg_of X G a35
  have F_put_behind := fun_mk (st := s_put_behind) l36 c36 k36
  have b_put_behind := F_put_behind.binds (ps := ["many", "deeds", "row", "inputs"]) fun _ _ _ _ _ _ us hl => by
    obtain ⟨_, _, _, _, rfl⟩ := awL4 hl
    rfl
  have g_put_behind := PySem.W.mg_of X G a36
  have F_put_together := fun_mk (st := s_put_together) l37 c37 k37
  have b_put_together := F_put_together.binds (ps := ["row", "rows"]) fun _ _ _ _ _ _ us hl => by
    obtain ⟨_, _, rfl⟩ := awL2 hl
    rfl
  have g_put_together := PySem.W.mg_of X G a37
  have F_first_alikes := fun_mk (st := s_first_alikes) l38 c38 k38
  have b_first_alikes := F_first_alikes.binds (ps := ["row"]) fun _ _ _ _ _ _ us hl => by
    obtain ⟨_, rfl⟩ := awL1 hl
    rfl
  have g_first_alikes := PySem.W.mg_of X G a38
  have F_is_had := fun_mk (st := s_is_had) l39 c39 k39
  have b_is_had := F_is_had.binds (ps := ["row", "value"]) fun _ _ _ _ _ _ us hl => by
    obtain ⟨_, _, rfl⟩ := awL2 hl
    rfl
  have g_is_had := PySem.W.mg_of X G a39
  have F_fitting := fun_mk (st := s_fitting) l40 c40 k40
  have b_fitting := F_fitting.binds (ps := ["row"]) fun _ _ _ _ _ _ us hl => by
    obtain ⟨_, rfl⟩ := awL1 hl
    rfl
  have g_fitting := PySem.W.mg_of X G a40
  have F_dropped := fun_mk (st := s_dropped) l41 c41 k41
  have b_dropped := F_dropped.binds (ps := ["row", "value"]) fun _ _ _ _ _ _ us hl => by
    obtain ⟨_, _, rfl⟩ := awL2 hl
    rfl
  have g_dropped := PySem.W.mg_of X G a41
  have F_brought_back := fun_mk (st := s_brought_back) l42 c42 k42
  have b_brought_back := F_brought_back.binds (ps := ["row", "value"]) fun _ _ _ _ _ _ us hl => by
    obtain ⟨_, _, rfl⟩ := awL2 hl
    rfl
  have g_brought_back := PySem.W.mg_of X G a42
  have F_put_by := fun_mk (st := s_put_by) l43 c43 k43
  have b_put_by := F_put_by.binds (ps := ["row", "rule", "value"]) fun _ _ _ _ _ _ us hl => by
    obtain ⟨_, _, _, rfl⟩ := awL3 hl
    rfl
  have g_put_by := PySem.W.mg_of X G a43
  have F_mended := fun_mk (st := s_mended) l44 c44 k44
  have b_mended := F_mended.binds (ps := ["row"]) fun _ _ _ _ _ _ us hl => by
    obtain ⟨_, rfl⟩ := awL1 hl
    rfl
  have g_mended := PySem.W.mg_of X G a44
  have F_read_number := fun_mk (st := s_read_number) l45 c45 k45
  have b_read_number := F_read_number.binds (ps := ["word"]) fun _ _ _ _ _ _ us hl => by
    obtain ⟨_, rfl⟩ := awL1 hl
    rfl
  have g_read_number := PySem.W.mg_of X G a45
  have F_written_part := fun_mk (st := s_written_part) l46 c46 k46
  have b_written_part := F_written_part.binds (ps := ["part"]) fun _ _ _ _ _ _ us hl => by
    obtain ⟨_, rfl⟩ := awL1 hl
    rfl
  have g_written_part := PySem.W.mg_of X G a46
  have F_read_part := fun_mk (st := s_read_part) l47 c47 k47
  have b_read_part := F_read_part.binds (ps := ["text"]) fun _ _ _ _ _ _ us hl => by
    obtain ⟨_, rfl⟩ := awL1 hl
    rfl
  have g_read_part := PySem.W.mg_of X G a47
  have F_show_row := fun_mk (st := s_show_row) l48 c48 k48
  have b_show_row := F_show_row.binds (ps := ["row"]) fun _ _ _ _ _ _ us hl => by
    obtain ⟨_, rfl⟩ := awL1 hl
    rfl
  have g_show_row := PySem.W.mg_of X G a48
  have F_read_row := fun_mk (st := s_read_row) l49 c49 k49
  have b_read_row := F_read_row.binds (ps := ["text"]) fun _ _ _ _ _ _ us hl => by
    obtain ⟨_, rfl⟩ := awL1 hl
    rfl
  have g_read_row := PySem.W.mg_of X G a49
  have F_check_single := fun_mk (st := s_check_single) l50 c50 k50
  have b_check_single := F_check_single.binds (ps := ["row"]) fun _ _ _ _ _ _ us hl => by
    obtain ⟨_, rfl⟩ := awL1 hl
    rfl
  have g_check_single := PySem.W.mg_of X G a50
  have F_turned := fun_mk (st := s_turned) l51 c51 k51
  have b_turned := F_turned.binds (ps := ["row"]) fun _ _ _ _ _ _ us hl => by
    obtain ⟨_, rfl⟩ := awL1 hl
    rfl
  have g_turned := PySem.W.mg_of X G a51
  have F_is_width := fun_mk (st := s_is_width) l52 c52 k52
  have b_is_width := F_is_width.binds (ps := ["word"]) fun _ _ _ _ _ _ us hl => by
    obtain ⟨_, rfl⟩ := awL1 hl
    rfl
  have g_is_width := PySem.W.mg_of X G a52
  have F_is_in_place := fun_mk (st := s_is_in_place) l53 c53 k53
  have b_is_in_place := F_is_in_place.binds (ps := ["word", "place"]) fun _ _ _ _ _ _ us hl => by
    obtain ⟨_, _, rfl⟩ := awL2 hl
    rfl
  have g_is_in_place := PySem.W.mg_of X G a53
  have F_is_of_form := fun_mk (st := s_is_of_form) l54 c54 k54
  have b_is_of_form := F_is_of_form.binds (ps := ["words", "form"]) fun _ _ _ _ _ _ us hl => by
    obtain ⟨_, _, rfl⟩ := awL2 hl
    rfl
  have g_is_of_form := PySem.W.mg_of X G a54
  have F_words_said := fun_mk (st := s_words_said) l55 c55 k55
  have b_words_said := F_words_said.binds (ps := ["row"]) fun _ _ _ _ _ _ us hl => by
    obtain ⟨_, rfl⟩ := awL1 hl
    rfl
  have g_words_said := PySem.W.mg_of X G a55
  have F_with_width := fun_mk (st := s_with_width) l56 c56 k56
  have b_with_width := F_with_width.binds (ps := ["told"]) fun _ _ _ _ _ _ us hl => by
    obtain ⟨_, rfl⟩ := awL1 hl
    rfl
  have g_with_width := PySem.W.mg_of X G a56
  have F_answer_tell := fun_mk (st := s_answer_tell) l57 c57 k57
  have b_answer_tell := F_answer_tell.binds (ps := ["book", "words"]) fun _ _ _ _ _ _ us hl => by
    obtain ⟨_, _, rfl⟩ := awL2 hl
    rfl
  have g_answer_tell := PySem.W.mg_of X G a57
  have F_answer_forget := fun_mk (st := s_answer_forget) l58 c58 k58
  have b_answer_forget := F_answer_forget.binds (ps := ["book", "words"]) fun _ _ _ _ _ _ us hl => by
    obtain ⟨_, _, rfl⟩ := awL2 hl
    rfl
  have g_answer_forget := PySem.W.mg_of X G a58
  have F_answer_back := fun_mk (st := s_answer_back) l59 c59 k59
  have b_answer_back := F_answer_back.binds (ps := ["book", "words"]) fun _ _ _ _ _ _ us hl => by
    obtain ⟨_, _, rfl⟩ := awL2 hl
    rfl
  have g_answer_back := PySem.W.mg_of X G a59
  have F_answer_show := fun_mk (st := s_answer_show) l60 c60 k60
  have b_answer_show := F_answer_show.binds (ps := ["book", "words"]) fun _ _ _ _ _ _ us hl => by
    obtain ⟨_, _, rfl⟩ := awL2 hl
    rfl
  have g_answer_show := PySem.W.mg_of X G a60
  have F_answer_names := fun_mk (st := s_answer_names) l61 c61 k61
  have b_answer_names := F_answer_names.binds (ps := ["book", "words"]) fun _ _ _ _ _ _ us hl => by
    obtain ⟨_, _, rfl⟩ := awL2 hl
    rfl
  have g_answer_names := PySem.W.mg_of X G a61
  have F_answer_kinds := fun_mk (st := s_answer_kinds) l62 c62 k62
  have b_answer_kinds := F_answer_kinds.binds (ps := ["book", "words"]) fun _ _ _ _ _ _ us hl => by
    obtain ⟨_, _, rfl⟩ := awL2 hl
    rfl
  have g_answer_kinds := PySem.W.mg_of X G a62
  have F_answer_worth := fun_mk (st := s_answer_worth) l63 c63 k63
  have b_answer_worth := F_answer_worth.binds (ps := ["book", "words"]) fun _ _ _ _ _ _ us hl => by
    obtain ⟨_, _, rfl⟩ := awL2 hl
    rfl
  have g_answer_worth := PySem.W.mg_of X G a63
  have F_answer_alike := fun_mk (st := s_answer_alike) l64 c64 k64
  have b_answer_alike := F_answer_alike.binds (ps := ["book", "words"]) fun _ _ _ _ _ _ us hl => by
    obtain ⟨_, _, rfl⟩ := awL2 hl
    rfl
  have g_answer_alike := PySem.W.mg_of X G a64
  have F_answer_turned := fun_mk (st := s_answer_turned) l65 c65 k65
  have b_answer_turned := F_answer_turned.binds (ps := ["book", "words"]) fun _ _ _ _ _ _ us hl => by
    obtain ⟨_, _, rfl⟩ := awL2 hl
    rfl
  have g_answer_turned := PySem.W.mg_of X G a65
  have F_answer_most := fun_mk (st := s_answer_most) l66 c66 k66
  have b_answer_most := F_answer_most.binds (ps := ["book", "words"]) fun _ _ _ _ _ _ us hl => by
    obtain ⟨_, _, rfl⟩ := awL2 hl
    rfl
  have g_answer_most := PySem.W.mg_of X G a66
  have F_answer_states := fun_mk (st := s_answer_states) l67 c67 k67
  have b_answer_states := F_answer_states.binds (ps := ["book", "words"]) fun _ _ _ _ _ _ us hl => by
    obtain ⟨_, _, rfl⟩ := awL2 hl
    rfl
  have g_answer_states := PySem.W.mg_of X G a67
  have F_answer_agree := fun_mk (st := s_answer_agree) l68 c68 k68
  have b_answer_agree := F_answer_agree.binds (ps := ["book", "words"]) fun _ _ _ _ _ _ us hl => by
    obtain ⟨_, _, rfl⟩ := awL2 hl
    rfl
  have g_answer_agree := PySem.W.mg_of X G a68
  have F_answer_mend := fun_mk (st := s_answer_mend) l69 c69 k69
  have b_answer_mend := F_answer_mend.binds (ps := ["book", "words"]) fun _ _ _ _ _ _ us hl => by
    obtain ⟨_, _, rfl⟩ := awL2 hl
    rfl
  have g_answer_mend := PySem.W.mg_of X G a69
  have F_answer_put := fun_mk (st := s_answer_put) l70 c70 k70
  have b_answer_put := F_answer_put.binds (ps := ["book", "words"]) fun _ _ _ _ _ _ us hl => by
    obtain ⟨_, _, rfl⟩ := awL2 hl
    rfl
  have g_answer_put := PySem.W.mg_of X G a70
  have F_law_well := fun_mk (st := s_law_well) l71 c71 k71
  have b_law_well := F_law_well.binds (ps := ["script"]) fun _ _ _ _ _ _ us hl => by
    obtain ⟨_, rfl⟩ := awL1 hl
    rfl
  have g_law_well := PySem.W.mg_of X G a71
  have F_law_draw := fun_mk (st := s_law_draw) l72 c72 k72
  have b_law_draw := F_law_draw.binds (ps := ["well", "many"]) fun _ _ _ _ _ _ us hl => by
    obtain ⟨_, _, rfl⟩ := awL2 hl
    rfl
  have g_law_draw := PySem.W.mg_of X G a72
  have F_law_text := fun_mk (st := s_law_text) l73 c73 k73
  have b_law_text := F_law_text.binds (ps := ["row"]) fun _ _ _ _ _ _ us hl => by
    obtain ⟨_, rfl⟩ := awL1 hl
    rfl
  have g_law_text := PySem.W.mg_of X G a73
  have F_law_said := fun_mk (st := s_law_said) l74 c74 k74
  have b_law_said := F_law_said.binds (ps := ["desk", "row", "due"]) fun _ _ _ _ _ _ us hl => by
    obtain ⟨_, _, _, rfl⟩ := awL3 hl
    rfl
  have g_law_said := PySem.W.mg_of X G a74
  have F_law_simple := fun_mk (st := s_law_simple) l75 c75 k75
  have b_law_simple := F_law_simple.binds (ps := ["well"]) fun _ _ _ _ _ _ us hl => by
    obtain ⟨_, rfl⟩ := awL1 hl
    rfl
  have g_law_simple := PySem.W.mg_of X G a75
  have F_law_told := fun_mk (st := s_law_told) l76 c76 k76
  have b_law_told := F_law_told.binds (ps := ["desk", "names", "state"]) fun _ _ _ _ _ _ us hl => by
    obtain ⟨_, _, _, rfl⟩ := awL3 hl
    rfl
  have g_law_told := PySem.W.mg_of X G a76
  have F_law_two_letters := fun_mk (st := s_law_two_letters) l77 c77 k77
  have b_law_two_letters := F_law_two_letters.binds (ps := ["well", "many"]) fun _ _ _ _ _ _ us hl => by
    obtain ⟨_, _, rfl⟩ := awL2 hl
    rfl
  have g_law_two_letters := PySem.W.mg_of X G a77
  have F_law_told_long := fun_mk (st := s_law_told_long) l78 c78 k78
  have b_law_told_long := F_law_told_long.binds (ps := ["well", "desk", "names", "state", "past"]) fun _ _ _ _ _ _ us hl => by
    obtain ⟨_, _, _, _, _, rfl⟩ := awL5 hl
    rfl
  have g_law_told_long := PySem.W.mg_of X G a78
  have F_law := fun_mk (st := s_law) l79 c79 k79
  have b_law := F_law.binds (ps := ["script"]) fun _ _ _ _ _ _ us hl => by
    obtain ⟨_, rfl⟩ := awL1 hl
    rfl
  obtain rfl : fa = f79 := by
    have e := hfa.symm.trans (PySem.W.mg_of X G a79)
    cases e
    rfl
  have FWalk___init__ := fun_mk (st := sWalk___init__) ml_Walk___init__ mc_Walk___init__ mk_Walk___init__
  have MWalk___init__ : Meth K CWalk "__init__" fWalk___init__ := ⟨ma_Walk___init__, mi_Walk___init__, mk_Walk___init__⟩
  have FWalk_meet := fun_mk (st := sWalk_meet) ml_Walk_meet mc_Walk_meet mk_Walk_meet
  have MWalk_meet : Meth K CWalk "meet" fWalk_meet := ⟨ma_Walk_meet, mi_Walk_meet, mk_Walk_meet⟩
  have TWalk : Cls K CWalk := ⟨pg_Walk, hd_Walk, po_Walk, sa_Walk⟩
  have gWalk := PySem.W.mg_of X G oa_Walk
  have KWalk : Mk K CWalk fWalk___init__ := ⟨mk_Walk, ma_Walk___init__, mi_Walk___init__, kc_Walk⟩
  have FBook___init__ := fun_mk (st := sBook___init__) ml_Book___init__ mc_Book___init__ mk_Book___init__
  have MBook___init__ : Meth K CBook "__init__" fBook___init__ := ⟨ma_Book___init__, mi_Book___init__, mk_Book___init__⟩
  have FBook_check_kept := fun_mk (st := sBook_check_kept) ml_Book_check_kept mc_Book_check_kept mk_Book_check_kept
  have MBook_check_kept : Meth K CBook "check_kept" fBook_check_kept := ⟨ma_Book_check_kept, mi_Book_check_kept, mk_Book_check_kept⟩
  have FBook_tell := fun_mk (st := sBook_tell) ml_Book_tell mc_Book_tell mk_Book_tell
  have MBook_tell : Meth K CBook "tell" fBook_tell := ⟨ma_Book_tell, mi_Book_tell, mk_Book_tell⟩
  have FBook_forget := fun_mk (st := sBook_forget) ml_Book_forget mc_Book_forget mk_Book_forget
  have MBook_forget : Meth K CBook "forget" fBook_forget := ⟨ma_Book_forget, mi_Book_forget, mk_Book_forget⟩
  have FBook_back := fun_mk (st := sBook_back) ml_Book_back mc_Book_back mk_Book_back
  have MBook_back : Meth K CBook "back" fBook_back := ⟨ma_Book_back, mi_Book_back, mk_Book_back⟩
  have FBook_row := fun_mk (st := sBook_row) ml_Book_row mc_Book_row mk_Book_row
  have MBook_row : Meth K CBook "row" fBook_row := ⟨ma_Book_row, mi_Book_row, mk_Book_row⟩
  have FBook_names := fun_mk (st := sBook_names) ml_Book_names mc_Book_names mk_Book_names
  have MBook_names : Meth K CBook "names" fBook_names := ⟨ma_Book_names, mi_Book_names, mk_Book_names⟩
  have FBook_kinds := fun_mk (st := sBook_kinds) ml_Book_kinds mc_Book_kinds mk_Book_kinds
  have MBook_kinds : Meth K CBook "kinds" fBook_kinds := ⟨ma_Book_kinds, mi_Book_kinds, mk_Book_kinds⟩
  have TBook : Cls K CBook := ⟨pg_Book, hd_Book, po_Book, sa_Book⟩
  have gBook := PySem.W.mg_of X G oa_Book
  have KBook : Mk K CBook fBook___init__ := ⟨mk_Book, ma_Book___init__, mi_Book___init__, kc_Book⟩
  have FDesk___init__ := fun_mk (st := sDesk___init__) ml_Desk___init__ mc_Desk___init__ mk_Desk___init__
  have MDesk___init__ : Meth K CDesk "__init__" fDesk___init__ := ⟨ma_Desk___init__, mi_Desk___init__, mk_Desk___init__⟩
  have FDesk_say := fun_mk (st := sDesk_say) ml_Desk_say mc_Desk_say mk_Desk_say
  have MDesk_say : Meth K CDesk "say" fDesk_say := ⟨ma_Desk_say, mi_Desk_say, mk_Desk_say⟩
  have TDesk : Cls K CDesk := ⟨pg_Desk, hd_Desk, po_Desk, sa_Desk⟩
  have gDesk := PySem.W.mg_of X G oa_Desk
  have KDesk : Mk K CDesk fDesk___init__ := ⟨mk_Desk, ma_Desk___init__, mi_Desk___init__, kc_Desk⟩
  have g_LONGEST_NAME := PySem.W.mg_of X G v_LONGEST_NAME
  have g_MOST_DEEDS := PySem.W.mg_of X G v_MOST_DEEDS
  have g_MOST_INPUTS := PySem.W.mg_of X G v_MOST_INPUTS
  have g_MOST_FIGURES := PySem.W.mg_of X G v_MOST_FIGURES
  have g_WIDEST := PySem.W.mg_of X G v_WIDEST
  have g_LETTERS := PySem.W.mg_of X G v_LETTERS
  have g_FIGURES := PySem.W.mg_of X G v_FIGURES
  have g_PLACES := PySem.W.mg_of X G v_PLACES
  have D_PLACES : PlOk K w pl_PLACES es_PLACES n_PLACES := ⟨⟨pa_PLACES, pk_PLACES, pz_PLACES⟩, fun p hp => by
      unfold fwL at hp
      simp only [List.mem_cons, List.not_mem_nil, or_false] at hp
      rcases hp with rfl | rfl | rfl | rfl | rfl | rfl | rfl | rfl | rfl | rfl | rfl
      · exact ⟨_, pw0_PLACES⟩
      · exact ⟨_, pw1_PLACES⟩
      · exact ⟨_, pw2_PLACES⟩
      · exact ⟨_, pw3_PLACES⟩
      · exact ⟨_, pw4_PLACES⟩
      · exact ⟨_, pw5_PLACES⟩
      · exact ⟨_, pw6_PLACES⟩
      · exact ⟨_, pw7_PLACES⟩
      · exact ⟨_, pw8_PLACES⟩
      · exact ⟨_, pw9_PLACES⟩
      · exact ⟨_, pw10_PLACES⟩
    , pf_PLACES⟩
  have g_FORMS := PySem.W.mg_of X G v_FORMS
  have D_FORMS : FmOk K w pl_FORMS es_FORMS n_FORMS := ⟨⟨pa_FORMS, pk_FORMS, pz_FORMS⟩, fun p hp => by
      unfold formsL at hp
      simp only [List.mem_cons, List.not_mem_nil, or_false] at hp
      rcases hp with rfl | rfl | rfl | rfl | rfl | rfl | rfl | rfl | rfl | rfl | rfl | rfl | rfl | rfl
      · exact ⟨_, pw0_FORMS⟩
      · exact ⟨_, pw1_FORMS⟩
      · exact ⟨_, pw2_FORMS⟩
      · exact ⟨_, pw3_FORMS⟩
      · exact ⟨_, pw4_FORMS⟩
      · exact ⟨_, pw5_FORMS⟩
      · exact ⟨_, pw6_FORMS⟩
      · exact ⟨_, pw7_FORMS⟩
      · exact ⟨_, pw8_FORMS⟩
      · exact ⟨_, pw9_FORMS⟩
      · exact ⟨_, pw10_FORMS⟩
      · exact ⟨_, pw11_FORMS⟩
      · exact ⟨_, pw12_FORMS⟩
      · exact ⟨_, pw13_FORMS⟩
    ⟩
  have g_ANSWERS := PySem.W.mg_of X G v_ANSWERS
  have D_ANSWERS : KDict K w pl_ANSWERS es_ANSWERS n_ANSWERS := ⟨pa_ANSWERS, pk_ANSWERS, pz_ANSWERS⟩
  have g_SEVERAL := PySem.W.mg_of X G v_SEVERAL
  have S_SEVERAL : ∀ H : Hp, SqT K H sv_SEVERAL [V.str "TEXT", V.str "WORDS", V.str "NAMES"] := fun H => .inr ⟨_, its_SEVERAL, _, pa_SEVERAL, rfl, rfl, by rw [← Array.length_toList, pi_SEVERAL]; show 3 ≤ sizeLine; decide, by rw [pi_SEVERAL]; exact .cons ⟨_, rfl⟩ (.cons ⟨_, rfl⟩ (.cons ⟨_, rfl⟩ (.nil)))⟩
  have g_WideError := PySem.W.mg_of X G a_WideError
  have X_WideError : ExcC K cWideError := ⟨e1_WideError, e2_WideError, e3_WideError, e4_WideError, e5_WideError, e6_WideError, e7_WideError, e8_WideError⟩
  have g_NoRow := PySem.W.mg_of X G a_NoRow
  have X_NoRow : ExcC K cNoRow := ⟨e1_NoRow, e2_NoRow, e3_NoRow, e4_NoRow, e5_NoRow, e6_NoRow, e7_NoRow, e8_NoRow⟩
  have g_NoPair := PySem.W.mg_of X G a_NoPair
  have X_NoPair : ExcC K cNoPair := ⟨e1_NoPair, e2_NoPair, e3_NoPair, e4_NoPair, e5_NoPair, e6_NoPair, e7_NoPair, e8_NoPair⟩
  have g_NoName := PySem.W.mg_of X G a_NoName
  have X_NoName : ExcC K cNoName := ⟨e1_NoName, e2_NoName, e3_NoName, e4_NoName, e5_NoName, e6_NoName, e7_NoName, e8_NoName⟩
  have g_NoText := PySem.W.mg_of X G a_NoText
  have X_NoText : ExcC K cNoText := ⟨e1_NoText, e2_NoText, e3_NoText, e4_NoText, e5_NoText, e6_NoText, e7_NoText, e8_NoText⟩
  have g_TooMany := PySem.W.mg_of X G a_TooMany
  have X_TooMany : ExcC K cTooMany := ⟨e1_TooMany, e2_TooMany, e3_TooMany, e4_TooMany, e5_TooMany, e6_TooMany, e7_TooMany, e8_TooMany⟩
  have g_Nothing := PySem.W.mg_of X G a_Nothing
  have X_Nothing : ExcC K cNothing := ⟨e1_Nothing, e2_Nothing, e3_Nothing, e4_Nothing, e5_Nothing, e6_Nothing, e7_Nothing, e8_Nothing⟩
  have t_WideError_WideError := kit_ref e9_WideError e10_WideError s_WideError_WideError s_WideError_WideError
  have t_WideError_NoRow := kit_ref e9_NoRow e10_NoRow s_WideError_NoRow s_NoRow_NoRow
  have t_WideError_NoPair := kit_ref e9_NoPair e10_NoPair s_WideError_NoPair s_NoPair_NoPair
  have t_WideError_NoName := kit_ref e9_NoName e10_NoName s_WideError_NoName s_NoName_NoName
  have t_WideError_NoText := kit_ref e9_NoText e10_NoText s_WideError_NoText s_NoText_NoText
  have t_WideError_TooMany := kit_ref e9_TooMany e10_TooMany s_WideError_TooMany s_TooMany_TooMany
  have t_WideError_Nothing := kit_ref e9_Nothing e10_Nothing s_WideError_Nothing s_Nothing_Nothing
  have v_WideError := kit_ve e11_WideError
  have t_NoRow_WideError := kit_ref e9_WideError e10_WideError s_NoRow_WideError s_WideError_WideError
  have t_NoRow_NoRow := kit_ref e9_NoRow e10_NoRow s_NoRow_NoRow s_NoRow_NoRow
  have t_NoRow_NoPair := kit_ref e9_NoPair e10_NoPair s_NoRow_NoPair s_NoPair_NoPair
  have t_NoRow_NoName := kit_ref e9_NoName e10_NoName s_NoRow_NoName s_NoName_NoName
  have t_NoRow_NoText := kit_ref e9_NoText e10_NoText s_NoRow_NoText s_NoText_NoText
  have t_NoRow_TooMany := kit_ref e9_TooMany e10_TooMany s_NoRow_TooMany s_TooMany_TooMany
  have t_NoRow_Nothing := kit_ref e9_Nothing e10_Nothing s_NoRow_Nothing s_Nothing_Nothing
  have v_NoRow := kit_ve e11_NoRow
  have t_NoPair_WideError := kit_ref e9_WideError e10_WideError s_NoPair_WideError s_WideError_WideError
  have t_NoPair_NoRow := kit_ref e9_NoRow e10_NoRow s_NoPair_NoRow s_NoRow_NoRow
  have t_NoPair_NoPair := kit_ref e9_NoPair e10_NoPair s_NoPair_NoPair s_NoPair_NoPair
  have t_NoPair_NoName := kit_ref e9_NoName e10_NoName s_NoPair_NoName s_NoName_NoName
  have t_NoPair_NoText := kit_ref e9_NoText e10_NoText s_NoPair_NoText s_NoText_NoText
  have t_NoPair_TooMany := kit_ref e9_TooMany e10_TooMany s_NoPair_TooMany s_TooMany_TooMany
  have t_NoPair_Nothing := kit_ref e9_Nothing e10_Nothing s_NoPair_Nothing s_Nothing_Nothing
  have v_NoPair := kit_ve e11_NoPair
  have t_NoName_WideError := kit_ref e9_WideError e10_WideError s_NoName_WideError s_WideError_WideError
  have t_NoName_NoRow := kit_ref e9_NoRow e10_NoRow s_NoName_NoRow s_NoRow_NoRow
  have t_NoName_NoPair := kit_ref e9_NoPair e10_NoPair s_NoName_NoPair s_NoPair_NoPair
  have t_NoName_NoName := kit_ref e9_NoName e10_NoName s_NoName_NoName s_NoName_NoName
  have t_NoName_NoText := kit_ref e9_NoText e10_NoText s_NoName_NoText s_NoText_NoText
  have t_NoName_TooMany := kit_ref e9_TooMany e10_TooMany s_NoName_TooMany s_TooMany_TooMany
  have t_NoName_Nothing := kit_ref e9_Nothing e10_Nothing s_NoName_Nothing s_Nothing_Nothing
  have v_NoName := kit_ve e11_NoName
  have t_NoText_WideError := kit_ref e9_WideError e10_WideError s_NoText_WideError s_WideError_WideError
  have t_NoText_NoRow := kit_ref e9_NoRow e10_NoRow s_NoText_NoRow s_NoRow_NoRow
  have t_NoText_NoPair := kit_ref e9_NoPair e10_NoPair s_NoText_NoPair s_NoPair_NoPair
  have t_NoText_NoName := kit_ref e9_NoName e10_NoName s_NoText_NoName s_NoName_NoName
  have t_NoText_NoText := kit_ref e9_NoText e10_NoText s_NoText_NoText s_NoText_NoText
  have t_NoText_TooMany := kit_ref e9_TooMany e10_TooMany s_NoText_TooMany s_TooMany_TooMany
  have t_NoText_Nothing := kit_ref e9_Nothing e10_Nothing s_NoText_Nothing s_Nothing_Nothing
  have v_NoText := kit_ve e11_NoText
  have t_TooMany_WideError := kit_ref e9_WideError e10_WideError s_TooMany_WideError s_WideError_WideError
  have t_TooMany_NoRow := kit_ref e9_NoRow e10_NoRow s_TooMany_NoRow s_NoRow_NoRow
  have t_TooMany_NoPair := kit_ref e9_NoPair e10_NoPair s_TooMany_NoPair s_NoPair_NoPair
  have t_TooMany_NoName := kit_ref e9_NoName e10_NoName s_TooMany_NoName s_NoName_NoName
  have t_TooMany_NoText := kit_ref e9_NoText e10_NoText s_TooMany_NoText s_NoText_NoText
  have t_TooMany_TooMany := kit_ref e9_TooMany e10_TooMany s_TooMany_TooMany s_TooMany_TooMany
  have t_TooMany_Nothing := kit_ref e9_Nothing e10_Nothing s_TooMany_Nothing s_Nothing_Nothing
  have v_TooMany := kit_ve e11_TooMany
  have t_Nothing_WideError := kit_ref e9_WideError e10_WideError s_Nothing_WideError s_WideError_WideError
  have t_Nothing_NoRow := kit_ref e9_NoRow e10_NoRow s_Nothing_NoRow s_NoRow_NoRow
  have t_Nothing_NoPair := kit_ref e9_NoPair e10_NoPair s_Nothing_NoPair s_NoPair_NoPair
  have t_Nothing_NoName := kit_ref e9_NoName e10_NoName s_Nothing_NoName s_NoName_NoName
  have t_Nothing_NoText := kit_ref e9_NoText e10_NoText s_Nothing_NoText s_NoText_NoText
  have t_Nothing_TooMany := kit_ref e9_TooMany e10_TooMany s_Nothing_TooMany s_TooMany_TooMany
  have t_Nothing_Nothing := kit_ref e9_Nothing e10_Nothing s_Nothing_Nothing s_Nothing_Nothing
  have v_Nothing := kit_ve e11_Nothing
  have m_abs := PySem.W.mg_none_of X G z_abs
  have m_all := PySem.W.mg_none_of X G z_all
  have m_any := PySem.W.mg_none_of X G z_any
  have m_bool := PySem.W.mg_none_of X G z_bool
  have m_enumerate := PySem.W.mg_none_of X G z_enumerate
  have m_int := PySem.W.mg_none_of X G z_int
  have m_isinstance := PySem.W.mg_none_of X G z_isinstance
  have m_len := PySem.W.mg_none_of X G z_len
  have m_list := PySem.W.mg_none_of X G z_list
  have m_max := PySem.W.mg_none_of X G z_max
  have m_range := PySem.W.mg_none_of X G z_range
  have m_set := PySem.W.mg_none_of X G z_set
  have m_sorted := PySem.W.mg_none_of X G z_sorted
  have m_str := PySem.W.mg_none_of X G z_str
  have m_sum := PySem.W.mg_none_of X G z_sum
  have m_tuple := PySem.W.mg_none_of X G z_tuple
  have m_zip := PySem.W.mg_none_of X G z_zip
  intro s a ns base H hlen hbits e0 hS
  have GD := ok_draw (P := l.prog) (w := w) (mg := mg) (base := base) (k := 0) F_law_draw
  have GW := ok_well (P := l.prog) (w := w) (mg := mg) (base := base) (k := 0) F_law_well m_abs
  have GA := ok_whA (P := l.prog) (w := w) (K := K) (mg := mg) (base := base) (k := 0) F_is_whole m_isinstance m_int m_bool
  have GB2 := ok_nb (P := l.prog) (w := w) (mg := mg) (base := base) (k := 0) F_is_number_below GA F_is_whole.kp b_is_whole g_is_whole
  have GF0 := ok_de (P := l.prog) (w := w) (mg := mg) (base := base) (k := 0) F_is_deed GB2 F_is_number_below.kp b_is_number_below g_is_number_below D_PLACES g_PLACES m_isinstance m_tuple m_str m_len m_all
  have GG0 := ok_ad (P := l.prog) (w := w) (mg := mg) (base := base) (k := 0) F_are_deeds GF0 F_is_deed.kp b_is_deed g_is_deed g_MOST_DEEDS m_isinstance m_tuple m_len m_all m_enumerate
  have GIr := ok_ir (P := l.prog) (w := w) (mg := mg) (base := base) (k := 0) F_is_row GA F_is_whole.kp b_is_whole g_is_whole GG0 F_are_deeds.kp b_are_deeds g_are_deeds GB2 F_is_number_below.kp b_is_number_below g_is_number_below g_MOST_INPUTS m_isinstance m_tuple m_len
  have GF := ok_fc (P := l.prog) (w := w) (mg := mg) (base := base) (k := 0) F_first_carry m_tuple
  have GDb := ok_db (P := l.prog) (w := w) (mg := mg) (base := base) (k := 0) F_deed_bit
  have GB := ok_bo (P := l.prog) (w := w) (mg := mg) (base := base) (k := 0) F_bits_of GDb F_deed_bit.kp b_deed_bit g_deed_bit m_list m_tuple m_zip
  have GTm := ok_tm (P := l.prog) (w := w) (mg := mg) (base := base) (k := 0) F_two_or_more
  have GDc := ok_dc (P := l.prog) (w := w) (mg := mg) (base := base) (k := 0) F_deed_carry GTm F_two_or_more.kp b_two_or_more g_two_or_more
  have GCb := ok_cb (P := l.prog) (w := w) (mg := mg) (base := base) (k := 0) F_carry_behind GDc F_deed_carry.kp b_deed_carry g_deed_carry m_tuple m_zip
  have GAl := ok_all (P := l.prog) (w := w) (mg := mg) (base := base) (k := 0) F_all_bits m_range
  have GSt := ok_st (P := l.prog) (w := w) (mg := mg) (base := base) (k := 0) F_steps GAl F_all_bits.kp b_all_bits g_all_bits GB F_bits_of.kp b_bits_of g_bits_of GCb F_carry_behind.kp b_carry_behind g_carry_behind
  have WT : WCls K mg CWalk := ⟨TWalk, na_Walk_met, na_Walk_numbers, na_Walk_ways, gWalk⟩
  have bI := FWalk___init__.binds (ps := ["self", "first"]) fun _ _ _ _ _ _ us hl => by
    obtain ⟨_, _, rfl⟩ := awL2 hl
    rfl
  have bM := FWalk_meet.binds (ps := ["self", "thing", "ahead", "bits"]) fun _ _ _ _ _ _ us hl => by
    obtain ⟨_, _, _, _, rfl⟩ := awL4 hl
    rfl
  have GI := ok_wi (P := l.prog) (w := w) (mg := mg) (base := base) (k := 0) FWalk___init__ WT
  have GM := ok_wm (P := l.prog) (w := w) (mg := mg) (base := base) (k := 0) FWalk_meet WT m_len
  have GWh := ok_wh (P := l.prog) (w := w) (mg := mg) (base := base) (k := 0) F_whole_machine WT GAl F_all_bits.kp b_all_bits g_all_bits GF F_first_carry.kp b_first_carry g_first_carry GSt F_steps.kp b_steps g_steps KWalk GI bI MWalk_meet GM bM m_len m_zip
  have GN := ok_nu (P := l.prog) (w := w) (mg := mg) (base := base) (k := 0) F_numbered m_len
  have GKi := ok_ki (P := l.prog) (w := w) (mg := mg) (base := base) (k := 0) F_kinds_of_states GN F_numbered.kp b_numbered g_numbered m_max m_tuple m_list m_zip
  have GLm := ok_lm (P := l.prog) (w := w) (mg := mg) (base := base) (k := 0) F_least_machine GWh F_whole_machine.kp b_whole_machine g_whole_machine GKi F_kinds_of_states.kp b_kinds_of_states g_kinds_of_states m_len m_zip
  have GLk := ok_lk (P := l.prog) (w := w) (mg := mg) (base := base) (k := 0) F_look_of GLm F_least_machine.kp b_least_machine g_least_machine m_tuple
  have BT : BCls K mg CBook := ⟨TBook, na_Book_kept, na_Book_done, na_Book_looks, gBook⟩
  have bBi := FBook___init__.binds (ps := ["self"]) fun _ _ _ _ _ _ us hl => by
    obtain ⟨_, rfl⟩ := awL1 hl
    rfl
  have bBc := FBook_check_kept.binds (ps := ["self", "name"]) fun _ _ _ _ _ _ us hl => by
    obtain ⟨_, _, rfl⟩ := awL2 hl
    rfl
  have bBt := FBook_tell.binds (ps := ["self", "name", "row"]) fun _ _ _ _ _ _ us hl => by
    obtain ⟨_, _, _, rfl⟩ := awL3 hl
    rfl
  have bBf := FBook_forget.binds (ps := ["self", "name"]) fun _ _ _ _ _ _ us hl => by
    obtain ⟨_, _, rfl⟩ := awL2 hl
    rfl
  have bBb := FBook_back.binds (ps := ["self"]) fun _ _ _ _ _ _ us hl => by
    obtain ⟨_, rfl⟩ := awL1 hl
    rfl
  have bBr := FBook_row.binds (ps := ["self", "name"]) fun _ _ _ _ _ _ us hl => by
    obtain ⟨_, _, rfl⟩ := awL2 hl
    rfl
  have bBn := FBook_names.binds (ps := ["self"]) fun _ _ _ _ _ _ us hl => by
    obtain ⟨_, rfl⟩ := awL1 hl
    rfl
  have bBk := FBook_kinds.binds (ps := ["self"]) fun _ _ _ _ _ _ us hl => by
    obtain ⟨_, rfl⟩ := awL1 hl
    rfl
  have GIn := ok_in (P := l.prog) (w := w) (K := K) (mg := mg) (base := base) (k := 0) F_is_name g_LETTERS g_LONGEST_NAME m_isinstance m_str m_len m_all
  have GCn := ok_cn (P := l.prog) (w := w) (mg := mg) (base := base) (k := 0) F_check_name GIn F_is_name.kp b_is_name g_is_name
  have GBi := ok_bi (P := l.prog) (w := w) (mg := mg) (base := base) (k := 0) FBook___init__ BT
  have GBc := ok_bc (P := l.prog) (w := w) (mg := mg) (base := base) (k := 0) FBook_check_kept BT GCn F_check_name.kp b_check_name g_check_name
  have GBr := ok_br (P := l.prog) (w := w) (mg := mg) (base := base) (k := 0) FBook_row BT MBook_check_kept GBc bBc
  have GBn := ok_bn (P := l.prog) (w := w) (mg := mg) (base := base) (k := 0) FBook_names BT m_sorted
  have GBf := ok_bf (P := l.prog) (w := w) (mg := mg) (base := base) (k := 0) FBook_forget BT MBook_check_kept GBc bBc
  have GBt := ok_btl (P := l.prog) (w := w) (mg := mg) (base := base) (k := 0) FBook_tell BT GCn F_check_name.kp b_check_name g_check_name GIr F_is_row.kp b_is_row g_is_row
  have GBb := ok_bb (P := l.prog) (w := w) (mg := mg) (base := base) (k := 0) FBook_back BT
  have GBk := ok_bk (P := l.prog) (w := w) (mg := mg) (base := base) (k := 0) FBook_kinds BT MBook_names GBn bBn GLk F_look_of.kp b_look_of g_look_of m_sorted
  have rT : Rai K mg "NoText" cNoText := ⟨x_NoText, g_NoText, k_NoText, e3_NoText, e10_NoText⟩
  have GAo := ok_whO (P := l.prog) (w := w) (K := K) (mg := mg) (base := base) (k := 0) F_is_whole m_isinstance m_int m_bool
  have GB2o := ok_nbO (P := l.prog) (w := w) (mg := mg) (base := base) (k := 0) F_is_number_below GAo F_is_whole.kp b_is_whole g_is_whole
  have GF0o := ok_deO (P := l.prog) (w := w) (mg := mg) (base := base) (k := 0) F_is_deed GB2o F_is_number_below.kp b_is_number_below g_is_number_below D_PLACES g_PLACES m_isinstance m_tuple m_str m_len m_all
  have GG0o := ok_adO (P := l.prog) (w := w) (mg := mg) (base := base) (k := 0) F_are_deeds GF0o F_is_deed.kp b_is_deed g_is_deed g_MOST_DEEDS m_isinstance m_tuple m_len m_all m_enumerate
  have GIro := ok_irO (P := l.prog) (w := w) (mg := mg) (base := base) (k := 0) F_is_row GAo F_is_whole.kp b_is_whole g_is_whole GG0o F_are_deeds.kp b_are_deeds g_are_deeds GB2o F_is_number_below.kp b_is_number_below g_is_number_below g_MOST_INPUTS m_isinstance m_tuple m_len
  have GWp := ok_wp (P := l.prog) (w := w) (K := K) (mg := mg) (base := base) (k := 0) F_written_part m_str
  have GSh := ok_show (P := l.prog) (w := w) (mg := mg) (base := base) (k := 0) F_show_row GWp F_written_part.kp b_written_part g_written_part
  have GRn := ok_rn (P := l.prog) (w := w) (K := K) (mg := mg) (base := base) (k := 0) F_read_number g_FIGURES g_MOST_FIGURES m_len m_all m_int
  have GRp := ok_rp (P := l.prog) (w := w) (mg := mg) (base := base) (k := 0) F_read_part GRn F_read_number.kp b_read_number g_read_number m_tuple
  have GRr := ok_rr (P := l.prog) (w := w) (base := base) (k := 0) F_read_row rT GRp F_read_part.kp b_read_part g_read_part GIro F_is_row.kp b_is_row g_is_row m_isinstance m_str m_len m_tuple
  have DT : DkCls K mg CDesk := ⟨TDesk, na_Desk_book, gDesk⟩
  have bDi := FDesk___init__.binds (ps := ["self"]) fun _ _ _ _ _ _ us hl => by
    obtain ⟨_, rfl⟩ := awL1 hl
    rfl
  have bDs := FDesk_say.binds (ps := ["self", "row"]) fun _ _ _ _ _ _ us hl => by
    obtain ⟨_, _, rfl⟩ := awL2 hl
    rfl
  have GIw := ok_iw (P := l.prog) (w := w) (mg := mg) (base := base) (k := 0) F_is_width GRn F_read_number.kp b_read_number g_read_number g_WIDEST
  have GIp := ok_ip (P := l.prog) (w := w) (mg := mg) (base := base) (k := 0) F_is_in_place GIn F_is_name.kp b_is_name g_is_name GIw F_is_width.kp b_is_width g_is_width GRn F_read_number.kp b_read_number g_read_number
  have GFo := ok_fo (P := l.prog) (w := w) (mg := mg) (base := base) (k := 0) F_is_of_form GIp F_is_in_place.kp b_is_in_place g_is_in_place g_SEVERAL S_SEVERAL m_len m_zip m_all
  have GWs := ok_ws (P := l.prog) (w := w) (mg := mg) (base := base) (k := 0) F_words_said GFo F_is_of_form.kp b_is_of_form g_is_of_form D_FORMS g_FORMS m_isinstance m_str
  have GAt := ok_at (P := l.prog) (w := w) (mg := mg) (base := base) (k := 0) F_answer_tell BT MBook_tell GBt bBt GRr F_read_row.kp b_read_row g_read_row
  have GAf := ok_af (P := l.prog) (w := w) (mg := mg) (base := base) (k := 0) F_answer_forget BT MBook_forget GBf bBf
  have GAb := ok_ab (P := l.prog) (w := w) (mg := mg) (base := base) (k := 0) F_answer_back BT MBook_back GBb bBb
  have GAs := ok_as (P := l.prog) (w := w) (mg := mg) (base := base) (k := 0) F_answer_show BT MBook_row GBr bBr GSh F_show_row.kp b_show_row g_show_row
  have GAn := ok_an (P := l.prog) (w := w) (mg := mg) (base := base) (k := 0) F_answer_names BT MBook_names GBn bBn
  have GAk := ok_ak (P := l.prog) (w := w) (mg := mg) (base := base) (k := 0) F_answer_kinds BT MBook_kinds GBk bBk
  have HA : ∀ x ∈ usedL, ∃ f, PySem.W.nsIn K pl_ANSWERS x = some (some (.ref f)) ∧ Held l.prog w K mg base (0 + 9) f (ansSp l.prog w CBook x) := fun x hx => by
    simp only [usedL, List.mem_cons, List.not_mem_nil, or_false] at hx
    rcases hx with rfl | rfl | rfl | rfl | rfl | rfl
    · exact ⟨_, pw_tell_ANSWERS, ⟨_, _, by rw [ans_tell]; exact GAt.mono (by decide), F_answer_tell.kp, b_answer_tell⟩⟩
    · exact ⟨_, pw_forget_ANSWERS, ⟨_, _, by rw [ans_forget]; exact GAf.mono (by decide), F_answer_forget.kp, b_answer_forget⟩⟩
    · exact ⟨_, pw_back_ANSWERS, ⟨_, _, by rw [ans_back]; exact GAb.mono (by decide), F_answer_back.kp, b_answer_back⟩⟩
    · exact ⟨_, pw_show_ANSWERS, ⟨_, _, by rw [ans_show]; exact GAs.mono (by decide), F_answer_show.kp, b_answer_show⟩⟩
    · exact ⟨_, pw_names_ANSWERS, ⟨_, _, by rw [ans_names]; exact GAn.mono (by decide), F_answer_names.kp, b_answer_names⟩⟩
    · exact ⟨_, pw_kinds_ANSWERS, ⟨_, _, by rw [ans_kinds]; exact GAk.mono (by decide), F_answer_kinds.kp, b_answer_kinds⟩⟩
  have GSay := ok_say (P := l.prog) (w := w) (mg := mg) (base := base) (k := 0) FDesk_say DT (GWs.mono (by decide)) F_words_said.kp b_words_said g_words_said D_ANSWERS g_ANSWERS HA
  have GDi := ok_di (P := l.prog) (w := w) (mg := mg) (base := base) (k := 0) FDesk___init__ DT BT KBook GBi bBi
  have GSd := ok_sd (P := l.prog) (w := w) (mg := mg) (base := base) (k := 0) F_law_said DT MDesk_say GSay bDs m_isinstance m_str
  have GTx := ok_ltext (P := l.prog) (w := w) (mg := mg) (base := base) (k := 0) F_law_text m_str
  have GSi := ok_si (P := l.prog) (w := w) (mg := mg) (base := base) (k := 0) F_law_simple GD F_law_draw.kp b_law_draw g_law_draw m_range m_int m_tuple
  have GTl := ok_tl (P := l.prog) (w := w) (mg := mg) (base := base) (k := 0) F_law_two_letters GD F_law_draw.kp b_law_draw g_law_draw m_range m_len
  have GTo := ok_to (P := l.prog) (w := w) (mg := mg) (base := base) (k := 0) F_law_told GSd F_law_said.kp b_law_said g_law_said m_sorted m_int
  have GLg := ok_lg82 (P := l.prog) (w := w) (mg := mg) (base := base) (k := 0) F_law_told_long GD F_law_draw.kp b_law_draw g_law_draw GSi F_law_simple.kp b_law_simple g_law_simple GTx F_law_text.kp b_law_text g_law_text GSd F_law_said.kp b_law_said g_law_said m_range
  exact law_run F_law b_law DT KDesk GDi bDi GW F_law_well.kp b_law_well g_law_well GD F_law_draw.kp b_law_draw g_law_draw GSi F_law_simple.kp b_law_simple g_law_simple GTl F_law_two_letters.kp b_law_two_letters g_law_two_letters GTx F_law_text.kp b_law_text g_law_text GSd F_law_said.kp b_law_said g_law_said GTo F_law_told.kp b_law_told g_law_told GLg F_law_told_long.kp b_law_told_long g_law_told_long m_range hlen hbits e0 hS
end
end KK
open PySem PySem.W PyProof.Rows
set_option maxHeartbeats 0 in
theorem PySem.Challenge.cw_anywide_k82_desk_keeps_many_holds : PySem.Challenge.rw_anywide_k82_desk_keeps_many.Holds := by
  w_on; o_law; k_head; (case hw => w_witness2)
  k_fill
  refine AW.walkG (l := PySem.Challenge.rw_anywide_k82_desk_keeps_many) (n := 63) rfl (by decide) rfl (fun w h Y => PySem.W.kIn_of Y) ?F
  case F =>
    intro w mg fa h KX G hmg
    refine' KK.all_mk KX G hmg ?a0 ?l0 ?c0 ?k0 ?a1 ?l1 ?c1 ?k1 ?a2 ?l2 ?c2 ?k2 ?a3 ?l3 ?c3 ?k3 ?a4 ?l4 ?c4 ?k4 ?a5 ?l5 ?c5 ?k5 ?a6 ?l6 ?c6 ?k6 ?a7 ?l7 ?c7 ?k7 ?a8 ?l8 ?c8 ?k8 ?a9 ?l9 ?c9 ?k9 ?a10 ?l10 ?c10 ?k10 ?a11 ?l11 ?c11 ?k11 ?a12 ?l12 ?c12 ?k12 ?a13 ?l13 ?c13 ?k13 ?a14 ?l14 ?c14 ?k14 ?a15 ?l15 ?c15 ?k15 ?a16 ?l16 ?c16 ?k16 ?a17 ?l17 ?c17 ?k17 ?a18 ?l18 ?c18 ?k18 ?a19 ?l19 ?c19 ?k19 ?a20 ?l20 ?c20 ?k20 ?a21 ?l21 ?c21 ?k21 ?a22 ?l22 ?c22 ?k22 ?a23 ?l23 ?c23 ?k23 ?a24 ?l24 ?c24 ?k24 ?a25 ?l25 ?c25 ?k25 ?a26 ?l26 ?c26 ?k26 ?a27 ?l27 ?c27 ?k27 ?a28 ?l28 ?c28 ?k28 ?a29 ?l29 ?c29 ?k29 ?a30 ?l30 ?c30 ?k30 ?a31 ?l31 ?c31 ?k31 ?a32 ?l32 ?c32 ?k32 ?a33 ?l33 ?c33 ?k33 ?a34 ?l34 ?c34 ?k34 ?a35 ?l35 ?c35 ?k35 ?a36 ?l36 ?c36 ?k36 ?a37 ?l37 ?c37 ?k37 ?a38 ?l38 ?c38 ?k38 ?a39 ?l39 ?c39 ?k39 ?a40 ?l40 ?c40 ?k40 ?a41 ?l41 ?c41 ?k41 ?a42 ?l42 ?c42 ?k42 ?a43 ?l43 ?c43 ?k43 ?a44 ?l44 ?c44 ?k44 ?a45 ?l45 ?c45 ?k45 ?a46 ?l46 ?c46 ?k46 ?a47 ?l47 ?c47 ?k47 ?a48 ?l48 ?c48 ?k48 ?a49 ?l49 ?c49 ?k49 ?a50 ?l50 ?c50 ?k50 ?a51 ?l51 ?c51 ?k51 ?a52 ?l52 ?c52 ?k52 ?a53 ?l53 ?c53 ?k53 ?a54 ?l54 ?c54 ?k54 ?a55 ?l55 ?c55 ?k55 ?a56 ?l56 ?c56 ?k56 ?a57 ?l57 ?c57 ?k57 ?a58 ?l58 ?c58 ?k58 ?a59 ?l59 ?c59 ?k59 ?a60 ?l60 ?c60 ?k60 ?a61 ?l61 ?c61 ?k61 ?a62 ?l62 ?c62 ?k62 ?a63 ?l63 ?c63 ?k63 ?a64 ?l64 ?c64 ?k64 ?a65 ?l65 ?c65 ?k65 ?a66 ?l66 ?c66 ?k66 ?a67 ?l67 ?c67 ?k67 ?a68 ?l68 ?c68 ?k68 ?a69 ?l69 ?c69 ?k69 ?a70 ?l70 ?c70 ?k70 ?a71 ?l71 ?c71 ?k71 ?a72 ?l72 ?c72 ?k72 ?a73 ?l73 ?c73 ?k73 ?a74 ?l74 ?c74 ?k74 ?a75 ?l75 ?c75 ?k75 ?a76 ?l76 ?c76 ?k76 ?a77 ?l77 ?c77 ?k77 ?a78 ?l78 ?c78 ?k78 ?a79 ?l79 ?c79 ?k79 ?oa_Walk ?ma_Walk___init__ ?mi_Walk___init__ ?ml_Walk___init__ ?mc_Walk___init__ ?mk_Walk___init__ ?ma_Walk_meet ?mi_Walk_meet ?ml_Walk_meet ?mc_Walk_meet ?mk_Walk_meet ?pg_Walk ?hd_Walk ?po_Walk ?sa_Walk ?mk_Walk ?kc_Walk ?na_Walk_met ?na_Walk_numbers ?na_Walk_ways ?oa_Book ?ma_Book___init__ ?mi_Book___init__ ?ml_Book___init__ ?mc_Book___init__ ?mk_Book___init__ ?ma_Book_check_kept ?mi_Book_check_kept ?ml_Book_check_kept ?mc_Book_check_kept ?mk_Book_check_kept ?ma_Book_tell ?mi_Book_tell ?ml_Book_tell ?mc_Book_tell ?mk_Book_tell ?ma_Book_forget ?mi_Book_forget ?ml_Book_forget ?mc_Book_forget ?mk_Book_forget ?ma_Book_back ?mi_Book_back ?ml_Book_back ?mc_Book_back ?mk_Book_back ?ma_Book_row ?mi_Book_row ?ml_Book_row ?mc_Book_row ?mk_Book_row ?ma_Book_names ?mi_Book_names ?ml_Book_names ?mc_Book_names ?mk_Book_names ?ma_Book_kinds ?mi_Book_kinds ?ml_Book_kinds ?mc_Book_kinds ?mk_Book_kinds ?pg_Book ?hd_Book ?po_Book ?sa_Book ?mk_Book ?kc_Book ?na_Book_kept ?na_Book_done ?na_Book_looks ?oa_Desk ?ma_Desk___init__ ?mi_Desk___init__ ?ml_Desk___init__ ?mc_Desk___init__ ?mk_Desk___init__ ?ma_Desk_say ?mi_Desk_say ?ml_Desk_say ?mc_Desk_say ?mk_Desk_say ?pg_Desk ?hd_Desk ?po_Desk ?sa_Desk ?mk_Desk ?kc_Desk ?na_Desk_book ?v_LONGEST_NAME ?v_MOST_DEEDS ?v_MOST_INPUTS ?v_MOST_FIGURES ?v_WIDEST ?v_LETTERS ?v_FIGURES ?v_PLACES ?pa_PLACES ?pw0_PLACES ?pw1_PLACES ?pw2_PLACES ?pw3_PLACES ?pw4_PLACES ?pw5_PLACES ?pw6_PLACES ?pw7_PLACES ?pw8_PLACES ?pw9_PLACES ?pw10_PLACES ?pk_PLACES ?pz_PLACES ?pf_PLACES ?v_FORMS ?pa_FORMS ?pw0_FORMS ?pw1_FORMS ?pw2_FORMS ?pw3_FORMS ?pw4_FORMS ?pw5_FORMS ?pw6_FORMS ?pw7_FORMS ?pw8_FORMS ?pw9_FORMS ?pw10_FORMS ?pw11_FORMS ?pw12_FORMS ?pw13_FORMS ?pk_FORMS ?pz_FORMS ?v_ANSWERS ?pa_ANSWERS ?pw_tell_ANSWERS ?pw_forget_ANSWERS ?pw_back_ANSWERS ?pw_show_ANSWERS ?pw_names_ANSWERS ?pw_kinds_ANSWERS ?pk_ANSWERS ?pz_ANSWERS ?v_SEVERAL ?pa_SEVERAL ?pi_SEVERAL ?a_WideError ?x_WideError ?k_WideError ?e1_WideError ?e2_WideError ?e3_WideError ?e4_WideError ?e5_WideError ?e6_WideError ?e7_WideError ?e8_WideError ?e9_WideError ?e10_WideError ?e11_WideError ?a_NoRow ?x_NoRow ?k_NoRow ?e1_NoRow ?e2_NoRow ?e3_NoRow ?e4_NoRow ?e5_NoRow ?e6_NoRow ?e7_NoRow ?e8_NoRow ?e9_NoRow ?e10_NoRow ?e11_NoRow ?a_NoPair ?x_NoPair ?k_NoPair ?e1_NoPair ?e2_NoPair ?e3_NoPair ?e4_NoPair ?e5_NoPair ?e6_NoPair ?e7_NoPair ?e8_NoPair ?e9_NoPair ?e10_NoPair ?e11_NoPair ?a_NoName ?x_NoName ?k_NoName ?e1_NoName ?e2_NoName ?e3_NoName ?e4_NoName ?e5_NoName ?e6_NoName ?e7_NoName ?e8_NoName ?e9_NoName ?e10_NoName ?e11_NoName ?a_NoText ?x_NoText ?k_NoText ?e1_NoText ?e2_NoText ?e3_NoText ?e4_NoText ?e5_NoText ?e6_NoText ?e7_NoText ?e8_NoText ?e9_NoText ?e10_NoText ?e11_NoText ?a_TooMany ?x_TooMany ?k_TooMany ?e1_TooMany ?e2_TooMany ?e3_TooMany ?e4_TooMany ?e5_TooMany ?e6_TooMany ?e7_TooMany ?e8_TooMany ?e9_TooMany ?e10_TooMany ?e11_TooMany ?a_Nothing ?x_Nothing ?k_Nothing ?e1_Nothing ?e2_Nothing ?e3_Nothing ?e4_Nothing ?e5_Nothing ?e6_Nothing ?e7_Nothing ?e8_Nothing ?e9_Nothing ?e10_Nothing ?e11_Nothing ?s_WideError_WideError ?s_WideError_NoRow ?s_WideError_NoPair ?s_WideError_NoName ?s_WideError_NoText ?s_WideError_TooMany ?s_WideError_Nothing ?s_NoRow_WideError ?s_NoRow_NoRow ?s_NoRow_NoPair ?s_NoRow_NoName ?s_NoRow_NoText ?s_NoRow_TooMany ?s_NoRow_Nothing ?s_NoPair_WideError ?s_NoPair_NoRow ?s_NoPair_NoPair ?s_NoPair_NoName ?s_NoPair_NoText ?s_NoPair_TooMany ?s_NoPair_Nothing ?s_NoName_WideError ?s_NoName_NoRow ?s_NoName_NoPair ?s_NoName_NoName ?s_NoName_NoText ?s_NoName_TooMany ?s_NoName_Nothing ?s_NoText_WideError ?s_NoText_NoRow ?s_NoText_NoPair ?s_NoText_NoName ?s_NoText_NoText ?s_NoText_TooMany ?s_NoText_Nothing ?s_TooMany_WideError ?s_TooMany_NoRow ?s_TooMany_NoPair ?s_TooMany_NoName ?s_TooMany_NoText ?s_TooMany_TooMany ?s_TooMany_Nothing ?s_Nothing_WideError ?s_Nothing_NoRow ?s_Nothing_NoPair ?s_Nothing_NoName ?s_Nothing_NoText ?s_Nothing_TooMany ?s_Nothing_Nothing ?z_abs ?z_all ?z_any ?z_bool ?z_enumerate ?z_int ?z_isinstance ?z_len ?z_list ?z_max ?z_range ?z_set ?z_sorted ?z_str ?z_sum ?z_tuple ?z_zip
    (case a0 => k_is)
    (case l0 => k_is)
    (case c0 => k_is)
    (case k0 => k_is)
    (case a1 => k_is)
    (case l1 => k_is)
    (case c1 => k_is)
    (case k1 => k_is)
    (case a2 => k_is)
    (case l2 => k_is)
    (case c2 => k_is)
    (case k2 => k_is)
    (case a3 => k_is)
    (case l3 => k_is)
    (case c3 => k_is)
    (case k3 => k_is)
    (case a4 => k_is)
    (case l4 => k_is)
    (case c4 => k_is)
    (case k4 => k_is)
    (case a5 => k_is)
    (case l5 => k_is)
    (case c5 => k_is)
    (case k5 => k_is)
    (case a6 => k_is)
    (case l6 => k_is)
    (case c6 => k_is)
    (case k6 => k_is)
    (case a7 => k_is)
    (case l7 => k_is)
    (case c7 => k_is)
    (case k7 => k_is)
    (case a8 => k_is)
    (case l8 => k_is)
    (case c8 => k_is)
    (case k8 => k_is)
    (case a9 => k_is)
    (case l9 => k_is)
    (case c9 => k_is)
    (case k9 => k_is)
    (case a10 => k_is)
    (case l10 => k_is)
    (case c10 => k_is)
    (case k10 => k_is)
    (case a11 => k_is)
    (case l11 => k_is)
    (case c11 => k_is)
    (case k11 => k_is)
    (case a12 => k_is)
    (case l12 => k_is)
    (case c12 => k_is)
    (case k12 => k_is)
    (case a13 => k_is)
    (case l13 => k_is)
    (case c13 => k_is)
    (case k13 => k_is)
    (case a14 => k_is)
    (case l14 => k_is)
    (case c14 => k_is)
    (case k14 => k_is)
    (case a15 => k_is)
    (case l15 => k_is)
    (case c15 => k_is)
    (case k15 => k_is)
    (case a16 => k_is)
    (case l16 => k_is)
    (case c16 => k_is)
    (case k16 => k_is)
    (case a17 => k_is)
    (case l17 => k_is)
    (case c17 => k_is)
    (case k17 => k_is)
    (case a18 => k_is)
    (case l18 => k_is)
    (case c18 => k_is)
    (case k18 => k_is)
    (case a19 => k_is)
    (case l19 => k_is)
    (case c19 => k_is)
    (case k19 => k_is)
    (case a20 => k_is)
    (case l20 => k_is)
    (case c20 => k_is)
    (case k20 => k_is)
    (case a21 => k_is)
    (case l21 => k_is)
    (case c21 => k_is)
    (case k21 => k_is)
    (case a22 => k_is)
    (case l22 => k_is)
    (case c22 => k_is)
    (case k22 => k_is)
    (case a23 => k_is)
    (case l23 => k_is)
    (case c23 => k_is)
    (case k23 => k_is)
    (case a24 => k_is)
    (case l24 => k_is)
    (case c24 => k_is)
    (case k24 => k_is)
    (case a25 => k_is)
    (case l25 => k_is)
    (case c25 => k_is)
    (case k25 => k_is)
    (case a26 => k_is)
    (case l26 => k_is)
    (case c26 => k_is)
    (case k26 => k_is)
    (case a27 => k_is)
    (case l27 => k_is)
    (case c27 => k_is)
    (case k27 => k_is)
    (case a28 => k_is)
    (case l28 => k_is)
    (case c28 => k_is)
    (case k28 => k_is)
    (case a29 => k_is)
    (case l29 => k_is)
    (case c29 => k_is)
    (case k29 => k_is)
    (case a30 => k_is)
    (case l30 => k_is)
    (case c30 => k_is)
    (case k30 => k_is)
    (case a31 => k_is)
    (case l31 => k_is)
    (case c31 => k_is)
    (case k31 => k_is)
    (case a32 => k_is)
    (case l32 => k_is)
    (case c32 => k_is)
    (case k32 => k_is)
    (case a33 => k_is)
    (case l33 => k_is)
    (case c33 => k_is)
    (case k33 => k_is)
    (case a34 => k_is)
    (case l34 => k_is)
    (case c34 => k_is)
    (case k34 => k_is)
    (case a35 => k_is)
    (case l35 => k_is)
    (case c35 => k_is)
    (case k35 => k_is)
    (case a36 => k_is)
    (case l36 => k_is)
    (case c36 => k_is)
    (case k36 => k_is)
    (case a37 => k_is)
    (case l37 => k_is)
    (case c37 => k_is)
    (case k37 => k_is)
    (case a38 => k_is)
    (case l38 => k_is)
    (case c38 => k_is)
    (case k38 => k_is)
    (case a39 => k_is)
    (case l39 => k_is)
    (case c39 => k_is)
    (case k39 => k_is)
    (case a40 => k_is)
    (case l40 => k_is)
    (case c40 => k_is)
    (case k40 => k_is)
    (case a41 => k_is)
    (case l41 => k_is)
    (case c41 => k_is)
    (case k41 => k_is)
    (case a42 => k_is)
    (case l42 => k_is)
    (case c42 => k_is)
    (case k42 => k_is)
    (case a43 => k_is)
    (case l43 => k_is)
    (case c43 => k_is)
    (case k43 => k_is)
    (case a44 => k_is)
    (case l44 => k_is)
    (case c44 => k_is)
    (case k44 => k_is)
    (case a45 => k_is)
    (case l45 => k_is)
    (case c45 => k_is)
    (case k45 => k_is)
    (case a46 => k_is)
    (case l46 => k_is)
    (case c46 => k_is)
    (case k46 => k_is)
    (case a47 => k_is)
    (case l47 => k_is)
    (case c47 => k_is)
    (case k47 => k_is)
    (case a48 => k_is)
    (case l48 => k_is)
    (case c48 => k_is)
    (case k48 => k_is)
    (case a49 => k_is)
    (case l49 => k_is)
    (case c49 => k_is)
    (case k49 => k_is)
    (case a50 => k_is)
    (case l50 => k_is)
    (case c50 => k_is)
    (case k50 => k_is)
    (case a51 => k_is)
    (case l51 => k_is)
    (case c51 => k_is)
    (case k51 => k_is)
    (case a52 => k_is)
    (case l52 => k_is)
    (case c52 => k_is)
    (case k52 => k_is)
    (case a53 => k_is)
    (case l53 => k_is)
    (case c53 => k_is)
    (case k53 => k_is)
    (case a54 => k_is)
    (case l54 => k_is)
    (case c54 => k_is)
    (case k54 => k_is)
    (case a55 => k_is)
    (case l55 => k_is)
    (case c55 => k_is)
    (case k55 => k_is)
    (case a56 => k_is)
    (case l56 => k_is)
    (case c56 => k_is)
    (case k56 => k_is)
    (case a57 => k_is)
    (case l57 => k_is)
    (case c57 => k_is)
    (case k57 => k_is)
    (case a58 => k_is)
    (case l58 => k_is)
    (case c58 => k_is)
    (case k58 => k_is)
    (case a59 => k_is)
    (case l59 => k_is)
    (case c59 => k_is)
    (case k59 => k_is)
    (case a60 => k_is)
    (case l60 => k_is)
    (case c60 => k_is)
    (case k60 => k_is)
    (case a61 => k_is)
    (case l61 => k_is)
    (case c61 => k_is)
    (case k61 => k_is)
    (case a62 => k_is)
    (case l62 => k_is)
    (case c62 => k_is)
    (case k62 => k_is)
    (case a63 => k_is)
    (case l63 => k_is)
    (case c63 => k_is)
    (case k63 => k_is)
    (case a64 => k_is)
    (case l64 => k_is)
    (case c64 => k_is)
    (case k64 => k_is)
    (case a65 => k_is)
    (case l65 => k_is)
    (case c65 => k_is)
    (case k65 => k_is)
    (case a66 => k_is)
    (case l66 => k_is)
    (case c66 => k_is)
    (case k66 => k_is)
    (case a67 => k_is)
    (case l67 => k_is)
    (case c67 => k_is)
    (case k67 => k_is)
    (case a68 => k_is)
    (case l68 => k_is)
    (case c68 => k_is)
    (case k68 => k_is)
    (case a69 => k_is)
    (case l69 => k_is)
    (case c69 => k_is)
    (case k69 => k_is)
    (case a70 => k_is)
    (case l70 => k_is)
    (case c70 => k_is)
    (case k70 => k_is)
    (case a71 => k_is)
    (case l71 => k_is)
    (case c71 => k_is)
    (case k71 => k_is)
    (case a72 => k_is)
    (case l72 => k_is)
    (case c72 => k_is)
    (case k72 => k_is)
    (case a73 => k_is)
    (case l73 => k_is)
    (case c73 => k_is)
    (case k73 => k_is)
    (case a74 => k_is)
    (case l74 => k_is)
    (case c74 => k_is)
    (case k74 => k_is)
    (case a75 => k_is)
    (case l75 => k_is)
    (case c75 => k_is)
    (case k75 => k_is)
    (case a76 => k_is)
    (case l76 => k_is)
    (case c76 => k_is)
    (case k76 => k_is)
    (case a77 => k_is)
    (case l77 => k_is)
    (case c77 => k_is)
    (case k77 => k_is)
    (case a78 => k_is)
    (case l78 => k_is)
    (case c78 => k_is)
    (case k78 => k_is)
    (case a79 => k_is)
    (case l79 => k_is)
    (case c79 => k_is)
    (case k79 => k_is)
    (case oa_Walk => k_is)
    (case ma_Walk___init__ => k_is)
    (case mi_Walk___init__ => k_is)
    (case ml_Walk___init__ => k_is)
    (case mc_Walk___init__ => k_is)
    (case mk_Walk___init__ => k_is)
    (case ma_Walk_meet => k_is)
    (case mi_Walk_meet => k_is)
    (case ml_Walk_meet => k_is)
    (case mc_Walk_meet => k_is)
    (case mk_Walk_meet => k_is)
    (case pg_Walk => k_is)
    (case hd_Walk => k_is)
    (case po_Walk => k_is)
    (case sa_Walk => k_is)
    (case mk_Walk => k_is)
    (case kc_Walk => k_is)
    (case na_Walk_met => k_is)
    (case na_Walk_numbers => k_is)
    (case na_Walk_ways => k_is)
    (case oa_Book => k_is)
    (case ma_Book___init__ => k_is)
    (case mi_Book___init__ => k_is)
    (case ml_Book___init__ => k_is)
    (case mc_Book___init__ => k_is)
    (case mk_Book___init__ => k_is)
    (case ma_Book_check_kept => k_is)
    (case mi_Book_check_kept => k_is)
    (case ml_Book_check_kept => k_is)
    (case mc_Book_check_kept => k_is)
    (case mk_Book_check_kept => k_is)
    (case ma_Book_tell => k_is)
    (case mi_Book_tell => k_is)
    (case ml_Book_tell => k_is)
    (case mc_Book_tell => k_is)
    (case mk_Book_tell => k_is)
    (case ma_Book_forget => k_is)
    (case mi_Book_forget => k_is)
    (case ml_Book_forget => k_is)
    (case mc_Book_forget => k_is)
    (case mk_Book_forget => k_is)
    (case ma_Book_back => k_is)
    (case mi_Book_back => k_is)
    (case ml_Book_back => k_is)
    (case mc_Book_back => k_is)
    (case mk_Book_back => k_is)
    (case ma_Book_row => k_is)
    (case mi_Book_row => k_is)
    (case ml_Book_row => k_is)
    (case mc_Book_row => k_is)
    (case mk_Book_row => k_is)
    (case ma_Book_names => k_is)
    (case mi_Book_names => k_is)
    (case ml_Book_names => k_is)
    (case mc_Book_names => k_is)
    (case mk_Book_names => k_is)
    (case ma_Book_kinds => k_is)
    (case mi_Book_kinds => k_is)
    (case ml_Book_kinds => k_is)
    (case mc_Book_kinds => k_is)
    (case mk_Book_kinds => k_is)
    (case pg_Book => k_is)
    (case hd_Book => k_is)
    (case po_Book => k_is)
    (case sa_Book => k_is)
    (case mk_Book => k_is)
    (case kc_Book => k_is)
    (case na_Book_kept => k_is)
    (case na_Book_done => k_is)
    (case na_Book_looks => k_is)
    (case oa_Desk => k_is)
    (case ma_Desk___init__ => k_is)
    (case mi_Desk___init__ => k_is)
    (case ml_Desk___init__ => k_is)
    (case mc_Desk___init__ => k_is)
    (case mk_Desk___init__ => k_is)
    (case ma_Desk_say => k_is)
    (case mi_Desk_say => k_is)
    (case ml_Desk_say => k_is)
    (case mc_Desk_say => k_is)
    (case mk_Desk_say => k_is)
    (case pg_Desk => k_is)
    (case hd_Desk => k_is)
    (case po_Desk => k_is)
    (case sa_Desk => k_is)
    (case mk_Desk => k_is)
    (case kc_Desk => k_is)
    (case na_Desk_book => k_is)
    (case v_LONGEST_NAME => k_is)
    (case v_MOST_DEEDS => k_is)
    (case v_MOST_INPUTS => k_is)
    (case v_MOST_FIGURES => k_is)
    (case v_WIDEST => k_is)
    (case v_LETTERS => k_is)
    (case v_FIGURES => k_is)
    (case v_PLACES => k_is)
    (case pa_PLACES => k_is)
    (case pw0_PLACES => k_is)
    (case pw1_PLACES => k_is)
    (case pw2_PLACES => k_is)
    (case pw3_PLACES => k_is)
    (case pw4_PLACES => k_is)
    (case pw5_PLACES => k_is)
    (case pw6_PLACES => k_is)
    (case pw7_PLACES => k_is)
    (case pw8_PLACES => k_is)
    (case pw9_PLACES => k_is)
    (case pw10_PLACES => k_is)
    (case pk_PLACES => exact ⟨⟨_, _, rfl, rfl⟩, ⟨⟨_, _, rfl, rfl⟩, ⟨⟨_, _, rfl, rfl⟩, ⟨⟨_, _, rfl, rfl⟩, ⟨⟨_, _, rfl, rfl⟩, ⟨⟨_, _, rfl, rfl⟩, ⟨⟨_, _, rfl, rfl⟩, ⟨⟨_, _, rfl, rfl⟩, ⟨⟨_, _, rfl, rfl⟩, ⟨⟨_, _, rfl, rfl⟩, ⟨⟨_, _, rfl, rfl⟩, trivial⟩⟩⟩⟩⟩⟩⟩⟩⟩⟩⟩)
    (case pz_PLACES => rfl)
    (case pf_PLACES => exact ⟨⟨("none", 0), by decide +kernel, _, rfl⟩, ⟨⟨("one", 0), by decide +kernel, _, rfl⟩, ⟨⟨("all", 0), by decide +kernel, _, rfl⟩, ⟨⟨("not", 1), by decide +kernel, _, rfl⟩, ⟨⟨("neg", 1), by decide +kernel, _, rfl⟩, ⟨⟨("twice", 1), by decide +kernel, _, rfl⟩, ⟨⟨("and", 2), by decide +kernel, _, rfl⟩, ⟨⟨("or", 2), by decide +kernel, _, rfl⟩, ⟨⟨("xor", 2), by decide +kernel, _, rfl⟩, ⟨⟨("add", 2), by decide +kernel, _, rfl⟩, ⟨⟨("sub", 2), by decide +kernel, _, rfl⟩, trivial⟩⟩⟩⟩⟩⟩⟩⟩⟩⟩⟩)
    (case v_FORMS => k_is)
    (case pa_FORMS => k_is)
    (case pw0_FORMS => k_is)
    (case pw1_FORMS => k_is)
    (case pw2_FORMS => k_is)
    (case pw3_FORMS => k_is)
    (case pw4_FORMS => k_is)
    (case pw5_FORMS => k_is)
    (case pw6_FORMS => k_is)
    (case pw7_FORMS => k_is)
    (case pw8_FORMS => k_is)
    (case pw9_FORMS => k_is)
    (case pw10_FORMS => k_is)
    (case pw11_FORMS => k_is)
    (case pw12_FORMS => k_is)
    (case pw13_FORMS => k_is)
    (case pk_FORMS => exact ⟨⟨_, _, rfl, rfl⟩, ⟨⟨_, _, rfl, rfl⟩, ⟨⟨_, _, rfl, rfl⟩, ⟨⟨_, _, rfl, rfl⟩, ⟨⟨_, _, rfl, rfl⟩, ⟨⟨_, _, rfl, rfl⟩, ⟨⟨_, _, rfl, rfl⟩, ⟨⟨_, _, rfl, rfl⟩, ⟨⟨_, _, rfl, rfl⟩, ⟨⟨_, _, rfl, rfl⟩, ⟨⟨_, _, rfl, rfl⟩, ⟨⟨_, _, rfl, rfl⟩, ⟨⟨_, _, rfl, rfl⟩, ⟨⟨_, _, rfl, rfl⟩, trivial⟩⟩⟩⟩⟩⟩⟩⟩⟩⟩⟩⟩⟩⟩)
    (case pz_FORMS => rfl)
    (case v_ANSWERS => k_is)
    (case pa_ANSWERS => k_is)
    (case pw_tell_ANSWERS => k_is)
    (case pw_forget_ANSWERS => k_is)
    (case pw_back_ANSWERS => k_is)
    (case pw_show_ANSWERS => k_is)
    (case pw_names_ANSWERS => k_is)
    (case pw_kinds_ANSWERS => k_is)
    (case pk_ANSWERS => exact ⟨⟨_, _, rfl, rfl⟩, ⟨⟨_, _, rfl, rfl⟩, ⟨⟨_, _, rfl, rfl⟩, ⟨⟨_, _, rfl, rfl⟩, ⟨⟨_, _, rfl, rfl⟩, ⟨⟨_, _, rfl, rfl⟩, ⟨⟨_, _, rfl, rfl⟩, ⟨⟨_, _, rfl, rfl⟩, ⟨⟨_, _, rfl, rfl⟩, ⟨⟨_, _, rfl, rfl⟩, ⟨⟨_, _, rfl, rfl⟩, ⟨⟨_, _, rfl, rfl⟩, ⟨⟨_, _, rfl, rfl⟩, ⟨⟨_, _, rfl, rfl⟩, trivial⟩⟩⟩⟩⟩⟩⟩⟩⟩⟩⟩⟩⟩⟩)
    (case pz_ANSWERS => rfl)
    (case v_SEVERAL => k_is)
    (case pa_SEVERAL => k_is)
    (case pi_SEVERAL => rfl)
    (case a_WideError => k_is)
    (case x_WideError => k_exc)
    (case k_WideError => k_is)
    (case e1_WideError => k_is)
    (case e2_WideError => k_is)
    (case e3_WideError => k_is)
    (case e4_WideError => k_is)
    (case e5_WideError => k_is)
    (case e6_WideError => k_is)
    (case e7_WideError => k_is)
    (case e8_WideError => k_is)
    (case e9_WideError => k_is)
    (case e10_WideError => k_is)
    (case e11_WideError => k_is)
    (case a_NoRow => k_is)
    (case x_NoRow => k_exc)
    (case k_NoRow => k_is)
    (case e1_NoRow => k_is)
    (case e2_NoRow => k_is)
    (case e3_NoRow => k_is)
    (case e4_NoRow => k_is)
    (case e5_NoRow => k_is)
    (case e6_NoRow => k_is)
    (case e7_NoRow => k_is)
    (case e8_NoRow => k_is)
    (case e9_NoRow => k_is)
    (case e10_NoRow => k_is)
    (case e11_NoRow => k_is)
    (case a_NoPair => k_is)
    (case x_NoPair => k_exc)
    (case k_NoPair => k_is)
    (case e1_NoPair => k_is)
    (case e2_NoPair => k_is)
    (case e3_NoPair => k_is)
    (case e4_NoPair => k_is)
    (case e5_NoPair => k_is)
    (case e6_NoPair => k_is)
    (case e7_NoPair => k_is)
    (case e8_NoPair => k_is)
    (case e9_NoPair => k_is)
    (case e10_NoPair => k_is)
    (case e11_NoPair => k_is)
    (case a_NoName => k_is)
    (case x_NoName => k_exc)
    (case k_NoName => k_is)
    (case e1_NoName => k_is)
    (case e2_NoName => k_is)
    (case e3_NoName => k_is)
    (case e4_NoName => k_is)
    (case e5_NoName => k_is)
    (case e6_NoName => k_is)
    (case e7_NoName => k_is)
    (case e8_NoName => k_is)
    (case e9_NoName => k_is)
    (case e10_NoName => k_is)
    (case e11_NoName => k_is)
    (case a_NoText => k_is)
    (case x_NoText => k_exc)
    (case k_NoText => k_is)
    (case e1_NoText => k_is)
    (case e2_NoText => k_is)
    (case e3_NoText => k_is)
    (case e4_NoText => k_is)
    (case e5_NoText => k_is)
    (case e6_NoText => k_is)
    (case e7_NoText => k_is)
    (case e8_NoText => k_is)
    (case e9_NoText => k_is)
    (case e10_NoText => k_is)
    (case e11_NoText => k_is)
    (case a_TooMany => k_is)
    (case x_TooMany => k_exc)
    (case k_TooMany => k_is)
    (case e1_TooMany => k_is)
    (case e2_TooMany => k_is)
    (case e3_TooMany => k_is)
    (case e4_TooMany => k_is)
    (case e5_TooMany => k_is)
    (case e6_TooMany => k_is)
    (case e7_TooMany => k_is)
    (case e8_TooMany => k_is)
    (case e9_TooMany => k_is)
    (case e10_TooMany => k_is)
    (case e11_TooMany => k_is)
    (case a_Nothing => k_is)
    (case x_Nothing => k_exc)
    (case k_Nothing => k_is)
    (case e1_Nothing => k_is)
    (case e2_Nothing => k_is)
    (case e3_Nothing => k_is)
    (case e4_Nothing => k_is)
    (case e5_Nothing => k_is)
    (case e6_Nothing => k_is)
    (case e7_Nothing => k_is)
    (case e8_Nothing => k_is)
    (case e9_Nothing => k_is)
    (case e10_Nothing => k_is)
    (case e11_Nothing => k_is)
    (case s_WideError_WideError => k_is)
    (case s_WideError_NoRow => k_is)
    (case s_WideError_NoPair => k_is)
    (case s_WideError_NoName => k_is)
    (case s_WideError_NoText => k_is)
    (case s_WideError_TooMany => k_is)
    (case s_WideError_Nothing => k_is)
    (case s_NoRow_WideError => k_is)
    (case s_NoRow_NoRow => k_is)
    (case s_NoRow_NoPair => k_is)
    (case s_NoRow_NoName => k_is)
    (case s_NoRow_NoText => k_is)
    (case s_NoRow_TooMany => k_is)
    (case s_NoRow_Nothing => k_is)
    (case s_NoPair_WideError => k_is)
    (case s_NoPair_NoRow => k_is)
    (case s_NoPair_NoPair => k_is)
    (case s_NoPair_NoName => k_is)
    (case s_NoPair_NoText => k_is)
    (case s_NoPair_TooMany => k_is)
    (case s_NoPair_Nothing => k_is)
    (case s_NoName_WideError => k_is)
    (case s_NoName_NoRow => k_is)
    (case s_NoName_NoPair => k_is)
    (case s_NoName_NoName => k_is)
    (case s_NoName_NoText => k_is)
    (case s_NoName_TooMany => k_is)
    (case s_NoName_Nothing => k_is)
    (case s_NoText_WideError => k_is)
    (case s_NoText_NoRow => k_is)
    (case s_NoText_NoPair => k_is)
    (case s_NoText_NoName => k_is)
    (case s_NoText_NoText => k_is)
    (case s_NoText_TooMany => k_is)
    (case s_NoText_Nothing => k_is)
    (case s_TooMany_WideError => k_is)
    (case s_TooMany_NoRow => k_is)
    (case s_TooMany_NoPair => k_is)
    (case s_TooMany_NoName => k_is)
    (case s_TooMany_NoText => k_is)
    (case s_TooMany_TooMany => k_is)
    (case s_TooMany_Nothing => k_is)
    (case s_Nothing_WideError => k_is)
    (case s_Nothing_NoRow => k_is)
    (case s_Nothing_NoPair => k_is)
    (case s_Nothing_NoName => k_is)
    (case s_Nothing_NoText => k_is)
    (case s_Nothing_TooMany => k_is)
    (case s_Nothing_Nothing => k_is)
    (case z_abs => k_is)
    (case z_all => k_is)
    (case z_any => k_is)
    (case z_bool => k_is)
    (case z_enumerate => k_is)
    (case z_int => k_is)
    (case z_isinstance => k_is)
    (case z_len => k_is)
    (case z_list => k_is)
    (case z_max => k_is)
    (case z_range => k_is)
    (case z_set => k_is)
    (case z_sorted => k_is)
    (case z_str => k_is)
    (case z_sum => k_is)
    (case z_tuple => k_is)
    (case z_zip => k_is)
