import PyProof.Rows.All
import Wide.All
import OpenK.AllK
import Wide.FinOn
import PyProof.EqAt
import PyProof.EqKinds
import PyProof.TupleCall
import PyProof.ReprRoads
import PyProof.InstNe
import HandS.ForMost
import HandS.ForExc
import HandS.EndTab
import HandS.HeadHook4
import HandS.HeadWalk
import HandS.Head0
import HandS.Head1
import HandS.Head2
import HandS.ExcIs
import HandS.HotCalls
import HandS.IsInst
import HandS.Zip
import HandS.Walk
import HandS.TupAny
import HandS.Conv
import HandS.Deep
import HandS.OwnEq
import HandS.SetFor
import HandS.Defaults
import HandS.RaiseMore
import HandS.CallSlots
import KE.GoesMore
import HandS.FStr
import HandS.Style
import HandS.Strs
import PySem.Challenge.RW_bestsbook_k05_ages_on_days
set_option Elab.async false
set_option linter.all false
set_option maxRecDepth 100000
set_option maxHeartbeats 2000000
namespace Bb
open PySem PySem.Spec PyProof.Rows L2

/-! repr of data that holds no dict -/
mutual
theorem dp_nodict {K : PySem.W.Frag} {H : Hp} : ∀ (d : PyData) (v : V), Dp K H v d → d.hasDict = false
  | .none, _, _ => rfl
  | .bool _, _, _ => rfl
  | .int _, _, _ => rfl
  | .str _, _, _ => rfl
  | .list ds, _, h => by
    cases h with
    | lst _ ha => exact dpall_nodict ds _ ha
  | .tuple ds, _, h => by
    cases h with
    | tup _ ha => exact dpall_nodict ds _ ha
  | .dict _, _, h => by cases h
theorem dpall_nodict {K : PySem.W.Frag} {H : Hp} : ∀ (ds : List PyData) (vs : List V), DpAll K H vs ds → PyData.hasDictAll ds = false
  | [], _, _ => rfl
  | d :: ds, _, h => by
    cases h with
    | cons h1 h2 =>
      show (PyData.hasDict d || PyData.hasDictAll ds) = false
      rw [dp_nodict d _ h1, dpall_nodict ds _ h2]
      rfl
end
def rRepr (K : PySem.W.Frag) : List V → Hp → VK → Prop := fun xs H Q => ∃ (x : V) (d : PyData), xs = [x] ∧ Dp K H x d ∧ d.showable = true ∧ d.depth ≤ 60 ∧ d.shown.length ≤ sizeLine ∧ Q (.str d.shown) H
theorem call_repr {X : Cx} (hg : X.A.guards = some []) (hu : X.A.units + 64 < cLine) : CallR X (.builtin "repr") (rRepr X.K) := by
  intro pins s σ H xs us Q I r h
  obtain ⟨x, d, rfl, hd, hs, hde, hz, q⟩ := h
  obtain ⟨u, rfl, ru⟩ := vals1 r
  have nd := dp_nodict d x hd
  obtain ⟨as, rd⟩ := Dp.reads I d x u hd ru
  cases hd with
  | non =>
    cases ru
    exact PySem.P.repr_of_none ⟨.str _, H, I.tok _, ⟨_, rfl⟩, q⟩
  | bl b =>
    cases ru
    exact PySem.P.repr_of_bool ⟨.str _, H, I.tok _, ⟨_, rfl⟩, q⟩
  | int i =>
    obtain ⟨t, rfl⟩ := ru
    exact PySem.P.repr_of_int (of_decide_eq_true hs) ⟨.str _, H, I.tok _, ⟨_, rfl⟩, q⟩
  | str z =>
    obtain ⟨t, rfl⟩ := ru
    exact PySem.P.repr_of_str ⟨.str _, H, I.tok _, ⟨_, rfl⟩, q⟩ hz
  | lst h1 h2 =>
    cases ru
    exact repr_of_reads' rd hs (fun z => by rw [nd] at z; cases z) hg (by omega) (fun _ _ e => e) (fun h' u' tk k => ⟨.str _, H, I.kept k, ⟨_, rfl⟩, q⟩) hz
  | tup h1 h2 =>
    cases ru
    exact repr_of_reads' rd hs (fun z => by rw [nd] at z; cases z) hg (by omega) (fun _ _ e => e) (fun h' u' tk k => ⟨.str _, H, I.kept k, ⟨_, rfl⟩, q⟩) hz
end Bb
set_option Elab.async false
set_option linter.all false
set_option maxRecDepth 100000
set_option maxHeartbeats 2000000
namespace Bb
open PySem PySem.Spec PyProof.Rows L2

/-! a def that is run where no repr is under way -/
structure FnG (P : Program) (w : World) (K : PySem.W.Frag) (mg : Str → Option Value) (base : Heap) (CX : CXT) (k : Nat) (f : Addr) (fd : FuncData) (ps : List Str) (sp : Sp) : Prop where
  args : ∀ vs H Q E, sp vs H Q E → vs.length = ps.length
  go : ∀ (A : Around) (outer : List Env) (s : Shared) (H : Hp) (ar : Args) (us : List Value) (vs : List V) (Q : VK) (E : XK), A.guards = some [] → Room k A → Env0 P w K mg base A outer s H → BindsTo s fd ar (ps.zip us) → Vals vs us → sp vs H Q E →
    codeAny (model P w) A (.call (.ref f) ar) (CR CX outer P w H s Q E) s

section
variable {P : Program} {w : World} {K : PySem.W.Frag} {mg : Str → Option Value} {base : Heap} {x qual : Str} {params : Arguments} {body : List Stmt} {scope : Scope} {dvs : List V} {kws : List (Str × V)} {f : Addr} {fd : FuncData}
theorem fnG {CX : CXT} {N ps : List Str} {k : Nat} {sp : Sp} (F : FunD K x qual params body scope dvs kws f fd) (S : FnScope N ps scope) (len : ∀ vs H Q E, sp vs H Q E → vs.length = ps.length)
    (bd : ∀ (cdv : Value) (A : Around) (outer : List Env) (s : Shared) (H : Hp) (vs : List V) (Q : VK) (E : XK), A.guards = some [] → Room k (A.deeper (envOfC qual scope s.heap.objs.size f cdv)) →
      (∀ c, fd.code = .ref c → cdv = .ref c) → sp vs H Q E →
      ∃ t, PSs (cxOf CX P w K mg base N qual scope f cdv A outer s H E) body t ∧ t { nx := fun _ H' => Q .non H', rt := Q } (start N vs) H) : FnG P w K mg base CX (k + 1) f fd ps sp := by
  obtain ⟨oc, od, dV, kV, doc, pm, an, cdv, ct, osl, rfl, lk, hcd, _, _⟩ := F.ex
  refine ⟨len, fun A outer s H ar us vs Q E gd room env bnd vals h => ?_⟩
  exact LamX.run_ofS (N := N) lk hcd S room env bnd vals (len _ _ _ _ h) fun room' => bd cdv A outer s H vs Q E gd room' (fun c e => e) h
end

section
variable {X : Cx} {CX : CXT} {k : Nat} {f : Addr} {fd : FuncData} {ps : List Str} {sp : Sp} {E : XK} {x : Str} {p pos : Pos} {e : Expr} {es : List Expr} {t : TA}
/-- such a def called by its name, all parameters given -/
theorem pe_callG (F : FnG X.prog X.w X.K X.mg X.base CX k f fd ps sp) (gd : X.A.guards = some []) (hr : Room k X.A) (hg : Gl X x) (hm : X.mg x = some (.ref f)) (hk : PySem.W.keepIn X.K (.ref f) = true) (hb : Binds X.K fd ps []) (hx : Passes CX X E)
    (ha : PA X (e :: es) t) (hdb : (x == ("__debug__" : Str)) = false := by decide) (he : starEach (e :: es) X.env = (false, eval e X.env) :: starEach es X.env := by rfl) (hpl : (backTo pos (starEach es X.env)).any (·.1) = false := by rfl) :
    PE X (.Call (.Name x p) (e :: es) [] pos) (tCall sp [] E t) := by
  constructor
  intro pins s σ H Q I h
  refine wpAny_Call_Name_kw (ld_glob I hg hm ?_ hdb)
  refine PySem.W.callWith_K (h₀ := X.base) I.ok.mod.kin hk ?_ he hpl
  refine thn (ha.run pos pins s σ H _ I h) ?_
  rintro us s1 ⟨vs, H1, I1, r, q⟩
  refine ⟨I1.kIn, ?_⟩
  have q' : sp vs H1 Q E := by
    have z : sp (vs ++ []) H1 Q E := q
    rw [List.append_nil] at z
    exact z
  have hl : us.length = ps.length := by
    rw [← r.length]
    exact F.args _ _ _ _ q'
  have bnd := hb s1 us I1.kIn (by rw [List.append_nil]; exact hl)
  rw [List.append_nil] at bnd
  refine wpAny_call (codeAny_mono (F.go X.A X.stack s1 H1 ⟨us, []⟩ us vs Q E gd hr I1.env0 bnd r q') ?_)
  rintro (er | fl) s' hq
  · exact hx pins σ H1 s1 er s' I1 hq
  · cases fl with
    | ret u => exact I1.after hq
    | next => exact hq.elim
    | brk => exact hq.elim
    | cont => exact hq.elim
end

/-! the end of a law row: the script is read, the tables are written, no repr is under way -/
section
variable {P : Program} {w : World} {K : PySem.W.Frag} {mg mb : Str → Option Value} {a : Addr} {cs : List (Addr × Addr)} {s₁ : Shared} {vs : List Value} {ns : List Int}
abbrev scO (vs : List Value) : Obj := { cls := .type "list", data := .seq vs.toArray }
abbrev emptyO : Obj := { cls := .none, data := .fields #[] }
/-- what is tracked at the start -/
def h0 (K : PySem.W.Frag) (T : List Addr) (a : Addr) (vs : List Value) (ns : List Int) : Hp := fun b =>
  if b ∈ T then some (.tbl #[]) else if b = a ∧ (K.lookup a).isNone = true then some (.frz (scO vs) (.lst (ns.map V.int))) else none
theorem h0_cases (K : PySem.W.Frag) (T : List Addr) (a : Addr) (vs : List Value) (ns : List Int) (b : Addr) :
    (h0 K T a vs ns b = none) ∨ (b ∈ T ∧ h0 K T a vs ns b = some (.tbl #[])) ∨ (b = a ∧ K.lookup a = none ∧ h0 K T a vs ns b = some (.frz (scO vs) (.lst (ns.map V.int)))) := by
  unfold h0
  by_cases h1 : b ∈ T
  · rw [if_pos h1]
    exact .inr (.inl ⟨h1, rfl⟩)
  · rw [if_neg h1]
    by_cases h2 : b = a ∧ (K.lookup a).isNone = true
    · rw [if_pos h2]
      exact .inr (.inr ⟨h2.1, Option.isNone_iff_eq_none.mp h2.2, rfl⟩)
    · rw [if_neg h2]
      exact .inl rfl
theorem law_callG {CX : CXT} {k : Nat} {fa : Addr} {fd : FuncData} {x : Str} {sp : Sp}
    (KX : K.In s₁.heap) (hns : s₁.heap.Ns mainGlobals mg) (hb : s₁.heap.Ns builtinsNs mb) (hbb : ∀ x : Str, x ≠ "__name__" → mb x = bootBuiltins x) (hlim : s₁.heap.NoLimit) (hg : s₁.gens = #[])
    (hT : ∀ p ∈ cs, s₁.heap.get? p.2 = some emptyO) (nT : ∀ p ∈ cs, K.lookup p.2 = none) (C : ∀ p ∈ cs, PySem.W.CodeHd s₁.heap p.1 p.2)
    (hbm : ∃ (bm : Addr) (ob : Obj), mg "__builtins__" = some (.ref bm) ∧ bm ≠ builtinsNs ∧ s₁.heap.get? bm = some ob ∧ ob.cls = .type "module" ∧ ob.dict = some builtinsNs ∧ ob.data = .plain)
    (ha : s₁.heap.get? a = some (scO vs)) (hi : IntsAre vs ns) (hl : ns.length ≤ sizeLine) (hr : Room k callerA)
    (F : ∀ base : Heap, K.In base → base.Ns mainGlobals mg → (∀ p ∈ cs, LamX.TabB base mg p.1 p.2) → FnG P w K mg base CX k fa fd [x] sp) (hbind : ∀ (s : Shared) (u : Value), BindsTo s fd ⟨[u], []⟩ [(x, u)])
    (hsp : ∀ H : Hp, (∀ p ∈ cs, H p.2 = some (.tbl #[])) → SqL K H a (ns.map V.int) → sp [.ref a] H (fun v _ => v = .bl true) fun _ _ _ => False)
    (hCX : ∀ H e s', CX [] H s₁ (fun _ _ _ => False) e s' → False) :
    codeAny (model P w) callerA (.call (.ref fa) ⟨[.ref a], []⟩) (fun r s' => r = .ok (.ret (.bool true)) ∧ OldK s₁.heap s'.heap ∧ s'.os = s₁.os ∧ AllBare s'.gens) s₁ := by
  have tbl : ∀ b ∈ cs.map (·.2), s₁.heap.get? b = some emptyO := by
    intro b hm
    obtain ⟨p, hp, rfl⟩ := List.mem_map.mp hm
    exact hT p hp
  have aT : a ∉ cs.map (·.2) := by
    intro hm
    have z := (tbl a hm).symm.trans ha
    injection z with z
    injection z with z1 z2 z3 z4
    cases z1
  let H : Hp := h0 K (cs.map (·.2)) a vs ns
  have hc : ∀ b, H b = none ∨ (b ∈ cs.map (·.2) ∧ H b = some (.tbl #[])) ∨ (b = a ∧ K.lookup a = none ∧ H b = some (.frz (scO vs) (.lst (ns.map V.int)))) := fun b => h0_cases K _ a vs ns b
  have hH : ∀ p ∈ cs, H p.2 = some (.tbl #[]) := fun p hp => by
    show h0 K _ a vs ns p.2 = _
    unfold h0
    rw [if_pos (List.mem_map.mpr ⟨p, hp, rfl⟩)]
  have lenV : vs.length = ns.length := hi.length
  have rv := vals_ints hi
  have sq : SqL K H a (ns.map V.int) := by
    cases hk : K.lookup a with
    | some o =>
      have e := (KX a o hk).symm.trans ha
      injection e with e
      subst e
      exact .inr ⟨_, vs.toArray, _, hk, rfl, rfl, rfl, by rw [List.size_toArray, lenV]; exact hl, by simpa using rv⟩
    | none =>
      refine .inl (.inr ⟨scO vs, ?_⟩)
      show h0 K _ a vs ns a = _
      unfold h0
      rw [if_neg aT, if_pos ⟨rfl, by rw [hk]; rfl⟩]
  have hok : HOk P w H s₁.heap := by
    intro b u e
    rcases hc b with z | ⟨m, z⟩ | ⟨rfl, _, z⟩
    · rw [z] at e
      cases e
    · rw [z] at e
      cases e
      exact tbl b m
    · rw [z] at e
      cases e
      exact ⟨ha, by rw [List.length_map]; exact hl, vs, _, rv, ha⟩
  -- what is no list and no empty table is not tracked
  have other : ∀ {b : Addr} {o : Obj}, s₁.heap.get? b = some o → o.data ≠ Data.seq vs.toArray 0 → o.data ≠ Data.fields #[] → H b = none := by
    intro b o e n1 n2
    rcases hc b with z | ⟨m, _⟩ | ⟨rfl, _, _⟩
    · exact z
    · have q := (tbl b m).symm.trans e
      injection q with q
      subst q
      exact absurd rfl n2
    · have q := ha.symm.trans e
      injection q with q
      subst q
      exact absurd rfl n1
  have down : ∀ {b : Addr} {o : Obj}, s₁.heap.get? b = some o → o.data ≠ Data.seq vs.toArray 0 → o.data ≠ Data.fields #[] → (hidT s₁.heap H).get? b = some o := fun e n1 n2 => hidT_get e (other e n1 n2)
  have nsD : ∀ {b : Addr} {m : Str → Option Value}, s₁.heap.Ns b m → (hidT s₁.heap H).Ns b m := by
    rintro b m ⟨o, es, ep, e, d, r⟩
    refine ⟨o, es, ep, down e ?_ ?_, d, r⟩
    · rw [d]
      intro q
      cases q
    · rw [d]
      intro q
      cases q
  have kin : K.In (hidT s₁.heap H) := by
    intro b o e
    refine hidT_get (KX b o e) ?_
    rcases hc b with z | ⟨m, _⟩ | ⟨rfl, n, _⟩
    · exact z
    · obtain ⟨p, hp, rfl⟩ := List.mem_map.mp m
      rw [nT p hp] at e
      cases e
    · rw [n] at e
      cases e
  have md : L2.Mod K mg (hidT s₁.heap H) := ⟨kin, nsD hns, ⟨mb, nsD hb, hbb⟩, by
    obtain ⟨mc, e1, e2⟩ := hlim
    exact ⟨mc, nsD e1, e2⟩⟩
  have tabs : ∀ p ∈ cs, LamX.TabB (hidT s₁.heap H) mg p.1 p.2 := by
    intro p hp
    constructor
    · obtain ⟨o, us, file, tf, flags, tg, inF, text, tt, g1, g2, g3, g4, g5⟩ := C p hp
      refine ⟨o, us, file, tf, flags, tg, inF, text, tt, down g1 ?_ ?_, g2, g3, g4, g5⟩
      · rw [g3]
        intro q
        cases q
      · rw [g3]
        intro q
        injection q with q
        rw [q] at g4
        simp at g4
    · obtain ⟨bm, ob, b1, b2, b3, b4, b5, b6⟩ := hbm
      refine ⟨bm, ob, b1, b2, ?_, ?_, down b3 ?_ ?_, b4, b5, b6⟩
      · intro q
        obtain ⟨o, es, ep, e, d, _⟩ := hns
        rw [q, e] at b3
        injection b3 with b3
        rw [← b3, d] at b6
        cases b6
      · intro q
        rw [q, hT p hp] at b3
        injection b3 with b3
        rw [← b3] at b6
        cases b6
      · rw [b6]
        intro q
        cases q
      · rw [b6]
        intro q
        cases q
    · intro z
      obtain ⟨o, es, ep, e, d, _⟩ := hns
      rw [z, hT p hp] at e
      injection e with e
      rw [← e] at d
      cases d
  have env : Env0 P w K mg (hidT s₁.heap H) callerA [] s₁ H :=
    { frames := rfl, mod := md, bs := fun b o e => of_hidT e, bsz := Nat.le_of_eq (hidT_size _ _), funs := True.intro, frf := (fun b z => by cases z), hok := hok, bare := .of_eq hg }
  refine codeAny_mono ((F _ kin (nsD hns) tabs).go callerA [] s₁ H ⟨[.ref a], []⟩ [.ref a] [.ref a] _ _ rfl hr env (hbind s₁ (.ref a)) (.cons rfl .nil) (hsp H hH sq)) ?_
  rintro (er | fl) s' h
  · exact (hCX H er s' h).elim
  · cases fl with
    | next => exact h.elim
    | brk => exact h.elim
    | cont => exact h.elim
    | ret u =>
      obtain ⟨v, H', os, bare, un, hok', r', q⟩ := h
      have q' : v = .bl true := q
      subst q'
      obtain rfl : u = Value.bool true := r'
      have same : ∀ b o, b ∉ cs.map (·.2) → s₁.heap.get? b = some o → s'.heap.get? b = some o := by
        intro b o nb e
        rcases hc b with z | ⟨m, _⟩ | ⟨rfl, _, z⟩
        · exact un.keep b o e z (by simp [frs]) (by simp)
        · exact absurd m nb
        · have z2 := un.frzs _ _ _ z
          obtain ⟨e2, _⟩ := hok' _ _ z2
          rw [ha] at e
          rw [← e]
          exact e2
      have grown : ∀ p ∈ cs, ∃ more : Array Value, s'.heap.get? p.2 = some { cls := .none, data := .fields more } := by
        intro p hp
        obtain ⟨more, z⟩ := un.tbls p.2 #[] (hH p hp)
        exact ⟨_, hok' p.2 _ z⟩
      refine ⟨rfl, ⟨fun b o e => ?_, fun b o e => ?_⟩, os, bare⟩
      · by_cases m : b ∈ cs.map (·.2)
        · obtain ⟨p, hp, rfl⟩ := List.mem_map.mp m
          obtain ⟨more, hm⟩ := grown p hp
          have e' := (hT p hp).symm.trans e
          injection e' with e'
          subst e'
          refine .inr (.inl ⟨((C p hp).tab (hT p hp)).isCodeTable, rfl, #[], more, rfl, ?_⟩)
          rw [Array.empty_append]
          exact hm
        · exact .inl (same b o m e)
      · by_cases m : b ∈ cs.map (·.2)
        · obtain ⟨p, hp, rfl⟩ := List.mem_map.mp m
          obtain ⟨more, hm⟩ := grown p hp
          exact ⟨_, hm⟩
        · exact ⟨o, same b o m e⟩
/-- what a law's facts at the head's heap h come to -/
def LawG (l : PySem.W.OpenLaw) (w : World) (K : PySem.W.Frag) (CX : CXT) (k n : Nat) (x : Str) (mg : Str → Option Value) (fa : Addr) (h : Heap) : Prop :=
  ∃ (fd : FuncData) (cs : List (Addr × Addr)) (sp : Sp), (∀ p ∈ cs, h.get? p.2 = some emptyO) ∧ (∀ p ∈ cs, K.lookup p.2 = none) ∧ (∀ p ∈ cs, PySem.W.CodeHd h p.1 p.2) ∧ (∀ (s : Shared) (u : Value), BindsTo s fd ⟨[u], []⟩ [(x, u)]) ∧
    (∀ (H : Hp) (a : Addr) (ns : List Int), ns.length ≤ n → (∀ z ∈ ns, Builtin.Int.intBits z ≤ 1048576) → (∀ p ∈ cs, H p.2 = some (.tbl #[])) → SqL K H a (ns.map V.int) → sp [.ref a] H (fun v _ => v = .bl true) fun _ _ _ => False) ∧
    ∀ base : Heap, K.In base → base.Ns mainGlobals mg → (∀ p ∈ cs, LamX.TabB base mg p.1 p.2) → FnG l.prog w K mg base CX k fa fd [x] sp
theorem walkG {l : PySem.W.OpenLaw} {n k : Nat} {q : Program} {loose : List Str} {XP : (Str → Option Value) → Heap → Prop} {YP : World → Heap → Prop} {d : DefRec} {CX : World → CXT} {x : Str}
    (hn : l.most = some n) (hn2 : n ≤ sizeLine) (hdf : d.params.defaults = []) (hr : Room k callerA)
    (F : ∀ (w : World) (mg : Str → Option Value) (fa : Addr) (h : Heap), YP w h → h.Ns mainGlobals mg → mg d.name = some (.ref fa) → ∃ K : PySem.W.Frag, K.In h ∧ LawG l w K (CX w) k n x mg fa h)
    (hCX : ∀ (w : World) (H : Hp) (s : Shared) (e : Value) (s' : Shared), CX w [] H s (fun _ _ _ => False) e s' → False) :
    PySem.W.WalkO q loose XP YP l.row.toRowW d [] (fun f vs => PySem.call f vs) := by
  refine Att.attach_callB hn hdf ?_
  intro w s₀ s₁ mg mb fa o pm cd doc a vs ns G Y ho hd hcd hmg hobj hints hlen hbits hg
  obtain ⟨K, KX, fd, cs, sp, c1, c2, c3, c4, c5, c6⟩ := F w mg fa _ Y G.T.g hmg
  exact law_callG KX G.T.g G.T.b G.T.builtins G.T.nolimit hg c1 c2 c3 G.T.bmain hobj hints (Nat.le_trans hlen hn2) hr c6 c4 (fun H hH hS => c5 H a ns hlen hbits hH hS) fun H e s' => hCX w H s₁ e s'
end
end Bb
set_option Elab.async false
set_option linter.all false
set_option maxRecDepth 100000
set_option maxHeartbeats 2000000
namespace Bb
open PySem PySem.Spec PyProof.Rows L2

/-! several clauses, each with a name: try: .. except x as n: .. except y as m: .. -/
abbrev Cl : Type := Value × Nat × (Addr → Value → Option Addr → TS)
/-- what the clauses wish of an exception, from the first on -/
def wAll (K : PySem.W.Frag) (Wout : WX) (D : Ends) : List Cl → WX
  | [] => Wout
  | q :: r => wAs K q.1 q.2.1 q.2.2 (wAll K Wout D r) D
inductive Cls2 (X : Cx) : List ExceptHandler → List Cl → Prop
  | nil : Cls2 X [] []
  | cons {x n : Str} {c : Value} {i : Nat} {ts : Addr → Value → Option Addr → TS} {b : Stmt} {su : List Stmt} {np pos' : Pos} {hds : List ExceptHandler} {l : List Cl} (hi : X.N[i]? = some n) (hl : X.env.kindOf n = some .local) (hc : Names X x c)
      (hsu : ∀ (a : Addr) (oe : Obj) (cls : Value) (d : Option Addr) (pn : List (Addr × Obj)), Zc cls d oe → (∃ vs, oe.data = .fields vs) → PSs (X.suite a ((a, oe) :: pn)) (b :: su) (ts a cls d)) (r : Cls2 X hds l) :
      Cls2 X (.ExceptHandler (some (.Name x np)) (some n) (b :: su) pos' :: hds) ((c, i, ts) :: l)
section
variable {X : Cx} {body : List Stmt} {h₁ : ExceptHandler} {hds : List ExceptHandler} {l : List Cl} {pos : Pos} {tb : WX → TS} {Wout : WX}
theorem ps_try_all (hs : X.stack = X.env :: X.outer) (hf : X.env.frame = some X.env.locals) (hN : X.N.Nodup) (tk : Takes X Wout)
    (hb : ∀ (W : WX) (pn : List (Addr × Obj)) (xe : Value → Shared → Prop), Takes (X.tr pn xe) W → PassesOwn (model X.prog X.w) X.A X.env xe → PSs (X.tr pn xe) body (tb W))
    (hh : Cls2 X (h₁ :: hds) l) : PS X (.Try body (h₁ :: hds) [] [] pos) (fun D σ H => tb (wAll X.K Wout D l) D σ H) := by
  constructor
  intro pins s σ H D I h
  have ok := I.ok
  have fr : X.A.frames = some (X.env :: X.outer) := by
    rw [ok.frames, hs]
  refine wpAny_Try_except ?_
  let land : Value → Shared → Prop := fun e s₁ => wpAny (model X.prog X.w) X.A (noteFrame e X.env)
    (fun _ s₂ => wpAny (model X.prog X.w) X.A (setFlight e none) (fun _ s₃ => wpAny (model X.prog X.w) X.A (handleBy e X.env (h₁ :: hds)) (SP X pins D) X.xe s₃) X.xe s₂) X.xe s₁
  have took : Takes (X.tr (X.pn ++ pins) land) (wAll X.K Wout D l) := by
    rintro u s' ⟨a, B, sI, pins', σ', H', cls, d, rfl, J', nb, up, sky, na, os, ag, wish⟩
    have J : Inv X pins σ' H' sI := J'.ofTry ok
    have over : Sky B (X.env :: X.outer) a (Zc cls d) X.env.locals s'.heap := by
      rw [← hs]
      exact sky
    show wpAny (model X.prog X.w) X.A (noteFrame (.ref a) X.env) _ _ _
    refine Sky.land Zc.steady fr hf over ?_
    intro h3 fl up3
    have J3 : Inv X pins σ' H' { s' with heap := h3 } := J.landed nb fl.1 (up.trans up3) os ag
    obtain ⟨oe, vs, ge, ze, de⟩ := fl.there
    have off : a ∉ frs (X.env :: X.outer) := by
      intro hm
      obtain ⟨_, o', e', hnf⟩ := fl.2.2.1.mem hm
      rw [ge] at e'
      cases e'
      exact hnf _ de
    have offL : a ≠ X.env.locals := by
      intro z
      refine off (List.mem_filterMap.mpr ⟨X.env, List.mem_cons_self, ?_⟩)
      rw [hf, z]
    have offF : a ∉ X.fs := by
      intro hm
      obtain ⟨e, he, q⟩ := List.mem_filterMap.mp hm
      exact off (List.mem_filterMap.mpr ⟨e, List.mem_cons_of_mem _ he, q⟩)
    have inS := J3.suite ge de na offL offF
    have looksT : PySem.W.Looks (model X.prog X.w) h3 (typeOf (.ref a)) cls := by
      intro A Q E s k q
      refine wpAny_typeOf_ref (k _ _ ge) ?_
      rw [ze.1]
      exact q
    -- the clauses, one behind the other
    have go : ∀ {hs' : List ExceptHandler} {l' : List Cl}, Cls2 X hs' l' → wAll X.K Wout D l' cls d σ' H' →
        wpAny (model X.prog X.w) X.A (handleBy (.ref a) X.env hs') (SP X pins D) X.xe { s' with heap := h3 } := by
      intro hs' l' ck
      induction ck with
      | nil =>
        intro w
        refine wpAny_handleBy_nil ?_
        obtain ⟨_, _, _, oe1, vs1, T, oT, ts1, g1, z1, d1, t1, _⟩ := id fl
        unfold PySem.passOn
        refine wpAny_bind (wpAny_field g1 d1 t1 ?_)
        rw [if_neg (by simp)]
        have last : wpAny (model X.prog X.w) X.A (setFlight (.ref a) X.env.frame) (fun _ s4 => wpAny (model X.prog X.w) X.A (throw (.ref a) : Sem Flow) (SP X pins D) X.xe s4) X.xe { s' with heap := h3 } := by
          rw [hf]
          refine HandSPX.setFlight_upZ fl ?_
          intro h4 held up4
          refine wpAny_throw (tk _ _ ⟨a, B, sI, pins, σ', H', cls, d, rfl, J, nb, (up.trans up3).trans up4, .inr (.inr ?_), na, os, ag, w⟩)
          rw [hs]
          exact held
        first
          | exact wpAny_bind (wpAny_pure (wpAny_bind last))
          | exact wpAny_bind last
      | @cons x n c i ts b su np pos' hds2 l2 hi hl hc hsu r ih =>
        intro w
        have w' : wAs X.K c i ts (wAll X.K Wout D l2) D cls d σ' H' := w
        obtain ⟨t, ht, yes, no⟩ := w'
        refine wpAny_handleBy_cons (codeAny_handlers_test ?_) (by intro q; cases q)
        have asked := PySem.W.exm_one (M := model X.prog X.w) J3.kIn looksT ht
        have name : ∀ {Q : Value → Shared → Prop} {E : Value → Shared → Prop}, Q c { s' with heap := h3 } → wpAny (model X.prog X.w) (X.A.mark (some (.ref a))) (eval (.Name x np) X.env) Q E { s' with heap := h3 } := by
          intro Q E q
          rcases hc with ⟨g, db, m | ⟨m, v, nn⟩⟩
          · exact ld_glob (X := X.suite a ((a, oe) :: (X.pn ++ pins))) inS g m q db
          · exact ld_blt (X := X.suite a ((a, oe) :: (X.pn ++ pins))) inS g m v q nn db
        refine name (asked.here ?_)
        cases t with
        | false => exact ih (no rfl)
        | true =>
          refine codeAny_handlers_suite_as ?_
          refine HandSPX.lands_againZ fl ?_
          intro h4 fl4 up4
          have J4 : Inv X pins σ' H' { s' with heap := h4 } := J.landed nb fl4.1 ((up.trans up3).trans up4) os ag
          obtain ⟨oe4, vs4, g4, z4, d4⟩ := fl4.there
          refine store_ok (X := X.suite a ((a, oe4) :: (X.pn ++ pins))) (v := .ref a) (J4.suite g4 d4 na offL offF) hN hi (.inl hl) rfl ?_ (.inr hl)
          intro s5 S5
          refine wpAny_mono ((hsu a oe4 cls d (X.pn ++ pins) z4 ⟨_, d4⟩).run [] s5 _ H' _ S5 (yes rfl a na)) ?_ (fun _ _ z => z.elim)
          have gone : ∀ {s6 : Shared} {σ6 : L2.St} {H6 : Hp} {Q : Shared → Prop}, Inv (X.suite a ((a, oe4) :: (X.pn ++ pins))) [] σ6 H6 s6 → (∀ s7, Inv X pins (σ6.set i none) H6 s7 → Q s7) →
              wpAny (model X.prog X.w) X.A (do bindName X.env n .none; unbindBehindTheSuite X.env n pos') (fun _ s7 => Q s7) X.xe s6 := fun S6 q => gone_ok (S6.unsuite ok) hN hi hl q
          intro f s6 sp
          cases f with
          | next =>
            obtain ⟨σ6, H6, S6, q6⟩ := sp
            exact gone S6 (fun s7 J7 => ⟨_, _, J7, q6⟩)
          | brk =>
            obtain ⟨σ6, H6, S6, q6⟩ := sp
            exact gone S6 (fun s7 J7 => ⟨_, _, J7, q6⟩)
          | cont =>
            obtain ⟨σ6, H6, S6, q6⟩ := sp
            exact gone S6 (fun s7 J7 => ⟨_, _, J7, q6⟩)
          | ret u =>
            obtain ⟨v6, σ6, H6, S6, r6, q6⟩ := sp
            exact gone S6 (fun s7 J7 => ⟨_, _, _, J7, r6, q6⟩)
    exact go hh wish
  refine wpAny_mono ((hb _ (X.pn ++ pins) land took PassesOwn.looking).run [] s σ H D (I.toTry _) h) ?_ (fun e s1 he => he)
  intro f s1 sp
  cases f with
  | next =>
    obtain ⟨σ1, H1, J1, q⟩ := sp
    exact wpAny_execs_nil ⟨σ1, H1, J1.ofTry ok, q⟩
  | brk =>
    obtain ⟨σ1, H1, J1, q⟩ := sp
    exact ⟨σ1, H1, J1.ofTry ok, q⟩
  | cont =>
    obtain ⟨σ1, H1, J1, q⟩ := sp
    exact ⟨σ1, H1, J1.ofTry ok, q⟩
  | ret u =>
    obtain ⟨v1, σ1, H1, J1, r, q⟩ := sp
    exact ⟨v1, σ1, H1, J1.ofTry ok, r, q⟩
end

/-! a def that is handed the exception of an except clause, in the clause's suite -/
section
variable {P : Program} {w : World} {K : PySem.W.Frag} {mg : Str → Option Value} {base : Heap}
/-- called with the exception at a, whose object is oe, it hands back z and leaves all as it was -/
structure FnE (P : Program) (w : World) (K : PySem.W.Frag) (mg : Str → Option Value) (base : Heap) (k : Nat) (f : Addr) (fd : FuncData) (ps : List Str) (D : Addr) (z : V) : Prop where
  one : ps.length = 1
  go : ∀ (A : Around) (outer : List Env) (s : Shared) (H : Hp) (ar : Args) (a : Addr) (oe : Obj) (Q : VK), L2H.RoomH k A → L2H.PinOk outer H s (a, oe) → Zc (.ref D) none oe → (∃ vs, oe.data = .fields vs) → Env0 P w K mg base A outer s H →
    BindsTo s fd ar (ps.zip [.ref a]) → (∀ H', (∀ b o, H b = some o → H' b = some o) → Q z H') → codeAny (model P w) A (.call (.ref f) ar) (CR (fun _ _ _ _ _ _ => False) outer P w H s Q (fun _ _ _ => False)) s
theorem fnE {x qual : Str} {params : Arguments} {body : List Stmt} {scope : Scope} {dvs : List V} {kws : List (Str × V)} {f : Addr} {fd : FuncData} {N : List Str} {p1 : Str} {k : Nat} {D : Addr} {z : V} (F : FunD K x qual params body scope dvs kws f fd) (S : FnScope N [p1] scope)
    (bd : ∀ (cdv : Value) (A : Around) (outer : List Env) (s : Shared) (H : Hp) (a : Addr) (oe : Obj) (Q : VK), L2H.RoomH k (A.deeper (envOfC qual scope s.heap.objs.size f cdv)) → Zc (.ref D) none oe → (∃ vs, oe.data = .fields vs) → (∀ H', (∀ b o, H b = some o → H' b = some o) → Q z H') →
      ∃ t, PSs (L2H.cxH (fun _ _ _ _ _ _ => False) P w K mg base N qual scope f cdv A outer s H (fun _ _ _ => False) (a, oe)) body t ∧ t { nx := fun _ H' => Q .non H', rt := Q } (start N [.ref a]) H) : FnE P w K mg base (k + 1) f fd [p1] D z := by
  obtain ⟨oc, od, dV, kV, doc, pm, an, cdv, ct, osl, rfl, lk, hcd, _, _⟩ := F.ex
  refine ⟨rfl, ?_⟩
  intro A outer s H ar a oe Q room pin hz hd env bnd back
  have kin : K.In s.heap := env.mod.kin.keeps fun b o e => (env.bs b o e).1
  have lim : s.heap.NoLimit := env.mod.nolimit.keeps fun b o e => (env.bs b o e).1
  have kinds : ∀ y ∈ [p1].zip [Value.ref a], scope.names.lookup y.1 = some .local ∨ (scope.names.lookup y.1 = some .cell ∧ ((cellsFrom (s.heap.objs.size + 1) scope.names []).lookup y.1).isSome = true) := by
    rintro ⟨n, v⟩ hy
    rcases S.par n (List.of_mem_zip hy).1 with q | q
    · exact .inl q
    · exact .inr ⟨q, PySem.W.cellsFrom_some _ _ _ (.inl q)⟩
  refine codeAny_call_function room.depth (kin _ _ lk) rfl S.co S.gen rfl (PySem.W.codeRec_of kin hcd) (bnd _ _ _ _ ?_)
  refine wpAny_newFunctionEnv_cells S.kind kinds ?_
  rintro env1 rfl s1 x1
  refine ⟨lim.keeps x1.toInCall.keep, codeAny_func ?_⟩
  obtain ⟨t, ht, hq⟩ := bd cdv A outer s H a oe Q (room.deeper _) hz hd back
  have start1 := L2H.inv_startH (CX := fun _ _ _ _ _ _ => False) (E := fun _ _ _ => False) S pin env (vs := [.ref a]) rfl (.cons rfl .nil) x1
  refine wpAny_mono (ht.run [] s1 (start N [.ref a]) H _ start1 hq) ?_ (fun e s' hx => hx)
  intro fl s' sp
  cases fl with
  | next =>
    obtain ⟨σ', H', J, q⟩ := sp
    exact ⟨V.non, H', J.os, J.bare, J.base, J.hok, rfl, q⟩
  | brk =>
    obtain ⟨_, _, _, q⟩ := sp
    exact q.elim
  | cont =>
    obtain ⟨_, _, _, q⟩ := sp
    exact q.elim
  | ret u =>
    obtain ⟨v, σ', H', J, rv, q⟩ := sp
    exact ⟨v, H', J.os, J.bare, J.base, J.hok, rv, q⟩
end
/-- kind(e) in the suite: e stands in slot i -/
theorem pe_callE {X : Cx} {a : Addr} {oe : Obj} {pn : List (Addr × Obj)} {k : Nat} {f D : Addr} {fd : FuncData} {ps : List Str} {z : V} {x : Str} {p pos : Pos} {e : Expr} (F : FnE X.prog X.w X.K X.mg X.base k f fd ps D z) (hr : L2H.RoomH k X.A) (hg : Gl X x) (hm : X.mg x = some (.ref f)) (hk : PySem.W.keepIn X.K (.ref f) = true)
    (hb : Binds X.K fd ps []) (hz : Zc (.ref D) none oe) (hd : ∃ vs, oe.data = .fields vs) {t : TA} (he : PA (X.suite a ((a, oe) :: pn)) [e] t)
    (hdb : (x == ("__debug__" : Str)) = false := by decide) (hst : starEach [e] X.env = (false, eval e X.env) :: starEach [] X.env := by rfl) (hpl : (backTo pos (starEach [] X.env)).any (·.1) = false := by rfl) :
    PE (X.suite a ((a, oe) :: pn)) (.Call (.Name x p) [e] [] pos) (fun σ H Q => t σ H fun vs H1 => vs = [.ref a] ∧ ∀ H', (∀ b o, H1 b = some o → H' b = some o) → Q z H') := by
  constructor
  intro pins s σ H Q I h
  refine wpAny_Call_Name_kw (ld_glob I hg hm ?_ hdb)
  refine PySem.W.callWith_K (h₀ := X.base) I.ok.mod.kin hk ?_ hst hpl
  refine thn (he.run pos pins s σ H _ I h) ?_
  rintro us s1 ⟨vs, H1, I1, r, rfl, q⟩
  refine ⟨I1.kIn, ?_⟩
  obtain ⟨u, rfl, ru⟩ := vals1 r
  cases ru
  have one : [Value.ref a].length = ps.length := F.one.symm
  have bnd := hb s1 [.ref a] I1.kIn (by rw [List.append_nil]; exact one)
  rw [List.append_nil] at bnd
  have pin1 := I1.pin (a, oe) (List.mem_append_left _ List.mem_cons_self)
  have pinned : L2H.PinOk X.stack H1 s1 (a, oe) := ⟨pin1.1, pin1.2.1, fun hm => (List.mem_cons.mp (I1.stkSub a hm)).elim pin1.2.2.1 pin1.2.2.2.1, pin1.2.2.2.2⟩
  refine wpAny_call (codeAny_mono (F.go _ X.stack s1 H1 ⟨[.ref a], []⟩ a oe Q ⟨hr.dp, hr.un⟩ pinned hz hd I1.env0 bnd q) ?_)
  rintro (er | fl) s' hq
  · exact hq.elim
  · cases fl with
    | ret u => exact I1.after hq
    | next => exact hq.elim
    | brk => exact hq.elim
    | cont => exact hq.elim
end Bb
set_option Elab.async false
set_option linter.all false
set_option maxRecDepth 100000
set_option maxHeartbeats 2000000
namespace Bb
open PySem PySem.Spec PyProof.Rows L2

/-! isinstance of the exception that the caller's suite holds -/
theorem call_isP {X : Cx} {a D : Addr} {oe : Obj} (hp : (a, oe) ∈ X.pn) (C : ExcC X.K D) (hz : Zc (.ref D) none oe) (hf : ∃ vs, oe.data = .fields vs) : CallR X (.builtin "isinstance") (rIsE X.K D a) := by
  intro pins s σ H xs us Q I r h
  obtain ⟨c, cv, b, rfl, hcv, e, q⟩ := h
  obtain ⟨u1, u2, rfl, r1, r2⟩ := vals2 r
  cases r1
  have ec := hcv _ r2
  subst ec
  have there := (I.pin (a, oe) (List.mem_append_left _ hp)).1
  obtain ⟨vs, hv⟩ := hf
  have J : PySem.W.InstAt s.heap a oe D none := by
    obtain ⟨oc, od, oda, osl⟩ := oe
    obtain ⟨h1, h2⟩ := hz
    dsimp only at h1 h2 hv
    subst h1 h2 hv
    exact ⟨there, rfl, rfl, trivial⟩
  refine PySem.W.kia_one (PySem.W.handS_kitx_exc C.hg C.hk C.hs C.hd C.ha C.hn C.ht C.hm) I.kIn J e (fun z => nomatch z) ?_
  intro tk
  exact ⟨.bl b, H, I.kept (t' := tk) (fun _ _ z => z), rfl, q⟩

/-! list.count of flat items -/
def rCntF (K : PySem.W.Frag) : V → List V → Hp → VK → Prop := fun x xs H Q => ∃ (p : Addr) (ys : List V) (y : V), x = .ref p ∧ xs = [y] ∧ SqL K H p ys ∧ flatV y = true ∧ ys.all flatV = true ∧ Q (.int ((ys.countP fun z => eqV z y : Nat) : Int)) H
theorem count_eqU {x : V} : ∀ {xs : List V} {us : List Value}, Vals xs us → xs.all flatV = true → us.countP (eqU x) = xs.countP fun y => eqV y x
  | _, _, .nil, _ => rfl
  | y :: xs, u :: us, .cons r t, f => by
    rw [List.all_cons, Bool.and_eq_true] at f
    rw [List.countP_cons, List.countP_cons, eqU_of r f.1, count_eqU t f.2]
theorem mt_countF {X : Cx} : MtR X "list.count" (rCntF X.K) := by
  intro pins s σ H x xs v us Q I rx rxs h
  obtain ⟨p, ys, y, rfl, rfl, hs, fy, fys, q⟩ := h
  cases rx
  obtain ⟨u, rfl, ru⟩ := vals1 rxs
  obtain ⟨its, rv, ⟨⟨cls, dd, data, sl⟩, n, ho, hc, hdn, hd⟩, hlen⟩ := I.list hs
  dsimp only at hc hd
  subst hc hd
  refine call_meets PySem.F.slot_list_count ⟨_, ho, rfl⟩ PySem.F.entry_list_count (PySem.F.args_list_count_2 _ _) (SeqAt.list_countAt p its.toArray n dd sl u (eqU y)) ⟨ho, ?_, ?_⟩
  · intro z hz
    exact mem_eqAt ru fy rv fys z (by simpa using hz)
  · refine ⟨.int ((ys.countP fun z => eqV z y : Nat) : Int), H, I.tok _, ⟨s.toks, ?_⟩, q⟩
    have e := count_eqU (x := y) rv fys
    show Value.int ((its.toArray.toList.countP (eqU y) : Nat) : Int) s.toks = _
    rw [show its.toArray.toList = its from rfl, e]

/-! len of an own instance; != by an own == -/
section
variable {X : Cx}
theorem call_lenOwn {CX : CXT} {C f : Addr} {fd : FuncData} {ps : List Str} {sp : Sp} {k : Nat} {E : XK} (F : FnOk X.prog X.w X.K X.mg X.base CX k f fd ps sp) (hr : Room (k + 1) X.A) (hs : PySem.W.findIn X.K (.ref C) "__len__" = some (some (.ref f))) (hf : PySem.W.isFn X.K (.ref f) = true)
    (hb : Binds X.K fd ps []) (hx : Passes CX X E) :
    CallR X (.builtin "len") (fun xs H Q => ∃ a dx fs, xs = [.ref a] ∧ H a = some (.ins C dx fs) ∧ sp [.ref a] H (fun v H' => ∃ n : Int, v = .int n ∧ (0 ≤ n ∧ n < 2 ^ 63) ∧ Q (.int n) H') E) := by
  intro pins s σ H xs us Q I r h
  obtain ⟨a, dx, fs, rfl, ha, hsp⟩ := h
  obtain ⟨u, rfl, ru⟩ := vals1 r
  cases ru
  obtain ⟨mA, J, _⟩ := ins_get I.hok ha
  obtain ⟨od, J, _⟩ := J.look
  obtain ⟨m, hF⟩ := I.fr
  refine PySem.W.len_K hF I.ok.mod.kin J hs hf ?_
  have hl := F.len _ _ _ _ hsp
  have bnd := hb s [.ref a] I.kIn (by simpa using hl)
  rw [List.append_nil] at bnd
  refine wpAny_call (codeAny_mono (F.run X.A.in1 X.stack s H ⟨[.ref a], []⟩ [.ref a] [.ref a] _ E hr.in1 I.env0.in1 bnd (.cons rfl .nil) hsp) ?_)
  rintro (er | fl) s' hq
  · exact hx pins σ H s er s' I hq
  · cases fl with
    | ret w' =>
      obtain ⟨z, H', I', rz, n, rfl, hn, q⟩ := I.after hq
      obtain ⟨t, rfl⟩ := rz
      exact ⟨hn, .int n, H', I'.tok _, ⟨_, rfl⟩, q⟩
    | next => exact hq.elim
    | brk => exact hq.elim
    | cont => exact hq.elim
end
namespace Ne
open PySem.W PySem.Calls
section
variable {prog : Program} {w : World} {A : Around} {E : Value → Shared → Prop} {s : Shared} {K : Frag} {x y C f : Addr} {ox oy : Obj} {od od' : Option Obj}
theorem wrap_ty : typeOf (.builtin "object.__ne__") = pure (.type "wrapper_descriptor") := by
  first
    | rfl
    | kernel_rfl
theorem obj_ne {Q : Value → Shared → Prop} (X : K.In s.heap) (I : InstAt s.heap x ox C od) (J : InstAt s.heap y oy C od') (hu : A.units + 1 < cLine) (he : findIn K (.ref C) "__eq__" = some (some (.ref f))) (hf : isFn K (.ref f) = true)
    (hn : findIn K (.ref C) "__ne__" = some (some (.builtin "object.__ne__"))) (hsub : subIn K (.ref C) (.type "object") = some true)
    (h : wpAny (model prog w) A.in1 (call (.ref f) [.ref x, .ref y]) (fun v s' => ∃ b, v = .bool b ∧ Q (.bool (!b)) s') E s) : wpAny (model prog w) A (compareOp .NotEq (.ref x) (.ref y)) Q E s := by
  obtain ⟨hp, g, d, tk, os⟩ := s
  have isO : Looks (model prog w) hp (isInstance (.ref x) (.type "object")) true := I.type.andThen (looks_subIn X hsub)
  -- object.__ne__(x, y)
  have slot : wpAny (model prog w) A (call (.builtin "object.__ne__") [.ref x, .ref y]) (fun v s' => ∃ b, v = .bool b ∧ Q (.bool b) s') E ⟨hp, g, d, tk, os⟩ := by
    refine wpAny_call (codeAny_call_builtin (by decide +kernel) F.cmpEntry_ne ?_)
    refine @check_slot (model prog w) _ _ ⟨hp, g, d, tk, os⟩ "object.__ne__" "object" "__ne__" (.ref x) [.ref y] [] _ F.cmpKind_ne F.cmpSplit_ne isO (F.cmpArgs_ne _ _) ?_
    unfold Builtin.«object.__ne__»
    have eqc : ∀ {R : Option Value → Shared → Prop} {E' : Value → Shared → Prop}, wpAny (model prog w) A.in1 (call (.ref f) [.ref x, .ref y]) (fun v => R (some v)) E' ⟨hp, g, d, tk, os⟩ →
        wpAny (model prog w) A.in1 (callSpecialIfBound? (.ref x) (Str.ofString "__eq__") [.ref y]) R E' ⟨hp, g, d, tk, os⟩ := fun z => ifBound_K X I he hf z
    have rest : ∀ (v : Value) (s' : Shared), (∃ b, v = .bool b ∧ Q (.bool (!b)) s') → wpAny (model prog w) A.in1 (match some v with | some Value.notImplemented => ret .notImplemented | none => ret .notImplemented | some r => do ret (.bool (!(← truthy r))))
        (fun fin s' => match fin with
          | .done f => wants (fun v s' => ∃ b, v = Value.bool b ∧ Q (Value.bool b) s') E (.ok f) s'
          | .again c' => c'.quiet = true ∧ codeAny (model prog w) A c' (wants (fun v s' => ∃ b, v = Value.bool b ∧ Q (Value.bool b) s') E) s') (fun e s' => wants (fun v s' => ∃ b, v = Value.bool b ∧ Q (Value.bool b) s') E (.error e) s') s' := by
      rintro v s' ⟨b, rfl, hq⟩
      refine wpAny_bind (wpAny_truthy_bool (wpAny_pure ?_))
      exact ⟨!b, rfl, hq⟩
    repeat (first
      | with_reducible refine wpAny_cRoomFor hu ?_
      | exact wpAny_bind (m := callSpecialIfBound? (.ref x) (Str.ofString "__eq__") [.ref y]) (eqc (wpAny_mono h (fun v s' hv => rest v s' hv) fun _ _ e => e))
      | wp_step)
  have bs : bindSpecial (.builtin "object.__ne__") (.ref x) = pure (.builtin "object.__ne__", [.ref x]) := by
    unfold bindSpecial
    rw [wrap_ty]
    rfl
  have two : wpAny (model prog w) A (callSpecialIfBound? (.ref x) (Str.ofString "__ne__") [.ref y]) (fun r s' => ∃ b, r = some (Value.bool b) ∧ Q (Value.bool b) s') E ⟨hp, g, d, tk, os⟩ := by
    simp only [callSpecialIfBound?, bindSpecialIfBound?]
    refine wpAny_holding (wpAny_bind (wpAny_bind (wpAny_bind (I.type.here ((looks_findIn X hn).here ?_)))))
    refine wpAny_bind (wpAny_askSetting (wpAny_ite ?_))
    have fin : wpAny (model prog w) A (call (.builtin "object.__ne__") ([.ref x] ++ [.ref y]) >>= fun v => pure (some v)) (fun r s' => ∃ b, r = some (Value.bool b) ∧ Q (Value.bool b) s') E ⟨hp, g, d, tk, os⟩ := by
      refine wpAny_bind (wpAny_mono slot ?_ fun _ _ e => e)
      rintro v s' ⟨b, rfl, hq⟩
      exact wpAny_pure ⟨b, rfl, hq⟩
    split
    · rw [bs]
      exact wpAny_bind (wpAny_pure (wpAny_pure (by exact fin)))
    · rw [bs]
      exact wpAny_tryCatch (wpAny_bind (wpAny_pure (wpAny_pure (by exact fin))))
  have one : wpAny (model prog w) A (tryCompare (.ref x) (Str.ofString "__ne__") (.ref y)) (fun r s' => ∃ v, r = some v ∧ Q v s') E ⟨hp, g, d, tk, os⟩ := by
    unfold tryCompare
    refine wpAny_bind (wpAny_mono two ?_ fun _ _ e => e)
    rintro r s' ⟨b, rfl, hq⟩
    exact wpAny_pure ⟨_, rfl, hq⟩
  show wpAny (model prog w) A (richCompare .NotEq (.ref x) (.ref y)) Q E _
  unfold richCompare
  simp only [oneThing_ref]
  refine wpAny_holding (wpAny_bind (wpAny_cRoomFor (Nat.lt_of_succ_lt hu) ?_))
  refine wpAny_bind (I.type.here (wpAny_bind (J.type.here ?_)))
  rw [show (Value.ref C != Value.ref C) = false from by simp]
  simp only [Bool.false_eq_true, if_false]
  refine wpAny_bind (wpAny_pure ?_)
  simp only [Bool.false_eq_true, if_false]
  refine wpAny_bind (wpAny_mono one ?_ fun _ _ e => e)
  rintro r s' ⟨v, rfl, hq⟩
  exact wpAny_pure hq
end
end Ne
end Bb
set_option Elab.async false
set_option linter.all false
set_option maxRecDepth 100000
set_option maxHeartbeats 2000000
namespace Bb
open PySem PySem.Spec PyProof.Rows L2
open Builtin

/-! ==, != by an own ==: what it answers is told -/
section
variable {X : Cx} {CX : CXT} {C f : Addr} {fd : FuncData} {ps : List Str} {sp : Sp} {k : Nat} {E : XK}
theorem op_neOwn (F : FnOk X.prog X.w X.K X.mg X.base CX k f fd ps sp) (hr : Room (k + 1) X.A) (he : PySem.W.findIn X.K (.ref C) "__eq__" = some (some (.ref f))) (hf : PySem.W.isFn X.K (.ref f) = true)
    (hn : PySem.W.findIn X.K (.ref C) "__ne__" = some (some (.builtin "object.__ne__"))) (hsub : PySem.W.subIn X.K (.ref C) (.type "object") = some true) (hb : Binds X.K fd ps []) (hx : Passes CX X E) :
    OpR X (compareOp .NotEq) (fun x y H Q => ∃ a b dx dy fs gs, x = .ref a ∧ y = .ref b ∧ H a = some (.ins C dx fs) ∧ H b = some (.ins C dy gs) ∧ sp [.ref a, .ref b] H (fun v H' => ∃ t, v = .bl t ∧ Q (.bl (!t)) H') E) := by
  intro pins s σ H x y v u Q I rx ry h
  obtain ⟨a, b, dx, dy, fs, gs, rfl, rfl, ha, hb', hsp⟩ := h
  cases rx
  cases ry
  obtain ⟨mA, J, _⟩ := ins_get I.hok ha
  obtain ⟨od, J, _⟩ := J.look
  obtain ⟨mB, J', _⟩ := ins_get I.hok hb'
  obtain ⟨od', J', _⟩ := J'.look
  have un := hr.units
  refine Ne.obj_ne I.kIn J J' (by omega) he hf hn hsub ?_
  have hl := F.len _ _ _ _ hsp
  have bnd := hb s [.ref a, .ref b] I.kIn (by simpa using hl)
  rw [List.append_nil] at bnd
  refine wpAny_call (codeAny_mono (F.run X.A.in1 X.stack s H ⟨[.ref a, .ref b], []⟩ [.ref a, .ref b] [.ref a, .ref b] _ E hr.in1 I.env0.in1 bnd (.cons rfl (.cons rfl .nil)) hsp) ?_)
  rintro (er | fl) s' hq
  · exact hx pins σ H s er s' I hq
  · cases fl with
    | ret w' =>
      obtain ⟨z, H', I', rz, t, rfl, q⟩ := I.after hq
      cases rz
      exact ⟨t, rfl, .bl (!t), H', I', rfl, q⟩
    | next => exact hq.elim
    | brk => exact hq.elim
    | cont => exact hq.elim
theorem op_eqOwn (F : FnOk X.prog X.w X.K X.mg X.base CX k f fd ps sp) (hr : Room k X.A) (he : PySem.W.findIn X.K (.ref C) "__eq__" = some (some (.ref f))) (hf : PySem.W.isFn X.K (.ref f) = true)
    (hb : Binds X.K fd ps []) (hx : Passes CX X E) :
    OpR X (compareOp .Eq) (fun x y H Q => ∃ a b dx dy fs gs, x = .ref a ∧ y = .ref b ∧ H a = some (.ins C dx fs) ∧ H b = some (.ins C dy gs) ∧ sp [.ref a, .ref b] H (fun v H' => ∃ t, v = .bl t ∧ Q (.bl t) H') E) := by
  intro pins s σ H x y v u Q I rx ry h
  obtain ⟨a, b, dx, dy, fs, gs, rfl, rfl, ha, hb', hsp⟩ := h
  cases rx
  cases ry
  obtain ⟨mA, J, _⟩ := ins_get I.hok ha
  obtain ⟨od, J, _⟩ := J.look
  obtain ⟨mB, J', _⟩ := ins_get I.hok hb'
  obtain ⟨od', J', _⟩ := J'.look
  obtain ⟨m, hF⟩ := I.fr
  show wpAny (model X.prog X.w) X.A (richCompare .Eq (.ref a) (.ref b)) _ _ _
  refine PySem.W.cmp_K (op := .Eq) (tb := .ref C) hr.units0 hF I.ok.mod.kin J J'.type (by simp [PySem.W.notFirst]) he hf ?_
  have hl := F.len _ _ _ _ hsp
  have bnd := hb s [.ref a, .ref b] I.kIn (by simpa using hl)
  rw [List.append_nil] at bnd
  refine wpAny_call (codeAny_mono (F.run X.A X.stack s H ⟨[.ref a, .ref b], []⟩ [.ref a, .ref b] [.ref a, .ref b] _ E hr I.env0 bnd (.cons rfl (.cons rfl .nil)) hsp) ?_)
  rintro (er | fl) s' hq
  · exact hx pins σ H s er s' I hq
  · cases fl with
    | ret w' =>
      obtain ⟨z, H', I', rz, t, rfl, q⟩ := I.after hq
      cases rz
      exact ⟨.bl t, H', I', rfl, q⟩
    | next => exact hq.elim
    | brk => exact hq.elim
    | cont => exact hq.elim
end

/-! enumerate over a tuple -/
def IteT (K : PySem.W.Frag) (a : Addr) : It :=
  ⟨fun i H => ∃ (xs : List V) (x : V), SqT K H a xs ∧ xs[i]? = some x, fun i H v H' => ∃ T x, v = .ref T ∧ H T = none ∧ H' = upd H T (.tup [.int (i : Nat), x]) ∧ ∀ xs, SqT K H a xs → xs[i]? = some x, fun i H => ∃ xs : List V, SqT K H a xs ∧ xs.length ≤ i⟩
theorem tup_ne_iter {h : Heap} {a it : Addr} {items : Array Value} {i : Nat} (t : h.IsTuple a items) (x : h.IsTupleIter it a i) : a ≠ it := by
  rintro rfl
  obtain ⟨o, e, c, _⟩ := t
  obtain ⟨o', e', c', _⟩ := x
  rw [e] at e'
  injection e' with e'
  subst e'
  rw [c] at c'
  exact absurd c' (by decide)
theorem tup_ne_enum {h : Heap} {a e it : Addr} {items : Array Value} {i : Int} {old : Value} (t : h.IsTuple a items) (x : IsEnum h e it i old) : e ≠ a := by
  rintro rfl
  obtain ⟨o, g, c, _⟩ := t
  have g' : h.get? e = _ := x
  rw [g] at g'
  injection g' with g'
  subst g'
  have c' : Value.type "enumerate" = Value.type "tuple" := c
  exact absurd c' (by decide)
theorem turn_enumT {P : Program} {w : World} {K : PySem.W.Frag} {elts : List Expr} {kk : Nat} {tpos : Pos} (a e it : Addr) :
    Turn P w K (.Tuple elts kk tpos) (IteT K a) [e, it] e (fun i h => (∃ old, IsEnum h e it ((i : Nat) : Int) old) ∧ h.IsTupleIter it a i ∧ e ≠ it) where
  mem := by simp
  obj := by
    rintro i h ⟨⟨old, he⟩, ⟨o, ho, hc, hd⟩, _⟩ b hb
    have two : b = e ∨ b = it := by simpa using hb
    rcases two with rfl | rfl
    · exact ⟨_, he, fun v q => nomatch q⟩
    · refine ⟨o, ho, fun v q => ?_⟩
      rw [hd] at q
      cases q
  keep := by
    rintro i h h' ⟨⟨old, he⟩, hi, ne⟩ k
    exact ⟨⟨old, k e (by simp) _ he⟩, hi.at (fun o q => k it (by simp) o q), ne⟩
  item := by
    intro X hP hw hK hc i pins s σ H E I hf st hg
    subst hP hw hK
    obtain ⟨⟨old, he⟩, hit, ne⟩ := st
    obtain ⟨xs, x, hq, hx⟩ := hg
    obtain ⟨its, rv, p, hz⟩ := I.tuple hq
    have pt : s.heap.IsTuple a its.toArray := p
    obtain ⟨u, hu, ru⟩ := rv.get hx
    have szE : e < s.heap.objs.size := Heap.lt_size he
    have szI : it < s.heap.objs.size := by
      obtain ⟨_, q, _⟩ := hit
      exact Heap.lt_size q
    have lt : i < its.toArray.size := by
      have z := (List.getElem?_eq_some_iff.mp hu).1
      simpa using z
    have D : Draws X.prog X.w X.A.in1 it [it, a] its.toArray.size (fun i v => its.toArray[i]? = some v) (fun i h => h.IsTupleIter it a i ∧ h.IsTuple a its.toArray) := Draws.tuple (show X.A.in1.handled = none from I.ok.hd hc) it a (tup_ne_iter pt hit) its.toArray
    refine wpAny_pyNext_enum_itemD D he ⟨hit, pt⟩ lt ne (by simp [ne, tup_ne_enum pt he]) ?_
    intro x' h' tk hx' ho st' hT hsz hk
    have ex : x' = u := by
      have z : its.toArray[i]? = some u := by simpa using hu
      rw [z] at hx'
      exact (Option.some.inj hx').symm
    subst ex
    refine ⟨_, rfl, wpAny_letOwnedTupleGo_enum (s := { s with heap := h', toks := tk + 1 }) ho ?_⟩
    intro h'' he' sb
    have hT2 : h''.get? s.heap.objs.size = some { cls := .type "tuple", data := .seq #[.int i tk, x'] } := (sb.2 _ (Nat.ne_of_gt szE)).trans hT
    have fresh : ObjOk X.prog X.w (upd H s.heap.objs.size (.tup [.int (i : Nat), x])) h'' s.heap.objs.size (.tup [.int (i : Nat), x]) :=
      ⟨(by show 2 ≤ sizeLine; decide), [.int i tk, x'], .cons ⟨_, rfl⟩ (.cons ru .nil), ⟨_, hT2, rfl, _, rfl⟩⟩
    have I1 : Inv X pins σ (upd H s.heap.objs.size (.tup [.int (i : Nat), x])) { s with heap := h'', toks := tk + 1 } := by
      refine I.turnedNew (ch := [e, it]) ?_ hf (Nat.le_refl _) fresh
      intro b ob hb q
      have n1 : b ≠ e := fun z => hb (by simp [z])
      have n2 : b ≠ it := fun z => hb (by simp [z])
      exact (sb.2 b n1).trans (hk b ob n1 n2 q)
    refine ⟨.ref s.heap.objs.size, _, I1, rfl, ⟨_, x, rfl, I.hok.fresh (Nat.le_refl _), rfl, ?_⟩, ⟨⟨x', ?_⟩, st'.1.at (fun o q => (sb.2 it (Ne.symm ne)).trans q), ne⟩, ?_⟩
    · intro ys hy
      rw [I.tuple_inj hy hq]
      exact hx
    · have e1 : ((i + 1 : Nat) : Int) = (i : Int) + 1 := by omega
      rw [e1]
      exact he'
    · intro b hb
      have two : b = e ∨ b = it := by simpa using hb
      have low : b < s.heap.objs.size := by
        rcases two with rfl | rfl
        · exact szE
        · exact szI
      rw [upd_ne (Nat.ne_of_lt low)]
      exact (hf b hb).1
  done := by
    intro X hP hw hK hc i pins s σ H E I hf st hg
    subst hP hw hK
    obtain ⟨⟨old, he⟩, hit, ne⟩ := st
    obtain ⟨xs, hq, hx⟩ := hg
    obtain ⟨its, rv, p, hz⟩ := I.tuple hq
    have pt : s.heap.IsTuple a its.toArray := p
    obtain ⟨f0, f1, f2, f3, f4, f5⟩ := hf it (by simp)
    have hl := rv.length
    have end_ : ∀ {Q : Option Value → Shared → Prop}, (∀ h', Heap.ExtBut it s.heap h' → Q none { s with heap := h' }) → wpAny (model X.prog X.w) X.A (pyNext (.ref e)) Q E s := by
      intro Q hQ
      unfold pyNext
      refine wpAny_bind (wpAny_attempt (wpAny_callSpecial?_slot (name := Str.ofString "__next__") ⟨_, he, rfl⟩ F.slot_enumerate_next (wpAny_call_entry F.slot_enumerate_next ⟨_, he, rfl⟩ F.entry_enumerate_next ?_ (F.args_enumerate_next_1 _))))
      show wpAny _ _ (field (.ref e) 2 >>= _) _ _ _
      refine wpAny_bind (wpAny_field he rfl (x := .ref it) rfl ?_)
      refine wpAny_bind (wpAny_nextOf_tuple_end (I.ok.hd hc) hit pt (by simp; omega) ?_)
      rintro h' x eb ⟨o, ho, hc'⟩
      refine wpAny_bind (wpAny_isInstance (T := "StopIteration") (b := true) ⟨o, ho, hc'⟩ isSubtype_stop ?_)
      exact wpAny_pure (hQ h' eb)
    exact end_ (fun h' eb => ⟨rfl, I.turned (t' := s.toks) (fun b o hb q => eb b o hb q) f0 f1 f3 f4 f5⟩)
  self := by
    rintro A i s Q E ⟨⟨_, he⟩, _⟩ h
    exact wpAny_pyIter_enum he h
theorem walk_enumT {K : PySem.W.Frag} {a : Addr} {xs : List V} : Walk (IteT K a) xs.length (fun H => SqT K H a xs) (YPair (fun i => some (.int (i : Nat))) (fun i => xs[i]?)) := by
  refine ⟨fun i _ hi q => ⟨xs, xs[i], q, by simp [hi]⟩, fun _ q => ⟨xs, q, Nat.le_refl _⟩, ?_⟩
  rintro i H v H' _ q ⟨T, x, h1, h2, h3, h4⟩
  exact ⟨T, .int (i : Nat), x, h1, h2, h3, rfl, h4 xs q⟩
theorem walk_zipT {K : PySem.W.Frag} {a b : Addr} {xs ys : List V} {n : Nat} (hn : n = min xs.length ys.length) : Walk (RZ.ItzT K a b) n (fun H => SqT K H a xs ∧ SqT K H b ys) (YPair (fun i => xs[i]?) (fun i => ys[i]?)) := by
  subst hn
  refine ⟨?_, fun _ q => ⟨xs, ys, q.1, q.2, by omega⟩, ?_⟩
  · intro i _ hi q
    have h1 : i < xs.length := by omega
    have h2 : i < ys.length := by omega
    exact ⟨xs, ys, xs[i], ys[i], q.1, q.2, by simp [h1], by simp [h2]⟩
  · rintro i H v H' _ q ⟨T, x, z, h1, h2, h3, h4, h5⟩
    exact ⟨T, x, z, h1, h2, h3, h4 xs q.1, h5 ys q.2⟩

/-! enumerate(t) is made -/
theorem meets_enumT (l : Addr) (items : Array Value) (n : Nat) (dct : Option Addr) (sl : Array (Option Value)) :
    Meets (Builtin.«enumerate.__new__» ⟨[.type "enumerate", .ref l], []⟩) (fun _ R s => s.heap.get? l = some { cls := .type "tuple", dict := dct, data := .seq items n, slots := sl } ∧
      R (.ok (.ret (.ref (s.heap.push { cls := .type "tuple_iterator", data := .fields #[.ref l, .int 0 0] }).objs.size)))
        { s with heap := (s.heap.push { cls := .type "tuple_iterator", data := .fields #[.ref l, .int 0 0] }).push { cls := .type "enumerate", data := .fields #[.none, .bool false, .ref s.heap.objs.size, rawInt 0, .none, .none] } }) :=
  .of_wp fun prog w A R s h => by
    obtain ⟨hp, g, d, tk, os⟩ := s
    obtain ⟨hl, h⟩ := h
    have hsub := sub_enumerate
    have tup : Heap.IsTuple (Shared.heap ⟨hp, g, d, tk, os⟩) l items := ⟨_, hl, rfl, n, rfl⟩
    wp_walk using AutoSeq1.wpAny_loadPart' hl
    refine wpAny_stack_any fun st => wpAny_pure ?_
    split
    · rename_i c _ _ _ _ _
      cases (c == Value.type "enumerate")
      · wp_walk using AutoSeq1.wpAny_loadPart' hl, wpAny_pyIter_tuple tup
        exact ⟨_, rfl, h⟩
      · wp_walk using AutoSeq1.wpAny_loadPart' hl, wpAny_pyIter_tuple tup
        exact ⟨_, rfl, h⟩
    · wp_walk using AutoSeq1.wpAny_loadPart' hl, wpAny_pyIter_tuple tup
      exact ⟨_, rfl, h⟩
theorem call_enumT {prog : Program} {w : World} {A : Around} {E : Value → Shared → Prop} {s : Shared} {l : Addr} {items : Array Value} {Q : Value → Shared → Prop} (hL : s.heap.IsTuple l items)
    (h : ∀ h', IsEnum h' (s.heap.objs.size + 1) s.heap.objs.size 0 .none → h'.IsTupleIter s.heap.objs.size l 0 → (∀ b o, s.heap.get? b = some o → h'.get? b = some o) → Q (.ref (s.heap.objs.size + 1)) { s with heap := h' }) :
    wpAny (model prog w) A (call (.type "enumerate") [.ref l]) Q E s := by
  obtain ⟨⟨c, dct, dt, sl⟩, hl, hc, n, hd⟩ := hL
  dsimp only at hc hd
  subst hc hd
  refine callType_new F.called_enumerate (by decide) (F.typeCall_enumerate_1 _) (F.newCall_enumerate_1 _) (fun obj => F.args_object_init_2 obj _) F.entry_enumerate_new (meets_enumT l items n dct sl) ⟨hl, ?_⟩
  have hz : (s.heap.push { cls := .type "tuple_iterator", data := .fields #[.ref l, .int 0 0] }).objs.size = s.heap.objs.size + 1 := Heap.size_push ..
  show _ ∧ _
  rw [hz]
  have he : IsEnum ((s.heap.push { cls := .type "tuple_iterator", data := .fields #[.ref l, .int 0 0] }).push { cls := .type "enumerate", data := .fields #[.none, .bool false, .ref s.heap.objs.size, rawInt 0, .none, .none] }) (s.heap.objs.size + 1) s.heap.objs.size 0 .none := by
    have q := Heap.get?_push_size (s.heap.push { cls := .type "tuple_iterator", data := .fields #[.ref l, .int 0 0] }) (o := { cls := .type "enumerate", data := .fields #[.none, .bool false, .ref s.heap.objs.size, rawInt 0, .none, .none] }) rfl
    rw [hz] at q
    exact q
  exact ⟨⟨_, he, rfl⟩, h _ he ⟨_, Heap.get?_push_of_some _ (Heap.get?_push_size _ rfl), rfl, rfl⟩ (fun b o x => Heap.get?_push_of_some _ (Heap.get?_push_of_some _ x))⟩
def iEnumT (K : PySem.W.Frag) (ta : TA) : TI := fun σ H R => ta σ H fun vs H1 => ∃ a xs, vs = [.ref a] ∧ SqT K H1 a xs ∧ R (IteT K a) H1
theorem pi_enumT {X : Cx} {e : Expr} {ta : TA} {p pos tpos : Pos} {elts : List Expr} {kk : Nat} (hg : Gl X "enumerate") (hm : X.mg "enumerate" = none) (ha : PA X [e] ta) (hs : starEach [e] X.env = [(false, eval e X.env)] := by rfl) :
    PI X (.Tuple elts kk tpos) (.Call (.Name "enumerate" p) [e] [] pos) (iEnumT X.K ta) := by
  constructor
  intro pins s σ H R I h
  refine Call_ (ld_blt I hg hm boot_enumerate (PyProof.Rows.callWith_type1 (thn (ha.run pos pins s σ H _ I h) ?_) hs rfl))
  rintro us s1 ⟨vs, H1, I1, r1, a, xs, rfl, hq, q⟩
  obtain ⟨u, rfl, ru⟩ := vals1 r1
  cases ru
  obtain ⟨its, rv, p', hz⟩ := I1.tuple hq
  refine call_enumT (show s1.heap.IsTuple a its.toArray from p') ?_
  intro h' he hit hk
  refine wpAny_pyIter_enum he ?_
  have I2 : Inv X pins σ H1 { s1 with heap := h' } := I1.kept (t' := s1.toks) hk
  refine ⟨s1.heap.objs.size + 1, [s1.heap.objs.size + 1, s1.heap.objs.size], _, _, H1, rfl, I2, turn_enumT a (s1.heap.objs.size + 1) s1.heap.objs.size, ⟨⟨.none, he⟩, hit, Nat.succ_ne_self _⟩, ?_, q⟩
  intro b hb
  have two : b = s1.heap.objs.size + 1 ∨ b = s1.heap.objs.size := by simpa using hb
  have hle : s1.heap.objs.size ≤ b := by
    rcases two with rfl | rfl
    · exact Nat.le_succ _
    · exact Nat.le_refl _
  exact I1.fpOk hle (I1.hok.fresh hle)
end Bb
set_option Elab.async false
set_option linter.all false
set_option maxRecDepth 100000
set_option maxHeartbeats 2000000
namespace Bb
open PySem PySem.Spec PyProof.Rows L2
/-! lists of ints as data -/
theorem dp_ints {K : PySem.W.Frag} {H : Hp} : ∀ ns : List Int, DpAll K H (ns.map V.int) (ns.map PyData.int)
  | [] => .nil
  | n :: ns => .cons (.int n) (dp_ints ns)
theorem eqv_ints : ∀ ns ms : List Int, PyData.eqvAll (ns.map PyData.int) (ms.map PyData.int) = decide (ns = ms)
  | [], [] => rfl
  | [], m :: ms => by simp [PyData.eqvAll]
  | n :: ns, [] => by simp [PyData.eqvAll]
  | n :: ns, m :: ms => by
    have ih := eqv_ints ns ms
    simp only [List.map_cons, PyData.eqvAll, PyData.eqv, ih]
    by_cases h : n = m
    · subst h
      simp
    · simp [h]
theorem lay_ints : ∀ ns : List Int, PyData.canLayAll0 (ns.map PyData.int) = true
  | [] => rfl
  | n :: ns => by
    have ih := lay_ints ns
    simp [PyData.canLayAll0, PyData.canLay0, ih]
theorem depth_ints : ∀ ns : List Int, PyData.depthAll (ns.map PyData.int) = 0
  | [] => rfl
  | n :: ns => by
    have ih := depth_ints ns
    simp [PyData.depthAll, PyData.depth, ih]
theorem shaped_list (ns : List Int) : SeqAt.shaped (.list (ns.map PyData.int)) = true := by
  unfold SeqAt.shaped
  simp [PyData.canLay0, lay_ints, PyData.depth, depth_ints]
theorem shaped_tup (ns : List Int) : SeqAt.shaped (.tuple (ns.map PyData.int)) = true := by
  unfold SeqAt.shaped
  simp [PyData.canLay0, lay_ints, PyData.depth, depth_ints]
theorem show_ints : ∀ ns : List Int, (∀ n ∈ ns, n.natAbs < 10 ^ 18) → PyData.showableAll (ns.map PyData.int) = true
  | [], _ => rfl
  | n :: ns, h => by
    have ih := show_ints ns fun x hx => h x (List.mem_cons_of_mem _ hx)
    have h1 := h n List.mem_cons_self
    have h2 : n.natAbs.log2 < 1920 := by
      by_cases z : n.natAbs = 0
      · rw [z]
        decide
      · exact (Nat.log2_lt z).mpr (Nat.lt_of_lt_of_le h1 (by decide +kernel))
    simp [PyData.showableAll, PyData.showable, ih, h2]
theorem textFrom_le : ∀ (ts : List Str) (k : Nat) (acc : Str), (textFrom k acc ts).length ≤ acc.length + piled ts
  | [], k, acc => Nat.le_add_right _ _
  | t :: r, k, acc => by
    have ih := textFrom_le r (k + 1) (acc ++ (if k > 0 then ", " else "" : String) ++ t)
    show (textFrom (k + 1) (acc ++ (if k > 0 then ", " else "" : String) ++ t) r).length ≤ _
    rw [strLen_append, strLen_append] at ih
    rw [piled_cons]
    have e : (((if k > 0 then ", " else "" : String) : Str)).length ≤ 2 := by
      split <;> decide +kernel
    omega
theorem listText_le (ts : List Str) : (listText ts).length ≤ piled ts + 2 := by
  unfold listText
  rw [strLen_append]
  have h := textFrom_le ts 0 "["
  have e1 : (("[" : String) : Str).length = 1 := by decide +kernel
  have e2 : (("]" : String) : Str).length = 1 := by decide +kernel
  rw [e1] at h
  rw [e2]
  omega
theorem int_shown {i : Int} (h : i.natAbs < 10 ^ 18) : (PyData.int i).shown.length ≤ 19 := by
  have e := int_text_length_le10 (k := 18) (by decide) h
  show (Str.ofString (toString i)).length ≤ 19
  rw [PySem.ofString_length]
  exact e
theorem piled_ints : ∀ ns : List Int, (∀ n ∈ ns, n.natAbs < 10 ^ 18) → piled (PyData.shownAll (ns.map PyData.int)) ≤ 21 * ns.length
  | [], _ => Nat.le_refl _
  | n :: ns, h => by
    have ih := piled_ints ns fun x hx => h x (List.mem_cons_of_mem _ hx)
    have h1 := int_shown (h n List.mem_cons_self)
    rw [List.map_cons]
    show piled ((PyData.int n).shown :: PyData.shownAll (ns.map PyData.int)) ≤ _
    rw [piled_cons, List.length_cons]
    omega
/-- what repr asks of a list of ints -/
theorem repr_ints {K : PySem.W.Frag} {H : Hp} {a : Addr} {ns : List Int} {Q : VK} (h : SqL K H a (ns.map V.int)) (hr : ∀ n ∈ ns, n.natAbs < 10 ^ 18) (hl : ns.length ≤ 1000) (q : Q (.str (PyData.list (ns.map PyData.int)).shown) H) : rRepr K [.ref a] H Q := by
  refine ⟨_, .list (ns.map PyData.int), rfl, .lst h (dp_ints ns), show_ints ns hr, ?_, ?_, q⟩
  · show PyData.depthAll (ns.map PyData.int) + 1 ≤ 60
    rw [depth_ints]
    decide
  · have h1 := listText_le (PyData.shownAll (ns.map PyData.int))
    have h2 := piled_ints ns hr
    show (listText (PyData.shownAll (ns.map PyData.int))).length ≤ sizeLine
    rw [sizeLine_eq]
    omega
theorem repr_txt {K : PySem.W.Frag} {H : Hp} {z : Str} {Q : VK} (hz : (reprText z).length ≤ sizeLine) (q : Q (.str (PyData.str z).shown) H) : rRepr K [.str z] H Q :=
  ⟨_, .str z, rfl, .str z, rfl, Nat.zero_le _, hz, q⟩
/-! t + u, t[lo:hi] of tuples: some tuple, new or not -/
def rCatB (K : PySem.W.Frag) : R2 := fun x y H Q => ∃ a b xs ys, x = .ref a ∧ y = .ref b ∧ SqT K H a xs ∧ SqT K H b ys ∧ xs.length + ys.length ≤ sizeLine ∧ ∀ p H', Same H H' → SqT K H' p (xs ++ ys) → Q (.ref p) H'
theorem op_catB {X : Cx} : OpR X (binaryOp .Add) (rCatB X.K) := by
  intro pins s σ H x y v u Q I rx ry h
  obtain ⟨a, b, xs, ys, rfl, rfl, ha, hb, hz, q⟩ := h
  refine op_catA pins s σ H _ _ v u Q I rx ry ⟨a, b, xs, ys, rfl, rfl, ha, hb, hz, ?_, ?_, ?_⟩
  · rintro rfl
    exact q b H (Same.refl H) hb
  · rintro _ rfl
    exact q a H (Same.refl H) (by rw [List.append_nil]; exact ha)
  · intro _ _ p hp
    refine q p _ (fun c o e => ?_) (SqT.of upd_same)
    rw [upd_ne (ne_of_none e hp)]
    exact e
end Bb
set_option Elab.async false
set_option linter.all false
set_option maxRecDepth 100000
set_option maxHeartbeats 2000000
namespace Bb
open PySem PySem.Spec PyProof.Rows L2
/-! things of any kind as data, dicts with int keys too; Z: the addresses that may change -/
mutual
inductive Da (Z : Addr → Prop) (H : Hp) : V → PyData → Prop
  | non : Da Z H .non .none
  | bl (b : Bool) : Da Z H (.bl b) (.bool b)
  | int (i : Int) : Da Z H (.int i) (.int i)
  | str (x : Str) : Da Z H (.str x) (.str x)
  | lst {a : Addr} {xs : List V} {ds : List PyData} : H a = some (.lst xs) → ¬ Z a → DaAll Z H xs ds → Da Z H (.ref a) (.list ds)
  | tup {a : Addr} {xs : List V} {ds : List PyData} : H a = some (.tup xs) → ¬ Z a → DaAll Z H xs ds → Da Z H (.ref a) (.tuple ds)
  | d0 {a : Addr} : H a = some (.dK []) → ¬ Z a → Da Z H (.ref a) (.dict [])
  | d1 {a : Addr} {i j : Int} : H a = some (.dK [(Sum.inl i, .int j)]) → ¬ Z a → Da Z H (.ref a) (.dict [(.int i, .int j)])
inductive DaAll (Z : Addr → Prop) (H : Hp) : List V → List PyData → Prop
  | nil : DaAll Z H [] []
  | cons {v : V} {vs : List V} {d : PyData} {ds : List PyData} : Da Z H v d → DaAll Z H vs ds → DaAll Z H (v :: vs) (d :: ds)
end
/-- all stays but what Z names -/
def Keeps (Z : Addr → Prop) (H H' : Hp) : Prop := ∀ b o, H b = some o → (∀ xs, o ≠ .tbl xs) → ¬ Z b → H' b = some o
theorem Keeps.refl {Z : Addr → Prop} {H : Hp} : Keeps Z H H := fun _ _ e _ _ => e
theorem Keeps.trans {Z : Addr → Prop} {H H1 H2 : Hp} (a : Keeps Z H H1) (b : Keeps Z H1 H2) : Keeps Z H H2 := fun c o e t n => b c o (a c o e t n) t n
theorem Keeps.of {Z : Addr → Prop} {H H' : Hp} (s : Same H H') : Keeps Z H H' := fun b o e _ _ => s b o e
theorem Keeps.ext {Z : Addr → Prop} {H H' : Hp} (x : LamX.ExtN H H') : Keeps Z H H' := fun b o e n _ => x b o e n
section
variable {Z Z' : Addr → Prop} {H H' : Hp}
mutual
theorem Da.keep (k : Keeps Z H H') : ∀ (d : PyData) (v : V), Da Z H v d → Da Z H' v d
  | .none, _, h => by
    cases h
    exact .non
  | .bool b, _, h => by
    cases h
    exact .bl b
  | .int i, _, h => by
    cases h
    exact .int i
  | .str x, _, h => by
    cases h
    exact .str x
  | .list ds, _, h => by
    cases h with
    | lst e n a => exact .lst (k _ _ e (fun _ z => by cases z) n) n (DaAll.keep k ds _ a)
  | .tuple ds, _, h => by
    cases h with
    | tup e n a => exact .tup (k _ _ e (fun _ z => by cases z) n) n (DaAll.keep k ds _ a)
  | .dict _, _, h => by
    cases h with
    | d0 e n => exact .d0 (k _ _ e (fun _ z => by cases z) n) n
    | d1 e n => exact .d1 (k _ _ e (fun _ z => by cases z) n) n
theorem DaAll.keep (k : Keeps Z H H') : ∀ (ds : List PyData) (vs : List V), DaAll Z H vs ds → DaAll Z H' vs ds
  | [], _, h => by
    cases h
    exact .nil
  | d :: ds, _, h => by
    cases h with
    | cons a b => exact .cons (Da.keep k d _ a) (DaAll.keep k ds _ b)
end
mutual
/-- other addresses that may change: none of the data's -/
theorem Da.zed (n : ∀ b o, H b = some o → ¬ Z b → ¬ Z' b) : ∀ (d : PyData) (v : V), Da Z H v d → Da Z' H v d
  | .none, _, h => by
    cases h
    exact .non
  | .bool b, _, h => by
    cases h
    exact .bl b
  | .int i, _, h => by
    cases h
    exact .int i
  | .str x, _, h => by
    cases h
    exact .str x
  | .list ds, _, h => by
    cases h with
    | lst e z a => exact .lst e (n _ _ e z) (DaAll.zed n ds _ a)
  | .tuple ds, _, h => by
    cases h with
    | tup e z a => exact .tup e (n _ _ e z) (DaAll.zed n ds _ a)
  | .dict _, _, h => by
    cases h with
    | d0 e z => exact .d0 e (n _ _ e z)
    | d1 e z => exact .d1 e (n _ _ e z)
theorem DaAll.zed (n : ∀ b o, H b = some o → ¬ Z b → ¬ Z' b) : ∀ (ds : List PyData) (vs : List V), DaAll Z H vs ds → DaAll Z' H vs ds
  | [], _, h => by
    cases h
    exact .nil
  | d :: ds, _, h => by
    cases h with
    | cons a b => exact .cons (Da.zed n d _ a) (DaAll.zed n ds _ b)
end
theorem DaAll.len : ∀ {ds : List PyData} {vs : List V}, DaAll Z H vs ds → vs.length = ds.length
  | [], _, h => by
    cases h
    rfl
  | d :: ds, _, h => by
    cases h with
    | cons a b =>
      rw [List.length_cons, List.length_cons, b.len]
theorem DaAll.get : ∀ {ds : List PyData} {vs : List V}, DaAll Z H vs ds → ∀ {i : Nat} {v : V}, vs[i]? = some v → ∃ d, ds[i]? = some d ∧ Da Z H v d
  | [], _, h, i, v, e => by
    cases h
    simp at e
  | d :: ds, _, h, i, v, e => by
    cases h with
    | cons a b =>
      cases i with
      | zero =>
        have e' := Option.some.inj e
        subst e'
        exact ⟨d, rfl, a⟩
      | succ i =>
        obtain ⟨d', h1, h2⟩ := b.get (i := i) (v := v) (by simpa using e)
        exact ⟨d', by simpa using h1, h2⟩
theorem DaAll.app : ∀ {ds es : List PyData} {vs us : List V}, DaAll Z H vs ds → DaAll Z H us es → DaAll Z H (vs ++ us) (ds ++ es)
  | [], _, _, _, h, g => by
    cases h
    exact g
  | d :: ds, _, _, _, h, g => by
    cases h with
    | cons a b => exact .cons a (b.app g)
theorem DaAll.take : ∀ {ds : List PyData} {vs : List V}, DaAll Z H vs ds → ∀ n : Nat, DaAll Z H (vs.take n) (ds.take n)
  | [], _, h, n => by
    cases h
    simp
    exact .nil
  | d :: ds, _, h, n => by
    cases h with
    | cons a b =>
      cases n with
      | zero => exact .nil
      | succ n => exact .cons a (b.take n)
theorem DaAll.drop : ∀ {ds : List PyData} {vs : List V}, DaAll Z H vs ds → ∀ n : Nat, DaAll Z H (vs.drop n) (ds.drop n)
  | [], _, h, n => by
    cases h
    simp
    exact .nil
  | d :: ds, _, h, n => by
    cases h with
    | cons a b =>
      cases n with
      | zero => exact .cons a b
      | succ n => exact b.drop n
theorem DaAll.ints : ∀ ns : List Int, DaAll Z H (ns.map V.int) (ns.map PyData.int)
  | [] => .nil
  | n :: ns => .cons (.int n) (DaAll.ints ns)
end
/-! no list within -/
mutual
def noList : PyData → Bool
  | .list _ => false
  | .tuple ds => noLists ds
  | _ => true
def noLists : List PyData → Bool
  | [] => true
  | d :: ds => noList d && noLists ds
end
section
variable {Z : Addr → Prop} {X : Cx} {pins : List (Addr × Obj)} {σ : L2.St} {H : Hp} {s : Shared}
theorem dict_reads {a : Addr} {kvs : List (Int × Int)} (I : Inv X pins σ H s) (h : H a = some (.dK (kvs.map fun p => (Sum.inl p.1, V.int p.2)))) : ∃ as, Reads s.heap (.ref a) (.dict (kvs.map fun p => (PyData.int p.1, PyData.int p.2))) (a :: as) ∧ as = [] ∧ (a == sysModules) = false := by
  obtain ⟨_, hs, vs, kv, o, es, ep, ho, ex, hd, _, pr, _⟩ := dk_of I.hok h
  have key : ∀ (kvs : List (Int × Int)) (vs : List (Key × Value)) (es : List DictEntry), KV (kvs.map fun p => ((Sum.inl p.1 : Key), V.int p.2)) vs → Pairs (mixKind X.prog X.w) es vs →
      ReadsAll s.heap (es.map (·.key)) ((kvs.map fun p => (PyData.int p.1, PyData.int p.2)).map (·.1)) [] ∧ ReadsAll s.heap (es.map (·.val)) ((kvs.map fun p => (PyData.int p.1, PyData.int p.2)).map (·.2)) [] := by
    intro kvs
    induction kvs with
    | nil =>
      intro vs es h1 h2
      cases h1
      cases h2
      exact ⟨.nil, .nil⟩
    | cons p kvs ih =>
      intro vs es h1 h2
      cases h1 with
      | cons e r =>
        cases h2 with
        | cons k v t =>
          obtain ⟨i1, i2⟩ := ih _ _ r t
          obtain ⟨e1, tk, e2⟩ := e
          dsimp only at e1 e2
          rw [← e1] at k
          have k' : keyIs (Sum.inl p.1) _ = true := k
          rcases keyIs_shape k' with ⟨i, t', q1, q2⟩ | ⟨x, t', q1, q2⟩
          · injection q1 with q1
            subst q1
            refine ⟨?_, ?_⟩
            · rw [List.map_cons, q2]
              exact ReadsAll.cons (as := []) (Reads.int _ _) i1
            · rw [List.map_cons, v, e2]
              exact ReadsAll.cons (as := []) (Reads.int _ _) i2
          · cases q1
  obtain ⟨r1, r2⟩ := key kvs vs es.toList kv pr
  exact ⟨[], Reads.dict ho ex.1 hd r1 r2, rfl, hs⟩
mutual
theorem Da.reads (I : Inv X pins σ H s) : ∀ (d : PyData) (v : V) (u : Value), Da Z H v d → RelV v u → ∃ as, Reads s.heap u d as ∧ (noList d = true → ∀ b ∈ as, (b == sysModules) = false)
  | .none, _, _, h, r => by
    cases h
    cases r
    exact ⟨_, Reads.none, fun _ b hb => by cases hb⟩
  | .bool b, _, _, h, r => by
    cases h
    cases r
    exact ⟨_, Reads.bool b, fun _ b hb => by cases hb⟩
  | .int i, _, _, h, r => by
    cases h
    obtain ⟨t, rfl⟩ := r
    exact ⟨_, Reads.int i t, fun _ b hb => by cases hb⟩
  | .str x, _, _, h, r => by
    cases h
    obtain ⟨t, rfl⟩ := r
    exact ⟨_, Reads.str x t, fun _ b hb => by cases hb⟩
  | .list ds, _, _, h, r => by
    cases h with
    | lst hs _ ha =>
      cases r
      obtain ⟨its, rv, ⟨o, n, ho, hc, _, hd⟩, _⟩ := I.list (SqL.of hs)
      obtain ⟨as, hr, _⟩ := DaAll.reads I ds _ its ha rv
      exact ⟨_, Reads.list ho hc hd hr, fun z => by
        unfold noList at z
        cases z⟩
  | .tuple ds, _, _, h, r => by
    cases h with
    | tup hs _ ha =>
      cases r
      obtain ⟨its, rv, ⟨o, ho, hc, n, hd⟩, _⟩ := I.tuple (SqT.of hs)
      obtain ⟨as, hr, q⟩ := DaAll.reads I ds _ its ha rv
      exact ⟨_, Reads.tuple ho hc hd hr, fun z => q (by unfold noList at z; exact z)⟩
  | .dict _, _, _, h, r => by
    cases h with
    | d0 e _ =>
      cases r
      obtain ⟨as, h1, h2, h3⟩ := dict_reads (kvs := []) I e
      subst h2
      exact ⟨_, h1, fun _ b hb => by
        rw [List.mem_singleton.mp hb]
        exact h3⟩
    | @d1 _ i j e _ =>
      cases r
      obtain ⟨as, h1, h2, h3⟩ := dict_reads (kvs := [(i, j)]) I e
      subst h2
      exact ⟨_, h1, fun _ b hb => by
        rw [List.mem_singleton.mp hb]
        exact h3⟩
theorem DaAll.reads (I : Inv X pins σ H s) : ∀ (ds : List PyData) (vs : List V) (us : List Value), DaAll Z H vs ds → Vals vs us → ∃ as, ReadsAll s.heap us ds as ∧ (noLists ds = true → ∀ b ∈ as, (b == sysModules) = false)
  | [], _, _, h, r => by
    cases h
    cases r
    exact ⟨_, ReadsAll.nil, fun _ b hb => by cases hb⟩
  | d :: ds, _, _, h, r => by
    cases h with
    | cons h1 h2 =>
      cases r with
      | cons r1 r2 =>
        obtain ⟨as, q1, n1⟩ := Da.reads I d _ _ h1 r1
        obtain ⟨bs, q2, n2⟩ := DaAll.reads I ds _ _ h2 r2
        refine ⟨_, ReadsAll.cons q1 q2, fun z b hb => ?_⟩
        unfold noLists at z
        rw [Bool.and_eq_true] at z
        rcases List.mem_append.mp hb with m | m
        · exact n1 z.1 b m
        · exact n2 z.2 b m
end
end
mutual
theorem Da.dp {K : PySem.W.Frag} {Z : Addr → Prop} {H : Hp} : ∀ (d : PyData) (v : V), Da Z H v d → d.hasDict = false → Dp K H v d
  | .none, _, h, _ => by
    cases h
    exact .non
  | .bool b, _, h, _ => by
    cases h
    exact .bl b
  | .int i, _, h, _ => by
    cases h
    exact .int i
  | .str x, _, h, _ => by
    cases h
    exact .str x
  | .list ds, _, h, n => by
    cases h with
    | lst e _ a =>
      unfold PyData.hasDict at n
      exact .lst (SqL.of e) (DaAll.dp ds _ a n)
  | .tuple ds, _, h, n => by
    cases h with
    | tup e _ a =>
      unfold PyData.hasDict at n
      exact .tup (SqT.of e) (DaAll.dp ds _ a n)
  | .dict _, _, _, n => by
    unfold PyData.hasDict at n
    cases n
theorem DaAll.dp {K : PySem.W.Frag} {Z : Addr → Prop} {H : Hp} : ∀ (ds : List PyData) (vs : List V), DaAll Z H vs ds → PyData.hasDictAll ds = false → DpAll K H vs ds
  | [], _, h, _ => by
    cases h
    exact .nil
  | d :: ds, _, h, n => by
    cases h with
    | cons a b =>
      unfold PyData.hasDictAll at n
      rw [Bool.or_eq_false_iff] at n
      exact .cons (Da.dp d _ a n.1) (DaAll.dp ds _ b n.2)
end
/-! repr of any such thing, where no repr is under way -/
def rReprA : List V → Hp → VK → Prop := fun xs H Q => ∃ (Z : Addr → Prop) (x : V) (d : PyData), xs = [x] ∧ Da Z H x d ∧ (d.hasDict = true → noList d = true) ∧ d.showable = true ∧ d.depth ≤ 60 ∧ d.shown.length ≤ sizeLine ∧ Q (.str d.shown) H
theorem call_reprA {X : Cx} (hg : X.A.guards = some []) (hu : X.A.units + 64 < cLine) : CallR X (.builtin "repr") rReprA := by
  intro pins s σ H xs us Q I r h
  obtain ⟨Z, x, d, rfl, hd, hn, hs, hde, hz, q⟩ := h
  obtain ⟨u, rfl, ru⟩ := vals1 r
  obtain ⟨as, rd, no⟩ := Da.reads I d x u hd ru
  have hsm : d.hasDict = true → sysModules ∉ as := fun z m => by
    have q := no (hn z) _ m
    simp at q
  cases hd with
  | non =>
    cases ru
    exact PySem.P.repr_of_none ⟨.str _, H, I.tok _, ⟨_, rfl⟩, q⟩
  | bl b =>
    cases ru
    exact PySem.P.repr_of_bool ⟨.str _, H, I.tok _, ⟨_, rfl⟩, q⟩
  | int i =>
    obtain ⟨t, rfl⟩ := ru
    exact PySem.P.repr_of_int (of_decide_eq_true hs) ⟨.str _, H, I.tok _, ⟨_, rfl⟩, q⟩
  | str z =>
    obtain ⟨t, rfl⟩ := ru
    exact PySem.P.repr_of_str ⟨.str _, H, I.tok _, ⟨_, rfl⟩, q⟩ hz
  | lst h1 _ h2 =>
    cases ru
    exact repr_of_reads' rd hs hsm hg (by omega) (fun _ _ e => e) (fun h' u' tk k => ⟨.str _, H, I.kept k, ⟨_, rfl⟩, q⟩) hz
  | tup h1 _ h2 =>
    cases ru
    exact repr_of_reads' rd hs hsm hg (by omega) (fun _ _ e => e) (fun h' u' tk k => ⟨.str _, H, I.kept k, ⟨_, rfl⟩, q⟩) hz
  | d0 h1 _ =>
    cases ru
    exact repr_of_reads' rd hs hsm hg (by omega) (fun _ _ e => e) (fun h' u' tk k => ⟨.str _, H, I.kept k, ⟨_, rfl⟩, q⟩) hz
  | d1 h1 _ =>
    cases ru
    exact repr_of_reads' rd hs hsm hg (by omega) (fun _ _ e => e) (fun h' u' tk k => ⟨.str _, H, I.kept k, ⟨_, rfl⟩, q⟩) hz
end Bb
set_option Elab.async false
set_option linter.all false
set_option maxRecDepth 100000
set_option maxHeartbeats 2000000
namespace Bb
open PySem PySem.Spec PyProof.Rows L2
open Builtin
/-! {x!r} of any such thing -/
section
variable {X : Cx}
def tFmtA (te : TE) : TE := fun σ H Q => te σ H fun x H1 => ∃ (Z : Addr → Prop) (d : PyData), Da Z H1 x d ∧ (d.hasDict = true → noList d = true) ∧ d.showable = true ∧ d.depth ≤ 60 ∧ d.shown.length ≤ sizeLine ∧ Q (.str d.shown) H1
theorem pe_fmtA {e : Expr} {te : TE} {pos : Pos} (hg : X.A.guards = some []) (hu : X.A.units + 64 < cLine) (he : PE X e te) : PE X (.FormattedValue e 114 none pos) (tFmtA te) := by
  refine ⟨fun pins s σ H Q I h => ?_⟩
  refine wpAny_FormattedValue_repr (thn (he.run pins s σ H _ I h) fun v s1 hv => ?_)
  obtain ⟨x, H1, I1, r1, Z, d, hd, hn, hs, hde, hz, q⟩ := hv
  obtain ⟨as, rd, no⟩ := Da.reads I1 d x v hd r1
  have hsm : d.hasDict = true → sysModules ∉ as := fun z m => by
    have q := no (hn z) _ m
    simp at q
  have fin : ∀ {s2 : Shared} {u : Tok}, Inv X pins σ H1 s2 → Inv X pins σ H1 { s2 with toks := s2.toks + 1 } → wpAny (model X.prog X.w) X.A (formatField (.str d.shown u) Str.empty) (EP X pins σ Q) X.xe s2 := fun {s2 u} I2 I3 =>
    wpAny_formatField_str ⟨.str d.shown, H1, I2, ⟨_, rfl⟩, q⟩ ⟨.str d.shown, H1, I3, ⟨_, rfl⟩, q⟩ hz
  cases hd with
  | non =>
    cases r1
    exact pyReprObj_none (fin (I1.tok _) (I1.tok _))
  | bl b =>
    cases r1
    exact pyReprObj_bool (fin (I1.tok _) (I1.tok _))
  | int i =>
    obtain ⟨t, rfl⟩ := r1
    exact pyReprObj_int (of_decide_eq_true hs) (fin (I1.tok _) (I1.tok _))
  | str z =>
    obtain ⟨t, rfl⟩ := r1
    exact pyReprObj_str (fin (I1.tok _) (I1.tok _)) hz
  | lst h1 _ h2 =>
    cases r1
    exact pyReprObj_of_reads rd hs hsm hg (by omega) (fun _ _ e => e) (fun h' u tk k => fin (I1.kept k) ((I1.kept (t' := tk) k).tok _)) hz
  | tup h1 _ h2 =>
    cases r1
    exact pyReprObj_of_reads rd hs hsm hg (by omega) (fun _ _ e => e) (fun h' u tk k => fin (I1.kept k) ((I1.kept (t' := tk) k).tok _)) hz
  | d0 h1 _ =>
    cases r1
    exact pyReprObj_of_reads rd hs hsm hg (by omega) (fun _ _ e => e) (fun h' u tk k => fin (I1.kept k) ((I1.kept (t' := tk) k).tok _)) hz
  | d1 h1 _ =>
    cases r1
    exact pyReprObj_of_reads rd hs hsm hg (by omega) (fun _ _ e => e) (fun h' u tk k => fin (I1.kept k) ((I1.kept (t' := tk) k).tok _)) hz
/-! a context in which no repr is under way, one level within -/
theorem in1_guards {A : Around} (h : A.guards = some []) : A.in1.guards = some [] := h
/-! repr of an own instance, by its own __repr__ -/
theorem call_reprOwn {CX : CXT} {C f : Addr} {fd : FuncData} {ps : List Str} {sp : Sp} {k : Nat} {E : XK} (F : FnG X.prog X.w X.K X.mg X.base CX k f fd ps sp) (gd : X.A.guards = some []) (hr : Room (k + 1) X.A) (hs : PySem.W.findIn X.K (.ref C) "__repr__" = some (some (.ref f))) (hf : PySem.W.isFn X.K (.ref f) = true)
    (hb : Binds X.K fd ps []) (hx : Passes CX X E) :
    CallR X (.builtin "repr") (fun xs H Q => ∃ a dx fs, xs = [.ref a] ∧ H a = some (.ins C dx fs) ∧ sp [.ref a] H (fun v H' => ∃ z : Str, v = .str z ∧ Q (.str z) H') E) := by
  intro pins s σ H xs us Q I r h
  obtain ⟨a, dx, fs, rfl, ha, hsp⟩ := h
  obtain ⟨u, rfl, ru⟩ := vals1 r
  cases ru
  obtain ⟨mA, J, _⟩ := ins_get I.hok ha
  obtain ⟨od, J, _⟩ := J.look
  have un := hr.units
  refine Calls.call_function_entry PySem.F.kind_repr PySem.F.plain_repr PySem.F.entry_repr (PySem.F.args_repr1 _) ?_
  unfold Builtin.«repr»
  refine wpAny_bind (m := oneArg "repr" _) (wpAny_pure ?_)
  refine wpAny_bind (m := cRoomFor _ _) (wpAny_cRoomFor (by show X.A.units + 1 < cLine; omega) ?_)
  refine wpAny_bind (wpAny_bind (J.type.here ((PySem.W.looks_findIn I.kIn hs).here ?_)))
  refine wpAny_bind (m := callSpecialIfBound? (.ref a) (Str.ofString "__repr__")) (PySem.W.ifBound_K (args := []) I.kIn J hs hf ?_)
  have hl := F.args _ _ _ _ hsp
  have bnd := hb s [.ref a] I.kIn (by simpa using hl)
  rw [List.append_nil] at bnd
  refine wpAny_call (codeAny_mono (F.go X.A.in1 X.stack s H ⟨[.ref a], []⟩ [.ref a] [.ref a] _ E (in1_guards gd) hr.in1 I.env0.in1 bnd (.cons rfl .nil) hsp) ?_)
  rintro (er | fl) s' hq
  · exact hx pins σ H s er s' I hq
  · cases fl with
    | ret w' =>
      obtain ⟨z, H', I', rz, n, rfl, q⟩ := I.after hq
      obtain ⟨t, rfl⟩ := rz
      refine wpAny_bind (wpAny_isInstance (T := "str") (b := true) rfl isSubtype_str_str ?_)
      exact wpAny_pure ⟨_, rfl, .str n, H', I', ⟨_, rfl⟩, q⟩
    | next => exact hq.elim
    | brk => exact hq.elim
    | cont => exact hq.elim
end
end Bb
set_option Elab.async false
set_option linter.all false
set_option maxRecDepth 100000
set_option maxHeartbeats 2000000
namespace Bb
open PySem PySem.Spec PyProof.Rows L2
open Builtin
/-! ==, != of an own instance and any such thing -/
def tyNames : List String := ["NoneType", "bool", "int", "str", "list", "tuple", "dict"]
theorem da_looks {M : Model} {X : Cx} {pins : List (Addr × Obj)} {σ : L2.St} {H : Hp} {s : Shared} {Z : Addr → Prop} {x : V} {d : PyData} {u : Value} (I : Inv X pins σ H s) (h : Da Z H x d) (r : RelV x u) : ∃ n, PySem.W.Looks M s.heap (typeOf u) (.type n) ∧ n ∈ tyNames := by
  have ref : ∀ {a : Addr} {o : Obj} {n : String}, s.heap.get? a = some o → o.cls = .type n → PySem.W.Looks M s.heap (typeOf (.ref a)) (.type n) := fun {a o n} e c A Q E s' k q => wpAny_typeOf (v := .ref a) ⟨o, k _ _ e, c⟩ q
  cases h with
  | non =>
    cases r
    exact ⟨_, PySem.W.Looks.of_pure rfl, by decide⟩
  | bl b =>
    cases r
    exact ⟨_, PySem.W.Looks.of_pure rfl, by decide⟩
  | int i =>
    obtain ⟨t, rfl⟩ := r
    exact ⟨_, PySem.W.Looks.of_pure rfl, by decide⟩
  | str z =>
    obtain ⟨t, rfl⟩ := r
    exact ⟨_, PySem.W.Looks.of_pure rfl, by decide⟩
  | lst e _ _ =>
    cases r
    obtain ⟨its, rv, ⟨o, n, ho, hc, _, hd⟩, _⟩ := I.list (SqL.of e)
    exact ⟨_, ref ho hc, by decide⟩
  | tup e _ _ =>
    cases r
    obtain ⟨its, rv, ⟨o, ho, hc, n, hd⟩, _⟩ := I.tuple (SqT.of e)
    exact ⟨_, ref ho hc, by decide⟩
  | d0 e _ =>
    cases r
    obtain ⟨_, hs, vs, kv, o, es, ep, ho, ex, _⟩ := dk_of I.hok e
    exact ⟨_, ref ho ex.1, by decide⟩
  | d1 e _ =>
    cases r
    obtain ⟨_, hs, vs, kv, o, es, ep, ho, ex, _⟩ := dk_of I.hok e
    exact ⟨_, ref ho ex.1, by decide⟩
/-- a value of a built-in type: data, or a list of anything -/
def Bt (H : Hp) (v : V) : Prop := (∃ (Z : Addr → Prop) (d : PyData), Da Z H v d) ∨ ∃ (a : Addr) (xs : List V), v = .ref a ∧ H a = some (.lst xs)
theorem bt_looks {M : Model} {X : Cx} {pins : List (Addr × Obj)} {σ : L2.St} {H : Hp} {s : Shared} {x : V} {u : Value} (I : Inv X pins σ H s) (h : Bt H x) (r : RelV x u) : ∃ n, PySem.W.Looks M s.heap (typeOf u) (.type n) ∧ n ∈ tyNames := by
  rcases h with ⟨Z, d, h⟩ | ⟨a, xs, rfl, e⟩
  · exact da_looks I h r
  · cases r
    obtain ⟨its, rv, ⟨o, n, ho, hc, _, hd⟩, _⟩ := I.list (SqL.of e)
    exact ⟨_, fun A Q E s' k q => wpAny_typeOf (v := .ref a) ⟨o, k _ _ ho, hc⟩ q, by decide⟩
theorem not_sub {K : PySem.W.Frag} {C : Addr} {n : String} (h : n ∈ tyNames) : PySem.W.subIn K (.type n) (.ref C) = some false := by
  simp only [tyNames, List.mem_cons, List.not_mem_nil, or_false] at h
  rcases h with rfl | rfl | rfl | rfl | rfl | rfl | rfl <;> rfl
theorem not_first {K : PySem.W.Frag} {C : Addr} {n : String} (h : n ∈ tyNames) : PySem.W.notFirst K C (.type n) = true := by
  unfold PySem.W.notFirst
  rw [not_sub h]
  simp
section
variable {X : Cx} {CX : CXT} {C f : Addr} {fd : FuncData} {ps : List Str} {sp : Sp} {k : Nat} {E : XK}
theorem op_eqOwnX (F : FnOk X.prog X.w X.K X.mg X.base CX k f fd ps sp) (hr : Room k X.A) (he : PySem.W.findIn X.K (.ref C) "__eq__" = some (some (.ref f))) (hf : PySem.W.isFn X.K (.ref f) = true)
    (hb : Binds X.K fd ps []) (hx : Passes CX X E) :
    OpR X (compareOp .Eq) (fun x y H Q => ∃ (a dx : Addr) (fs : List (Str × V)), x = .ref a ∧ H a = some (.ins C dx fs) ∧ Bt H y ∧ sp [.ref a, y] H (fun v H' => ∃ t, v = .bl t ∧ Q (.bl t) H') E) := by
  intro pins s σ H x y v u Q I rx ry h
  obtain ⟨a, dx, fs, rfl, ha, hd, hsp⟩ := h
  cases rx
  obtain ⟨mA, J, _⟩ := ins_get I.hok ha
  obtain ⟨od, J, _⟩ := J.look
  obtain ⟨n, lk, hn⟩ := bt_looks (M := model X.prog X.w) I hd ry
  obtain ⟨m, hF⟩ := I.fr
  show wpAny (model X.prog X.w) X.A (richCompare .Eq (.ref a) u) _ _ _
  refine PySem.W.cmp_K (op := .Eq) (tb := .type n) hr.units0 hF I.ok.mod.kin J lk (not_first hn) he hf ?_
  have hl := F.len _ _ _ _ hsp
  have bnd := hb s [.ref a, u] I.kIn (by simpa using hl)
  rw [List.append_nil] at bnd
  refine wpAny_call (codeAny_mono (F.run X.A X.stack s H ⟨[.ref a, u], []⟩ [.ref a, u] [.ref a, y] _ E hr I.env0 bnd (.cons rfl (.cons ry .nil)) hsp) ?_)
  rintro (er | fl) s' hq
  · exact hx pins σ H s er s' I hq
  · cases fl with
    | ret w' =>
      obtain ⟨z, H', I', rz, t, rfl, q⟩ := I.after hq
      cases rz
      exact ⟨.bl t, H', I', rfl, q⟩
    | next => exact hq.elim
    | brk => exact hq.elim
    | cont => exact hq.elim
end
namespace Ne
open PySem.W PySem.Calls
section
variable {prog : Program} {w : World} {A : Around} {E : Value → Shared → Prop} {s : Shared} {K : Frag} {x C f : Addr} {ox : Obj} {od : Option Obj}
theorem obj_neX {v : Value} {tb : Value} {Q : Value → Shared → Prop} (X : K.In s.heap) (I : InstAt s.heap x ox C od) (J : Looks (model prog w) s.heap (typeOf v) tb) (htb : tb ≠ .ref C) (hn1 : subIn K tb (.ref C) = some false) (hu : A.units + 1 < cLine) (he : findIn K (.ref C) "__eq__" = some (some (.ref f))) (hf : isFn K (.ref f) = true)
    (hn : findIn K (.ref C) "__ne__" = some (some (.builtin "object.__ne__"))) (hsub : subIn K (.ref C) (.type "object") = some true)
    (h : wpAny (model prog w) A.in1 (call (.ref f) [.ref x, v]) (fun r s' => ∃ b, r = .bool b ∧ Q (.bool (!b)) s') E s) : wpAny (model prog w) A (compareOp .NotEq (.ref x) v) Q E s := by
  obtain ⟨hp, g, d, tk, os⟩ := s
  have isO : Looks (model prog w) hp (isInstance (.ref x) (.type "object")) true := I.type.andThen (looks_subIn X hsub)
  -- object.__ne__(x, y)
  have slot : wpAny (model prog w) A (call (.builtin "object.__ne__") [.ref x, v]) (fun r s' => ∃ b, r = .bool b ∧ Q (.bool b) s') E ⟨hp, g, d, tk, os⟩ := by
    refine wpAny_call (codeAny_call_builtin (by decide +kernel) F.cmpEntry_ne ?_)
    refine @check_slot (model prog w) _ _ ⟨hp, g, d, tk, os⟩ "object.__ne__" "object" "__ne__" (.ref x) [v] [] _ F.cmpKind_ne F.cmpSplit_ne isO (F.cmpArgs_ne _ _) ?_
    unfold Builtin.«object.__ne__»
    have eqc : ∀ {R : Option Value → Shared → Prop} {E' : Value → Shared → Prop}, wpAny (model prog w) A.in1 (call (.ref f) [.ref x, v]) (fun v => R (some v)) E' ⟨hp, g, d, tk, os⟩ →
        wpAny (model prog w) A.in1 (callSpecialIfBound? (.ref x) (Str.ofString "__eq__") [v]) R E' ⟨hp, g, d, tk, os⟩ := fun z => ifBound_K X I he hf z
    have rest : ∀ (r0 : Value) (s' : Shared), (∃ b, r0 = .bool b ∧ Q (.bool (!b)) s') → wpAny (model prog w) A.in1 (match some r0 with | some Value.notImplemented => ret .notImplemented | none => ret .notImplemented | some r => do ret (.bool (!(← truthy r))))
        (fun fin s' => match fin with
          | .done f => wants (fun v s' => ∃ b, v = Value.bool b ∧ Q (Value.bool b) s') E (.ok f) s'
          | .again c' => c'.quiet = true ∧ codeAny (model prog w) A c' (wants (fun v s' => ∃ b, v = Value.bool b ∧ Q (Value.bool b) s') E) s') (fun e s' => wants (fun v s' => ∃ b, v = Value.bool b ∧ Q (Value.bool b) s') E (.error e) s') s' := by
      rintro v s' ⟨b, rfl, hq⟩
      refine wpAny_bind (wpAny_truthy_bool (wpAny_pure ?_))
      exact ⟨!b, rfl, hq⟩
    repeat (first
      | with_reducible refine wpAny_cRoomFor hu ?_
      | exact wpAny_bind (m := callSpecialIfBound? (.ref x) (Str.ofString "__eq__") [v]) (eqc (wpAny_mono h (fun v s' hv => rest v s' hv) fun _ _ e => e))
      | wp_step)
  have bs : bindSpecial (.builtin "object.__ne__") (.ref x) = pure (.builtin "object.__ne__", [.ref x]) := by
    unfold bindSpecial
    rw [wrap_ty]
    rfl
  have two : wpAny (model prog w) A (callSpecialIfBound? (.ref x) (Str.ofString "__ne__") [v]) (fun r s' => ∃ b, r = some (Value.bool b) ∧ Q (Value.bool b) s') E ⟨hp, g, d, tk, os⟩ := by
    simp only [callSpecialIfBound?, bindSpecialIfBound?]
    refine wpAny_holding (wpAny_bind (wpAny_bind (wpAny_bind (I.type.here ((looks_findIn X hn).here ?_)))))
    refine wpAny_bind (wpAny_askSetting (wpAny_ite ?_))
    have fin : wpAny (model prog w) A (call (.builtin "object.__ne__") ([.ref x] ++ [v]) >>= fun v => pure (some v)) (fun r s' => ∃ b, r = some (Value.bool b) ∧ Q (Value.bool b) s') E ⟨hp, g, d, tk, os⟩ := by
      refine wpAny_bind (wpAny_mono slot ?_ fun _ _ e => e)
      rintro v s' ⟨b, rfl, hq⟩
      exact wpAny_pure ⟨b, rfl, hq⟩
    split
    · rw [bs]
      exact wpAny_bind (wpAny_pure (wpAny_pure (by exact fin)))
    · rw [bs]
      exact wpAny_tryCatch (wpAny_bind (wpAny_pure (wpAny_pure (by exact fin))))
  have one : wpAny (model prog w) A (tryCompare (.ref x) (Str.ofString "__ne__") v) (fun r s' => ∃ v, r = some v ∧ Q v s') E ⟨hp, g, d, tk, os⟩ := by
    unfold tryCompare
    refine wpAny_bind (wpAny_mono two ?_ fun _ _ e => e)
    rintro r s' ⟨b, rfl, hq⟩
    exact wpAny_pure ⟨_, rfl, hq⟩
  show wpAny (model prog w) A (richCompare .NotEq (.ref x) v) Q E _
  unfold richCompare
  simp only [oneThing_ref]
  refine wpAny_holding (wpAny_bind (wpAny_cRoomFor (Nat.lt_of_succ_lt hu) ?_))
  refine wpAny_bind (I.type.here (wpAny_bind (J.here ?_)))
  rw [show (Value.ref C != tb) = true from bne_iff_ne.mpr (Ne.symm htb)]
  simp only [if_true]
  refine wpAny_bind ((looks_subIn X hn1).here ?_)
  simp only [Bool.false_eq_true, if_false]
  refine wpAny_bind (wpAny_mono one ?_ fun _ _ e => e)
  rintro r s' ⟨v, rfl, hq⟩
  exact wpAny_pure hq
end
end Ne
section
variable {X : Cx} {CX : CXT} {C f : Addr} {fd : FuncData} {ps : List Str} {sp : Sp} {k : Nat} {E : XK}
theorem op_neOwnX (F : FnOk X.prog X.w X.K X.mg X.base CX k f fd ps sp) (hr : Room (k + 1) X.A) (he : PySem.W.findIn X.K (.ref C) "__eq__" = some (some (.ref f))) (hf : PySem.W.isFn X.K (.ref f) = true)
    (hn : PySem.W.findIn X.K (.ref C) "__ne__" = some (some (.builtin "object.__ne__"))) (hsub : PySem.W.subIn X.K (.ref C) (.type "object") = some true) (hb : Binds X.K fd ps []) (hx : Passes CX X E) :
    OpR X (compareOp .NotEq) (fun x y H Q => ∃ (a dx : Addr) (fs : List (Str × V)), x = .ref a ∧ H a = some (.ins C dx fs) ∧ Bt H y ∧ sp [.ref a, y] H (fun v H' => ∃ t, v = .bl t ∧ Q (.bl (!t)) H') E) := by
  intro pins s σ H x y v u Q I rx ry h
  obtain ⟨a, dx, fs, rfl, ha, hd, hsp⟩ := h
  cases rx
  obtain ⟨mA, J, _⟩ := ins_get I.hok ha
  obtain ⟨od, J, _⟩ := J.look
  obtain ⟨n, lk, hin⟩ := bt_looks (M := model X.prog X.w) I hd ry
  have un := hr.units
  refine Ne.obj_neX I.kIn J lk (fun z => by cases z) (not_sub hin) (by omega) he hf hn hsub ?_
  have hl := F.len _ _ _ _ hsp
  have bnd := hb s [.ref a, u] I.kIn (by simpa using hl)
  rw [List.append_nil] at bnd
  refine wpAny_call (codeAny_mono (F.run X.A.in1 X.stack s H ⟨[.ref a, u], []⟩ [.ref a, u] [.ref a, y] _ E hr.in1 I.env0.in1 bnd (.cons rfl (.cons ry .nil)) hsp) ?_)
  rintro (er | fl) s' hq
  · exact hx pins σ H s er s' I hq
  · cases fl with
    | ret w' =>
      obtain ⟨z, H', I', rz, t, rfl, q⟩ := I.after hq
      cases rz
      exact ⟨t, rfl, .bl (!t), H', I', rfl, q⟩
    | next => exact hq.elim
    | brk => exact hq.elim
    | cont => exact hq.elim
end
end Bb
set_option Elab.async false
set_option linter.all false
set_option maxRecDepth 100000
set_option maxHeartbeats 2000000
namespace Bb
namespace Co
open PySem PySem.SeqAt
open AutoSeq1 (wpAny_loadPart')
open MeetsSeq MeetsSeq2 MeetsSeq3 SeqRoads2
section
variable {prog : Program} {w : World} {A : Around} {R : Result → Shared → Prop}
/-- list.__contains__ where == may be a def's -/
theorem contains_loopG (l : Addr) (items : Array Value) (x : Value) (I : Nat → Shared → Prop) (hl : ∀ i s, I i s → ∃ n, s.heap.get? l = some { cls := .type "list", data := .seq items n })
    (turn : ∀ i (h : i < items.size) s, I i s → wpAny (model prog w) A.in1 (eqBool items[i] x) (fun r s' => (r = true → R (.ok (.ret (.bool true))) s') ∧ (r = false → I (i + 1) s')) (fun e s' => R (.error e) s') s)
    (fin : ∀ s, I items.size s → R (.ok (.ret (.bool false))) s) (k : Nat) :
    ∀ i : Nat, items.size - i = k → i ≤ items.size → ∀ s, I i s →
      wpAny (model prog w) A.in1 (Builtin.«list.__contains__.loop» ⟨[.ref l, x, rawInt i], []⟩) (GQ.FinOf prog w A R) (fun e s' => R (.error e) s') s := by
  induction k with
  | zero =>
    intro i hk hi s h
    obtain ⟨n, hl1⟩ := hl _ _ h
    have hi' : i = items.size := by omega
    have hR : R (.ok (.ret (.bool false))) s := fin s (hi' ▸ h)
    obtain ⟨hp, g, d, tk, os⟩ := s
    wp_walk using wpAny_loadPart' hl1
    have hi1 : items[((i : Nat) : Int).toNat]? = none := by simp; omega
    rw [hi1]
    wp_walk using wpAny_loadPart' hl1
    exact hR
  | succ k ih =>
    intro i hk hi s h
    obtain ⟨n, hl1⟩ := hl _ _ h
    have hlt : i < items.size := by omega
    have ht := turn i hlt s h
    obtain ⟨hp, g, d, tk, os⟩ := s
    wp_walk using wpAny_loadPart' hl1
    have hi1 : items[((i : Nat) : Int).toNat]? = some items[i] := by simp [hlt]
    have hc : ((i : Int) + 1) = ((i + 1 : Nat) : Int) := by omega
    rw [hi1]
    refine wpAny_bind (wpAny_mono ht (fun r s2 h2 => ?_) fun _ _ x => x)
    cases r with
    | true =>
      have h3 := h2.1 rfl
      obtain ⟨hp2, g2, d2, tk2, os2⟩ := s2
      wp_walk
      exact h3
    | false =>
      have hrec := ih (i + 1) (by omega) (by omega) s2 (h2.2 rfl)
      obtain ⟨hp2, g2, d2, tk2, os2⟩ := s2
      wp_walk
      rw [hc]
      exact ⟨plainId_quiet plain_contains_loop _, codeAny_builtin entry_contains_loop (by
        rw [Around.under_plainId plain_contains_loop _]
        exact hrec)⟩
theorem list_containsG (l : Addr) (items : Array Value) (x : Value) (I : Nat → Shared → Prop) (hl : ∀ i s, I i s → ∃ n, s.heap.get? l = some { cls := .type "list", data := .seq items n })
    (turn : ∀ i (h : i < items.size) s, I i s → wpAny (model prog w) A.in1 (eqBool items[i] x) (fun r s' => (r = true → R (.ok (.ret (.bool true))) s') ∧ (r = false → I (i + 1) s')) (fun e s' => R (.error e) s') s)
    (fin : ∀ s, I items.size s → R (.ok (.ret (.bool false))) s) {s : Shared} (h : I 0 s) :
    wpAny (model prog w) A.in1 (Builtin.«list.__contains__» ⟨[.ref l, x], []⟩) (GQ.FinOf prog w A R) (fun e s' => R (.error e) s') s := by
  obtain ⟨n, hl1⟩ := hl _ _ h
  have hrec := contains_loopG (A := A) (R := R) l items x I hl turn fin _ 0 rfl (Nat.zero_le _) s h
  obtain ⟨hp, g, d, tk, os⟩ := s
  wp_walk using wpAny_loadPart' hl1
  exact ⟨plainId_quiet plain_contains_loop _, codeAny_builtin entry_contains_loop (by
    rw [Around.under_plainId plain_contains_loop _]
    exact hrec)⟩
end
section
variable {prog : Program} {w : World} {A : Around} {E : Value → Shared → Prop} {s : Shared}
theorem in_listG {l : Addr} {items : Array Value} {x : Value} {Q : Value → Shared → Prop} (I : Nat → Shared → Prop) (hl : ∀ i s, I i s → ∃ n, s.heap.get? l = some { cls := .type "list", data := .seq items n })
    (turn : ∀ i (h : i < items.size) s, I i s → wpAny (model prog w) A.in1 (eqBool items[i] x) (fun r s' => (r = true → Q (.bool true) s') ∧ (r = false → I (i + 1) s')) E s)
    (fin : ∀ s, I items.size s → Q (.bool false) s) (h : I 0 s) : wpAny (model prog w) A (compareOp .In x (.ref l)) Q E s := by
  obtain ⟨n, hl1⟩ := hl _ _ h
  show wpAny _ A (do return .bool (← contains (.ref l) x)) Q E s
  refine wpAny_bind (wpAny_contains_slot ⟨_, hl1, rfl⟩ F.slot_list_contains (wpAny_mono (GQ.call_here (Q := fun v s' => ∃ b, v = .bool b ∧ Q (.bool b) s') F.slot_list_contains ⟨_, hl1, rfl⟩ F.entry_list_contains (F.args_list_contains_2 _ _) ?_) (fun v s' hv => ?_) fun _ _ e => e))
  · exact list_containsG (R := wants (fun v s' => ∃ b, v = .bool b ∧ Q (.bool b) s') E) l items x I hl (fun i h s hi => wpAny_mono (turn i h s hi) (fun r s' q => ⟨fun e => ⟨_, rfl, q.1 e⟩, q.2⟩) fun _ _ e => e) (fun s hs => ⟨_, rfl, fin s hs⟩) h
  · obtain ⟨b, rfl, hq⟩ := hv
    exact wpAny_truthy_bool (wpAny_pure hq)
end
end Co
open PySem PySem.Spec PyProof.Rows L2
open Builtin
namespace Ne
open PySem.W PySem.Calls
section
variable {prog : Program} {w : World} {A : Around} {E : Value → Shared → Prop} {s : Shared} {K : Frag} {x C f : Addr} {ox : Obj} {od : Option Obj}
/-- None == an own instance: its own == answers -/
theorem none_eq {Q : Value → Shared → Prop} (X : K.In s.heap) (I : InstAt s.heap x ox C od) (hu : A.units < cLine) (he : findIn K (.ref C) "__eq__" = some (some (.ref f))) (hf : isFn K (.ref f) = true) (hsub : subIn K (.ref C) (.type "NoneType") = some false)
    (h : wpAny (model prog w) A (call (.ref f) [.ref x, .none]) (fun r s' => ∃ b, r = .bool b ∧ Q (.bool b) s') E s) : wpAny (model prog w) A (richCompare .Eq .none (.ref x)) Q E s := by
  have hT : s.TypeIs .none "NoneType" := rfl
  unfold richCompare
  simp only [hT.oneThing_none]
  refine wpAny_holding (wpAny_bind (wpAny_cRoomFor hu ?_))
  refine wpAny_bind (wpAny_typeOf hT (wpAny_bind (I.type.here ?_)))
  rw [show (Value.type "NoneType" != Value.ref C) = true from rfl]
  simp only [if_true]
  refine wpAny_bind ((looks_subIn X hsub).here ?_)
  simp only [Bool.false_eq_true, if_false, Bool.not_false, if_true]
  refine wpAny_bind (m := tryCompare .none _ (.ref x)) (wpAny_tryCompare_declines hT PySem.F.slot_NoneType_eq (call_gives PySem.F.slot_NoneType_eq hT PySem.F.entry_NoneType_eq (PySem.F.args_NoneType_eq_2 _ _) (PySem.SeqAt.NoneType___eq___none_ref_0 x) ?_))
  refine ⟨rfl, ?_⟩
  have one : wpAny (model prog w) A (tryCompare (.ref x) (cmpInfo .Eq).2.2 .none) (fun r s' => ∃ v, r = some v ∧ Q v s') E s := by
    unfold tryCompare
    refine wpAny_bind (ifBound_K X I he hf (wpAny_mono h ?_ fun _ _ e => e))
    rintro v s' ⟨b, rfl, hq⟩
    exact wpAny_pure ⟨_, rfl, hq⟩
  refine wpAny_bind (wpAny_mono one ?_ fun _ _ e => e)
  rintro r s' ⟨v, rfl, hq⟩
  exact wpAny_pure hq
end
end Ne
section
variable {X : Cx} {CX : CXT} {C f : Addr} {fd : FuncData} {ps : List Str} {sp : Sp} {k : Nat} {E : XK}
/-- x in [None, y], x and y own instances -/
theorem op_inOwn (F : FnOk X.prog X.w X.K X.mg X.base CX k f fd ps sp) (hr : Room (k + 1) X.A) (he : PySem.W.findIn X.K (.ref C) "__eq__" = some (some (.ref f))) (hf : PySem.W.isFn X.K (.ref f) = true)
    (hno : PySem.W.subIn X.K (.ref C) (.type "NoneType") = some false) (hb : Binds X.K fd ps []) (hx : Passes CX X E) :
    OpR X (compareOp .In) (fun x y H Q => ∃ (a b l dx dy : Addr) (fs gs : List (Str × V)), x = .ref a ∧ y = .ref l ∧ H l = some (.lst [.non, .ref b]) ∧ a ≠ b ∧ H a = some (.ins C dx fs) ∧ H b = some (.ins C dy gs) ∧
      sp [.ref a, .non] H (fun v H' => v = .bl false ∧ H' = H) E ∧ sp [.ref b, .ref a] H (fun v H' => v = .bl true ∧ Q (.bl true) H') E) := by
  intro pins s σ H x y v u Q I rx ry h
  obtain ⟨a, b, l, dx, dy, fs, gs, rfl, rfl, hl, hab, ha, hbb, h1, h2⟩ := h
  cases rx
  cases ry
  have its : ∀ s' : Shared, Inv X pins σ H s' → ∃ n, s'.heap.get? l = some { cls := .type "list", data := .seq #[.none, .ref b] n } := by
    intro s' I'
    obtain ⟨_, it, n, r, _, e⟩ := I'.lstM hl
    cases r with
    | cons r1 r2 =>
      cases r2 with
      | cons r3 r4 =>
        cases r4
        cases r1
        cases r3
        exact ⟨n, e⟩
  have un := hr.units0
  have un2 := hr.units
  refine Co.in_listG (items := #[.none, .ref b]) (fun i s' => i < 2 ∧ Inv X pins σ H s') (fun i s' q => its s' q.2) ?_ (fun s' q => absurd q.1 (Nat.lt_irrefl 2)) ⟨by decide, I⟩
  intro i hi s' hs'
  have I' := hs'.2
  obtain ⟨mA, J, _⟩ := ins_get I'.hok ha
  obtain ⟨od, J, _⟩ := J.look
  obtain ⟨mB, J2, _⟩ := ins_get I'.hok hbb
  obtain ⟨od2, J2, _⟩ := J2.look
  have two : i = 0 ∨ i = 1 := by
    have := hs'.1
    omega
  rcases two with rfl | rfl
  · show wpAny (model X.prog X.w) X.A.in1 (eqBool .none (.ref a)) _ _ s'
    unfold eqBool
    refine wpAny_holding ?_
    refine wpAny_ite_split (fun q => by cases q) (fun _ => ?_)
    refine wpAny_bind (wpAny_mono (Ne.none_eq (Q := fun v s2 => v = .bool false ∧ Inv X pins σ H s2) I'.kIn J (by show X.A.units + 1 < cLine; omega) he hf hno ?_) ?_ fun _ _ e => e)
    · have hl1 := F.len _ _ _ _ h1
      have bnd := hb s' [.ref a, .none] I'.kIn (by simpa using hl1)
      rw [List.append_nil] at bnd
      refine wpAny_call (codeAny_mono (F.run X.A.in1 X.stack s' H ⟨[.ref a, .none], []⟩ [.ref a, .none] [.ref a, .non] _ E hr.in1 I'.env0.in1 bnd (.cons rfl (.cons rfl .nil)) h1) ?_)
      rintro (er | fl) s2 hq
      · exact hx pins σ H s' er s2 I' hq
      · cases fl with
        | ret w' =>
          obtain ⟨z, H2, I2, rz, rfl, rfl⟩ := I'.after hq
          cases rz
          exact ⟨false, rfl, rfl, I2⟩
        | next => exact hq.elim
        | brk => exact hq.elim
        | cont => exact hq.elim
    · rintro v s2 ⟨rfl, I2⟩
      exact wpAny_truthy_bool ⟨fun e => (by cases e), fun _ => ⟨by decide, I2⟩⟩
  · show wpAny (model X.prog X.w) X.A.in1 (eqBool (.ref b) (.ref a)) _ _ s'
    refine GQ.eqBool_refG (Ne.symm hab) ?_
    obtain ⟨m, hF⟩ := I'.fr
    refine PySem.W.cmp_K (op := .Eq) (tb := .ref C) (by show X.A.units + 1 < cLine; omega) hF I'.ok.mod.kin J2 J.type (by simp [PySem.W.notFirst]) he hf ?_
    have hl1 := F.len _ _ _ _ h2
    have bnd := hb s' [.ref b, .ref a] I'.kIn (by simpa using hl1)
    rw [List.append_nil] at bnd
    refine wpAny_call (codeAny_mono (F.run X.A.in1 X.stack s' H ⟨[.ref b, .ref a], []⟩ [.ref b, .ref a] [.ref b, .ref a] _ E hr.in1 I'.env0.in1 bnd (.cons rfl (.cons rfl .nil)) h2) ?_)
    rintro (er | fl) s2 hq
    · exact hx pins σ H s' er s2 I' hq
    · cases fl with
      | ret w' =>
        obtain ⟨z, H2, I2, rz, rfl, q⟩ := I'.after hq
        cases rz
        exact ⟨true, rfl, fun _ => ⟨.bl true, H2, I2, rfl, q⟩, fun e => by cases e⟩
      | next => exact hq.elim
      | brk => exact hq.elim
      | cont => exact hq.elim
end
end Bb
set_option Elab.async false
set_option linter.all false
set_option maxRecDepth 100000
set_option maxHeartbeats 2000000
namespace L2
open PySem PySem.Spec PyProof.Rows
open HT
section
variable {prog : Program} {w : World} {A : Around} {E : Value → Shared → Prop} {s : Shared}
theorem sliceApplied_rev {sl : Addr} {vl vu vs : Value} {n : Nat} {Q : Int × Int × Nat → Shared → Prop} (hs : s.heap.IsSliceOf sl vl vu vs) (pl : IsPart vl none) (pu : IsPart vu none) (ps : IsPart vs (some (-1)))
    (h : Q ((n : Int) - 1, -1, n) s) : wpAny (model prog w) A (Builtin.Slice.sliceApplied (.ref sl) (pure (n : Int))) Q E s := by
  obtain ⟨os, hos, hcs, hds⟩ := id hs
  unfold Builtin.Slice.sliceApplied Builtin.Slice.sliceFields
  refine wpAny_bind (wpAny_bind (wpAny_field hos hds (x := vl) rfl (wpAny_bind (wpAny_field hos hds (x := vu) rfl (wpAny_bind (wpAny_field hos hds (x := vs) rfl (wpAny_pure ?_)))))))
  refine wpAny_bind (slicePart_ ps ?_)
  show wpAny _ _ (if ((-1 : Int) == 0) = true then _ else _) _ _ s
  rw [if_neg (by decide)]
  refine wpAny_bind (slicePart_ pl (wpAny_bind (slicePart_ pu (wpAny_bind (wpAny_pure ?_)))))
  have e1 : Builtin.Slice.sliceAdjust none none (-1) (n : Int) = ((n : Int) - 1, -1) := by
    unfold Builtin.Slice.sliceAdjust
    simp
  show wpAny _ _ (match Builtin.Slice.sliceAdjust none none (-1) (n : Int) with | (lo, hi) => pure (lo, (-1 : Int), Builtin.Slice.slicePlaces lo hi (-1))) _ _ s
  rw [e1]
  have e2 : Builtin.Slice.slicePlaces ((n : Int) - 1) (-1) (-1) = n := by
    unfold Builtin.Slice.slicePlaces
    have h1 : ¬ ((-1 : Int) > 0) := by decide
    simp only [h1, if_false]
    split
    · rw [show (- -1 : Int) = 1 by decide, Int.ediv_one]
      omega
    · omega
  show wpAny _ _ (pure ((n : Int) - 1, (-1 : Int), Builtin.Slice.slicePlaces ((n : Int) - 1) (-1) (-1))) _ _ s
  rw [e2]
  exact wpAny_pure h
theorem pick_rev (xs : Array Value) : ((List.range xs.size).filterMap fun (m : Nat) => xs[((xs.size : Int) - 1 + (m : Int) * (-1)).toNat]?).toArray = xs.toList.reverse.toArray := by
  have e : (fun (m : Nat) => xs[((xs.size : Int) - 1 + (m : Int) * (-1)).toNat]?) = fun m => xs[xs.size - 1 - m]? := by
    funext m
    have : ((xs.size : Int) - 1 + (m : Int) * (-1)).toNat = xs.size - 1 - m := by omega
    rw [this]
  rw [e]
  have h2 : (List.range xs.size).filterMap (fun m => xs[xs.size - 1 - m]?) = ((List.range xs.size).map (fun k => xs.size - 1 - k)).filterMap (xs[·]?) := by
    rw [List.filterMap_map]
    rfl
  rw [h2, PySem.W.krv_range, List.filterMap_reverse, PySem.W.krv_all]
theorem getItem_tuple_rev {t sl : Addr} {items : Array Value} {vl vu vs : Value} {Q : Value → Shared → Prop} (ht : IsTup s.heap t items) (hs : s.heap.IsSliceOf sl vl vu vs) (pl : IsPart vl none) (pu : IsPart vu none) (ps : IsPart vs (some (-1)))
    (h : Q (.ref s.heap.objs.size) { s with heap := s.heap.push { cls := .type "tuple", data := .seq items.toList.reverse.toArray } })
    (hsz : items.size ≤ sizeLine) : wpAny (model prog w) A (getItem (.ref t) (.ref sl)) Q E s := by
  have htake : sizeOk (.seq items.toList.reverse.toArray) := by
    show items.toList.reverse.toArray.size ≤ sizeLine
    rw [List.size_toArray, List.length_reverse, Array.length_toList]
    exact hsz
  obtain ⟨os, hos, hcs, hds⟩ := id hs
  have hTs : s.TypeIs (.ref sl) "slice" := ⟨os, hos, hcs⟩
  unfold getItem
  try with_reducible refine wpAny_holding ?_
  first | refine wpAny_bind (wpAny_pure ?_) | skip
  refine wpAny_bind (wpAny_sequenceKey ht.typeIs (by decide) ?_)
  refine wpAny_bind (wpAny_callSpecial?_slot (name := Str.ofString "__getitem__") ht.typeIs PyProof.Rows.slot_tuple_getitem
    (wpAny_call_entry PyProof.Rows.slot_tuple_getitem ht.typeIs entry_tuple_getitem ?_ (args_tuple_getitem _ _)))
  show wpAny _ _ (Builtin.Tuple.tupleItemsOf (.ref t) >>= _) _ _ s
  refine wpAny_bind (tupleItemsOf_ ht ?_)
  refine wpAny_bind (wpAny_typeOf hTs ?_)
  rw [if_pos (by decide)]
  refine wpAny_bind (sliceApplied_rev hs pl pu ps ?_)
  have hno : ¬ (((items.size : Int) - 1 == 0 && (-1 : Int) == 1 && (items.size) == items.size) = true) := by
    intro q
    rw [Bool.and_eq_true, Bool.and_eq_true] at q
    have q1 := q.1.2
    exact absurd q1 (by decide)
  show wpAny _ _ (if ((items.size : Int) - 1 == 0 && (-1 : Int) == 1 && (items.size) == items.size) = true then _ else _) _ _ s
  rw [if_neg hno, pick_rev]
  first
    | exact wpAny_bind (m := Builtin.Tuple.tupleExact _) (wpAny_newObj_type (wpAny_pure ⟨_, rfl, wpAny_pure h⟩) htake)
    | exact wpAny_bind (m := Builtin.Tuple.tupleExact _) (wpAny_newObj_type (wpAny_bind (wpAny_pure (wpAny_pure ⟨_, rfl, wpAny_pure h⟩))) htake)
    | exact wpAny_bind (wpAny_bind (m := Builtin.Tuple.tupleExact _) (wpAny_newObj_type (wpAny_pure (wpAny_pure ⟨_, rfl, wpAny_pure h⟩)) htake))
    | exact wpAny_bind (wpAny_bind (m := Builtin.Tuple.tupleExact _) (wpAny_newObj_type (wpAny_pure ⟨_, rfl, wpAny_pure h⟩) htake))
end
end L2
namespace Bb
open PySem PySem.Spec PyProof.Rows L2
section
variable {X : Cx}
/-! t[::-1] of a tuple -/
def tRevT (te : TE) : TE := fun σ H Q => te σ H fun x H1 => ∃ a xs, x = .ref a ∧ H1 a = some (.tup xs) ∧ ∀ p, H1 p = none → Q (.ref p) (upd H1 p (.tup xs.reverse))
theorem pe_revT {e : Expr} {te : TE} {k : Nat} {p1 p2 p3 pos : Pos} (he : PE X e te) : PE X (.Subscript e (.Slice none none (some (.UnaryOp .USub (.Constant (.int 1) k p1) p2)) p3) pos) (tRevT te) := by
  refine ⟨fun pins s σ H Q I h => ?_⟩
  refine Subscript_ (thn (he.run pins s σ H _ I h) fun v s1 ⟨x, H1, I1, r1, q1⟩ => ?_)
  obtain ⟨a, xs, ex, hx, q⟩ := q1
  subst ex
  cases r1
  have hst : PO X (some (.UnaryOp .USub (.Constant (.int 1) k p1) p2)) (tPart (tUn (rU fun i => .int (-i)) (tC (.int 1)))) := po_some (pe_un un_neg pe_int)
  refine wpAny_Slice (thn (po_none.run pins s1 σ H1 (fun o H2 => o = none ∧ H2 = H1) I1 ⟨rfl, rfl⟩) fun vl s2 ⟨l, H2, I2, pl, el, e2⟩ => ?_)
  subst el e2
  refine thn (po_none.run pins s2 σ H2 (fun o H3 => o = none ∧ H3 = H2) I2 ⟨rfl, rfl⟩) fun vu s3 ⟨u, H3, I3, pu, eu, e3⟩ => ?_
  subst eu e3
  refine thn (hst.run pins s3 σ H3 (fun o H4 => o = some (-1) ∧ H4 = H3) I3 ⟨1, rfl, -1, rfl, rfl, rfl⟩) fun vs s4 ⟨o, H4, I4, ps, eo, e4⟩ => ?_
  subst eo e4
  have I5 : Inv X pins σ H4 { s4 with heap := s4.heap.push { cls := .type "slice", data := .fields #[vl, vu, vs] } } := I4.kept (t' := s4.toks) fun b ob q => Heap.get?_push_of_some _ q
  obtain ⟨its, r, ht, hz⟩ := I5.tuple (SqT.of hx)
  have hlen := r.length
  show wpAny (model X.prog X.w) X.A (subscriptTail e (.Slice none none (some (.UnaryOp .USub (.Constant (.int 1) k p1) p2)) p3) (.ref a) (.ref s4.heap.objs.size)) (EP X pins σ Q) X.xe { s4 with heap := s4.heap.push { cls := .type "slice", data := .fields #[vl, vu, vs] } }
  refine tail_any (ops := [.ref a, .ref s4.heap.objs.size]) ht.typeIs (PyProof.Rows.slot_tuple_getitem.lookup) ?_ (by with_unfolding_all rfl)
  refine getItem_tuple_rev ht (Heap.IsSliceOf.new _ vl vu vs) pl pu ps ?_ (by rw [List.size_toArray]; omega)
  refine ⟨.ref _, _, I5.laid (t' := s4.toks) (o := .tup xs.reverse) (fun b ob q => Heap.get?_push_of_some _ q) (Nat.le_refl _) ?_, rfl, q _ (I5.hok.fresh (Nat.le_refl _))⟩
  exact ⟨by rw [List.length_reverse]; exact hz, its.reverse, r.reverse, ⟨_, Heap.get?_push_size _ rfl, rfl, 0, by rfl⟩⟩
/-! set(t) of a tuple of ints -/
theorem call_setT (hc : X.calm = true) : CallR X (.type "set") (fun xs H Q => ∃ (l : Addr) (ns : List Int), xs = [.ref l] ∧ SqT X.K H l (ns.map V.int) ∧ ns.length ≤ 60 ∧ ∀ p n, H p = none → n ≤ ns.length → Q (.ref p) (upd H p (SetO X.w p (fun k => decide (k ∈ ns)) n))) := by
  intro pins s σ H xs us Q I r h
  obtain ⟨l, ns, rfl, hq, hn, q⟩ := h
  obtain ⟨u, rfl, ru⟩ := vals1 r
  cases ru
  obtain ⟨its, rv, pt, hz⟩ := I.tuple hq
  have hi : IntsAre its.toArray.toList ns := ints_of_vals rv
  refine call_set_tupI ns (I.ok.hd hc) (show s.heap.IsTuple l its.toArray from pt) hi (by unfold scanBound; omega) fun h' tk c R1 hcn k => ?_
  exact ⟨.ref s.heap.objs.size, _, I.laid (t' := tk) k (Nat.le_refl _) (setO_new R1), rfl, q _ c (I.hok.fresh (Nat.le_refl _)) hcn⟩
end
end Bb
set_option Elab.async false
set_option linter.all false
set_option maxRecDepth 100000
set_option maxHeartbeats 2000000
namespace Bb
open PySem PySem.Spec PyProof.Rows L2
/-! kinds of data -/
def dInt : PyData → Bool
  | .int _ => true
  | .bool _ => true
  | _ => false
def dBool : PyData → Bool
  | .bool _ => true
  | _ => false
def dTup : PyData → Bool
  | .tuple _ => true
  | _ => false
def dStr : PyData → Bool
  | .str _ => true
  | _ => false
def dList : PyData → Bool
  | .list _ => true
  | _ => false
theorem kitE {a b : String} {r r' : Bool} (h : kitB a b = some r) (e : r = r') : kitB a b = some r' := by
  rw [← e]
  exact h
structure TyD (K : PySem.W.Frag) (H : Hp) (x : V) (d : PyData) (n : String) : Prop where
  ty : TyX K H x (.type n)
  i : kitB n "int" = some (dInt d)
  b : kitB n "bool" = some (dBool d)
  t : kitB n "tuple" = some (dTup d)
  s : kitB n "str" = some (dStr d)
  l : kitB n "list" = some (dList d)
theorem Da.ty {K : PySem.W.Frag} {Z : Addr → Prop} {H : Hp} {x : V} {d : PyData} (h : Da Z H x d) : ∃ n, TyD K H x d n := by
  cases h with
  | non => exact ⟨_, .base .non, kitE (r := false) (by decide +kernel) rfl, kitE (r := false) (by decide +kernel) rfl, kitE (r := false) (by decide +kernel) rfl, kitE (r := false) (by decide +kernel) rfl, kitE (r := false) (by decide +kernel) rfl⟩
  | bl b => exact ⟨_, .base (.bl b), kitE (r := true) (by decide +kernel) rfl, kitE (r := true) (by decide +kernel) rfl, kitE (r := false) (by decide +kernel) rfl, kitE (r := false) (by decide +kernel) rfl, kitE (r := false) (by decide +kernel) rfl⟩
  | int i => exact ⟨_, .base (.int i), kitE (r := true) (by decide +kernel) rfl, kitE (r := false) (by decide +kernel) rfl, kitE (r := false) (by decide +kernel) rfl, kitE (r := false) (by decide +kernel) rfl, kitE (r := false) (by decide +kernel) rfl⟩
  | str z => exact ⟨_, .base (.str z), kitE (r := false) (by decide +kernel) rfl, kitE (r := false) (by decide +kernel) rfl, kitE (r := false) (by decide +kernel) rfl, kitE (r := true) (by decide +kernel) rfl, kitE (r := false) (by decide +kernel) rfl⟩
  | lst h _ _ => exact ⟨_, .base (.lst h), kitE (r := false) (by decide +kernel) rfl, kitE (r := false) (by decide +kernel) rfl, kitE (r := false) (by decide +kernel) rfl, kitE (r := false) (by decide +kernel) rfl, kitE (r := true) (by decide +kernel) rfl⟩
  | tup h _ _ => exact ⟨_, .base (.tup h), kitE (r := false) (by decide +kernel) rfl, kitE (r := false) (by decide +kernel) rfl, kitE (r := true) (by decide +kernel) rfl, kitE (r := false) (by decide +kernel) rfl, kitE (r := false) (by decide +kernel) rfl⟩
  | d0 h _ => exact ⟨_, .base (.dK h), kitE (r := false) (by decide +kernel) rfl, kitE (r := false) (by decide +kernel) rfl, kitE (r := false) (by decide +kernel) rfl, kitE (r := false) (by decide +kernel) rfl, kitE (r := false) (by decide +kernel) rfl⟩
  | d1 h _ => exact ⟨_, .base (.dK h), kitE (r := false) (by decide +kernel) rfl, kitE (r := false) (by decide +kernel) rfl, kitE (r := false) (by decide +kernel) rfl, kitE (r := false) (by decide +kernel) rfl, kitE (r := false) (by decide +kernel) rfl⟩
/-! slices and sums of tuples: where they are new, where not -/
theorem same_up {H : Hp} {p : Addr} {o : HO} (h : H p = none) : Same H (upd H p o) := fun b u e => by
  rw [upd_ne (ne_of_none e h)]
  exact e
section
variable {X : Cx}
def rSlC : V → Option Int → Option Int → Hp → VK → Prop := fun x lo hi H Q => ∃ a xs, x = .ref a ∧ H a = some (.tup xs) ∧ ∀ p H', Same H H' → H' p = some (.tup (cutV xs lo hi)) → (p = a ∨ H p = none) → Q (.ref p) H'
theorem cut_whole {xs : List V} {lo hi : Option Int} (h : HT.sIx xs.length 0 lo = 0 ∧ HT.sIx xs.length xs.length hi = xs.length) : cutV xs lo hi = xs := by
  unfold cutV
  rw [h.1, h.2]
  simp
theorem sl_tupC : SlR X rSlC := by
  intro pins s σ H x v vl vu lo hi sl Q I rx hs pl pu h
  obtain ⟨a, xs, rfl, hx, q⟩ := h
  refine sl_tupA pins s σ H _ v vl vu lo hi sl Q I rx hs pl pu ⟨a, xs, rfl, SqT.of hx, fun wh => ?_, fun _ p hp => ?_⟩
  · exact q a H (Same.refl H) (by rw [cut_whole wh]; exact hx) (.inl rfl)
  · exact q p _ (same_up hp) upd_same (.inr hp)
def rCatC : R2 := fun x y H Q => ∃ a b xs ys, x = .ref a ∧ y = .ref b ∧ H a = some (.tup xs) ∧ H b = some (.tup ys) ∧ xs.length + ys.length ≤ sizeLine ∧ ∀ p H', Same H H' → H' p = some (.tup (xs ++ ys)) → (p = a ∨ p = b ∨ H p = none) → Q (.ref p) H'
theorem op_catC : OpR X (binaryOp .Add) rCatC := by
  intro pins s σ H x y v u Q I rx ry h
  obtain ⟨a, b, xs, ys, rfl, rfl, ha, hb, hz, q⟩ := h
  refine op_catA pins s σ H _ _ v u Q I rx ry ⟨a, b, xs, ys, rfl, rfl, SqT.of ha, SqT.of hb, hz, ?_, ?_, ?_⟩
  · rintro rfl
    exact q b H (Same.refl H) hb (.inr (.inl rfl))
  · rintro _ rfl
    exact q a H (Same.refl H) (by rw [List.append_nil]; exact ha) (.inl rfl)
  · intro _ _ p hp
    exact q p _ (same_up hp) upd_same (.inr (.inr hp))
end
theorem cut_from (xs : List V) (k : Nat) : cutV xs (some (k : Int)) none = xs.drop k := by
  unfold cutV
  rw [HT.sIx_nat, HT.sIx_none]
  by_cases h : k ≤ xs.length
  · rw [Nat.min_eq_left h, List.take_of_length_le (by simp)]
  · rw [Nat.min_eq_right (by omega), List.drop_of_length_le (Nat.le_refl _), List.drop_of_length_le (by omega)]
    simp
theorem cut_to (xs : List V) (k : Nat) : cutV xs none (some (k : Int)) = xs.take k := by
  unfold cutV
  rw [HT.sIx_nat, HT.sIx_none]
  by_cases h : k ≤ xs.length
  · rw [Nat.min_eq_left h]
    simp
  · rw [Nat.min_eq_right (by omega), List.take_of_length_le (show xs.length ≤ k by omega)]
    simp
/-- what the laws' things are: small enough to be shown -/
structure Sm (d : PyData) : Prop where
  sh : d.showable = true
  dp : d.depth ≤ 4
  ln : d.shown.length ≤ 200
  nl : d.hasDict = true → noList d = true
  ly : ∀ ds, d = .tuple ds → PyData.canLayAll0 ds = true
theorem Sm.int {i : Int} (h : i.natAbs < 10 ^ 40) : Sm (.int i) := by
  refine ⟨?_, Nat.zero_le _, ?_, fun z => (by cases z), fun ds z => (by cases z)⟩
  · show decide (i.natAbs.log2 < 1920) = true
    apply decide_eq_true
    by_cases z : i.natAbs = 0
    · rw [z]
      decide
    · exact (Nat.log2_lt z).mpr (Nat.lt_of_lt_of_le h (by decide +kernel))
  · have e := int_text_length_le10 (k := 40) (by decide) h
    show (Str.ofString (toString i)).length ≤ 200
    rw [PySem.ofString_length]
    omega
theorem Sm.bl (b : Bool) : Sm (.bool b) := by
  refine ⟨rfl, Nat.zero_le _, ?_, fun z => (by cases z), fun ds z => (by cases z)⟩
  cases b <;> decide +kernel
theorem Sm.non : Sm .none := ⟨rfl, Nat.zero_le _, by decide +kernel, fun z => (by cases z), fun ds z => (by cases z)⟩
theorem tupleText_le (ts : List Str) : (tupleText ts).length ≤ piled ts + 3 := by
  unfold tupleText
  rw [strLen_append, strLen_append]
  have e1 : (("(" : String) : Str).length = 1 := by decide +kernel
  have e2 : (((if ts.length == 1 then ",)" else ")" : String) : Str)).length ≤ 2 := by
    split <;> decide +kernel
  rw [e1]
  by_cases h : ts = []
  · subst h
    have e3 : (Str.join ", " []).length = 0 := by decide +kernel
    omega
  · have := join_length_add ts h
    omega
theorem Sm.ints {ns : List Int} (hr : ∀ n ∈ ns, n.natAbs < 10 ^ 18) (hl : ns.length ≤ 8) : Sm (.tuple (ns.map PyData.int)) := by
  have nd : ∀ ns : List Int, PyData.hasDictAll (ns.map PyData.int) = false := by
    intro ns
    induction ns with
    | nil => rfl
    | cons n ns ih =>
      show (PyData.hasDict (.int n) || PyData.hasDictAll (ns.map PyData.int)) = false
      rw [ih]
      rfl
  refine ⟨show_ints ns hr, ?_, ?_, fun z => ?_, fun ds z => ?_⟩
  · show PyData.depthAll (ns.map PyData.int) + 1 ≤ 4
    rw [depth_ints]
    decide
  · have h1 := tupleText_le (PyData.shownAll (ns.map PyData.int))
    have h2 := piled_ints ns hr
    show (tupleText (PyData.shownAll (ns.map PyData.int))).length ≤ 200
    omega
  · have z2 : PyData.hasDictAll (ns.map PyData.int) = true := z
    rw [nd] at z2
    cases z2
  · injection z with z
    rw [← z]
    exact lay_ints ns
end Bb
set_option Elab.async false
set_option linter.all false
set_option maxRecDepth 100000
set_option maxHeartbeats 2000000
namespace Bb
open PySem PySem.Spec PyProof.Rows L2
/-! min, max of a tuple of ints -/
section
variable {prog : Program} {w : World} {A : Around} {E : Value → Shared → Prop} {s : Shared} {l : Addr} {its : List Value} {ns : List Int} {Q : Value → Shared → Prop} {xs : Array (Int × Tok)}
theorem iter_intTup {Q : Value → Shared → Prop} (hl : s.heap.IsTuple l (intItems xs))
    (h : ∀ s₂ : Shared, s₂ = { s with heap := s.heap.push { cls := .type "tuple_iterator", data := .fields #[.ref l, .int 0 0] } } →
      (s₂.heap.IsTupleIter s.heap.objs.size l 0 ∧ s₂.heap.IsTuple l (intItems xs)) → (∀ b ∈ [s.heap.objs.size, l], b < s₂.heap.objs.size) → l ≠ s.heap.objs.size → Q (.ref s.heap.objs.size) s₂) :
    wpAny (model prog w) A (pyIter (.ref l)) Q E s := by
  have hlt : l < s.heap.objs.size := by
    obtain ⟨_, e, _⟩ := hl
    exact Heap.lt_size e
  refine wpAny_pyIter_tuple hl (h _ rfl ⟨⟨_, Heap.get?_push_size _ rfl, rfl, rfl⟩, hl.push _⟩ (fun b hb => ?_) (Nat.ne_of_lt hlt))
  show b < (s.heap.push _).objs.size
  rw [Heap.size_push]
  rcases List.mem_cons.mp hb with rfl | hb
  · exact Nat.lt_succ_self _
  · rcases List.mem_cons.mp hb with rfl | hb
    · exact Nat.lt_succ_of_lt hlt
    · cases hb
theorem old_keptT {h' : Heap} (hk : ∀ b o, b ∉ [s.heap.objs.size] → (s.heap.push { cls := .type "tuple_iterator", data := .fields #[.ref l, .int 0 0] }).get? b = some o → h'.get? b = some o) :
    ∀ b o, s.heap.get? b = some o → h'.get? b = some o := fun b o e => by
  refine hk b o (fun hm => ?_) (Heap.get?_push_of_some _ e)
  have := Heap.lt_size e
  have z : b = s.heap.objs.size := by simpa using hm
  exact absurd z (Nat.ne_of_lt this)
theorem min_intTup (hh : A.handled = none) (hl : s.heap.IsTuple l (intItems xs)) (hne : 0 < xs.size)
    (h : ∀ v h' tk, (intItems xs)[argBest (fun i j => decide (numAt xs i < numAt xs j)) (xs.size - 1)]? = some v → (∀ b o, s.heap.get? b = some o → h'.get? b = some o) → Q v { s with heap := h', toks := tk }) :
    wpAny (model prog w) A (call (.builtin "min") [.ref l]) Q E s := by
  refine call_min_walk (iter_intTup hl fun s₂ e st hfp hlI => ?_)
  subst e
  refine ⟨_, _, _, _, _, _, _, rfl, Walks.tuple (A := A.in1) hh _ l hlI (intItems xs), st, hfp, by simpa [intItems] using hne, CmpOf.ints_lt (numAt xs) (fun _ _ => intItems_at), fun v h' tk hP hk => ?_⟩
  exact h v h' tk (by simpa [intItems] using hP) (old_keptT hk)
theorem max_intTup (hh : A.handled = none) (hl : s.heap.IsTuple l (intItems xs)) (hne : 0 < xs.size)
    (h : ∀ v h' tk, (intItems xs)[argBest (fun i j => decide (numAt xs i > numAt xs j)) (xs.size - 1)]? = some v → (∀ b o, s.heap.get? b = some o → h'.get? b = some o) → Q v { s with heap := h', toks := tk }) :
    wpAny (model prog w) A (call (.builtin "max") [.ref l]) Q E s := by
  refine call_max_walk (iter_intTup hl fun s₂ e st hfp hlI => ?_)
  subst e
  refine ⟨_, _, _, _, _, _, _, rfl, Walks.tuple (A := A.in1) hh _ l hlI (intItems xs), st, hfp, by simpa [intItems] using hne, CmpOf.ints_gt (numAt xs) (fun _ _ => intItems_at), fun v h' tk hP hk => ?_⟩
  exact h v h' tk (by simpa [intItems] using hP) (old_keptT hk)
theorem min_rawT (hh : A.handled = none) (hl : s.heap.IsTuple l its.toArray) (hi : IntsAre its ns) (hne : 0 < ns.length)
    (h : ∀ h' tk M t', (∀ b o, s.heap.get? b = some o → h'.get? b = some o) → M ∈ ns → (∀ a, a ∈ ns → M ≤ a) → Q (.int M t') { s with heap := h', toks := tk }) : wpAny (model prog w) A (call (.builtin "min") [.ref l]) Q E s := by
  obtain ⟨xs, e⟩ := hi.allInts.items
  have hn : numsOf (intItems xs).toList = ns := by rw [← e]; exact hi.numsOf
  rw [nums_intItems] at hn
  subst hn
  rw [e] at hl
  have hsz : 0 < xs.size := by simpa using hne
  refine min_intTup hh hl hsz fun v h' tk hv hk => ?_
  obtain ⟨t, rfl⟩ := intItems_at hv
  obtain ⟨h1, h2⟩ := argBest_lt (numAt xs) (xs.size - 1)
  refine h h' tk _ t hk ?_ fun a ha => ?_
  · rw [numAt_eq]; exact PySem.getD_mem (by rw [List.length_map, Array.length_toList]; omega)
  · obtain ⟨j, hj, rfl⟩ := mem_getD ha
    rw [List.length_map, Array.length_toList] at hj
    rw [← numAt_eq]; exact h2 j (by omega)
theorem max_rawT (hh : A.handled = none) (hl : s.heap.IsTuple l its.toArray) (hi : IntsAre its ns) (hne : 0 < ns.length)
    (h : ∀ h' tk M t', (∀ b o, s.heap.get? b = some o → h'.get? b = some o) → M ∈ ns → (∀ a, a ∈ ns → a ≤ M) → Q (.int M t') { s with heap := h', toks := tk }) : wpAny (model prog w) A (call (.builtin "max") [.ref l]) Q E s := by
  obtain ⟨xs, e⟩ := hi.allInts.items
  have hn : numsOf (intItems xs).toList = ns := by rw [← e]; exact hi.numsOf
  rw [nums_intItems] at hn
  subst hn
  rw [e] at hl
  have hsz : 0 < xs.size := by simpa using hne
  refine max_intTup hh hl hsz fun v h' tk hv hk => ?_
  obtain ⟨t, rfl⟩ := intItems_at hv
  obtain ⟨h1, h2⟩ := argBest_gt (numAt xs) (xs.size - 1)
  refine h h' tk _ t hk ?_ fun a ha => ?_
  · rw [numAt_eq]; exact PySem.getD_mem (by rw [List.length_map, Array.length_toList]; omega)
  · obtain ⟨j, hj, rfl⟩ := mem_getD ha
    rw [List.length_map, Array.length_toList] at hj
    rw [← numAt_eq]; exact h2 j (by omega)
end
section
variable {X : Cx}
/-- min(xs), max(xs), xs a list or a tuple of ints -/
def rMinS (K : PySem.W.Frag) : List V → Hp → VK → Prop := fun vs H Q => ∃ (a : Addr) (ns : List Int), vs = [V.ref a] ∧ (SqL K H a (ns.map V.int) ∨ SqT K H a (ns.map V.int)) ∧ 0 < ns.length ∧ ∀ m, m ∈ ns → (∀ y, y ∈ ns → m ≤ y) → Q (.int m) H
def rMaxS (K : PySem.W.Frag) : List V → Hp → VK → Prop := fun vs H Q => ∃ (a : Addr) (ns : List Int), vs = [V.ref a] ∧ (SqL K H a (ns.map V.int) ∨ SqT K H a (ns.map V.int)) ∧ 0 < ns.length ∧ ∀ m, m ∈ ns → (∀ y, y ∈ ns → y ≤ m) → Q (.int m) H
theorem cr_minS (hc : X.calm = true) : CallR X (.builtin "min") (rMinS X.K) := by
  intro pins s σ H vs us Q I r h
  obtain ⟨a, ns, rfl, hs, hne, q⟩ := h
  rcases hs with hs | hs
  · exact cr_min hc pins s σ H _ us Q I r ⟨a, ns, rfl, hs, hne, q⟩
  · obtain ⟨its, rv, hl, _⟩ := I.tuple hs
    rw [Vals.ref1 r]
    exact min_rawT (I.ok.hd hc) (show s.heap.IsTuple a its.toArray from hl) rv.ints hne fun h' tk m t' hk h1 h2 => ⟨.int _, H, I.kept hk, ⟨_, rfl⟩, q m h1 h2⟩
theorem cr_maxS (hc : X.calm = true) : CallR X (.builtin "max") (rMaxS X.K) := by
  intro pins s σ H vs us Q I r h
  obtain ⟨a, ns, rfl, hs, hne, q⟩ := h
  rcases hs with hs | hs
  · exact cr_max hc pins s σ H _ us Q I r ⟨a, ns, rfl, hs, hne, q⟩
  · obtain ⟨its, rv, hl, _⟩ := I.tuple hs
    rw [Vals.ref1 r]
    exact max_rawT (I.ok.hd hc) (show s.heap.IsTuple a its.toArray from hl) rv.ints hne fun h' tk m t' hk h1 h2 => ⟨.int _, H, I.kept hk, ⟨_, rfl⟩, q m h1 h2⟩
end
end Bb
set_option Elab.async false
set_option linter.all false
set_option maxRecDepth 100000
set_option maxHeartbeats 4000000
namespace K5
open PySem PySem.Spec PyProof.Rows L2 Bb

/-! the text by places -/
def top (i : Nat) : Stmt := PySem.Challenge.pw_bestsbook_k05_ages_on_days.main.body.getD i (.Pass ⟨0, 0, 0, 0⟩)
abbrev sIsNum : Stmt := top 19
abbrev sFrom : Stmt := top 20
abbrev sIsName : Stmt := top 21
abbrev sIsDay : Stmt := top 22
abbrev sIsTeam : Stmt := top 25
abbrev sCell : Stmt := top 28
abbrev sPen : Stmt := top 29
abbrev sDraw : Stmt := top 30
abbrev sPick : Stmt := top 31
abbrev sKind : Stmt := top 32
abbrev sCame : Stmt := top 33
abbrev sAny : Stmt := top 34
abbrev sOdd : Stmt := top 35
abbrev sNum : Stmt := top 37
abbrev sWhen : Stmt := top 36
abbrev sYears : Stmt := top 38
abbrev sLaw : Stmt := top 39
abbrev sPInit : Stmt := inClass (top 26) 0
abbrev sPEq : Stmt := inClass (top 26) 1
abbrev sPStr : Stmt := inClass (top 26) 2
abbrev sPRepr : Stmt := inClass (top 26) 3
abbrev sPParts : Stmt := inClass (top 26) 4
abbrev sPAge : Stmt := inClass (top 26) 5
abbrev Fn (K : PySem.W.Frag) (x q : Str) (st : Stmt) (f : Addr) (fd : FuncData) : Prop := FunD K x q (defArgs st) (defBody st) (defScope st) [] [] f fd

/-! things of any kind, as the law makes them -/
inductive Th (H : Hp) : V → Prop where
  | non : Th H .non
  | bl (b : Bool) : Th H (.bl b)
  | int (i : Int) : Th H (.int i)
  | str (z : Str) : Th H (.str z)
  | lst {a : Addr} {xs : List V} (h : H a = some (.lst xs)) : Th H (.ref a)
  | tup {a : Addr} {xs : List V} (h : H a = some (.tup xs)) : Th H (.ref a)
  | dic {a : Addr} {kvs : List (Key × V)} (h : H a = some (.dK kvs)) : Th H (.ref a)
def isNum : V → Bool
  | .int _ => true
  | _ => false
def numIn (lo hi : Int) : V → Bool
  | .int i => decide (lo ≤ i) && decide (i ≤ hi)
  | _ => false
def anInt : V → Bool
  | .int _ => true
  | .bl _ => true
  | _ => false
def aBool : V → Bool
  | .bl _ => true
  | _ => false
theorem kt {a b : String} {r r' : Bool} (h : kitB a b = some r) (e : r = r') : kitB a b = some r' := by
  rw [← e]
  exact h
theorem Th.ty {K : PySem.W.Frag} {H : Hp} {x : V} (h : Th H x) : ∃ n, TyX K H x (.type n) ∧ kitB n "int" = some (anInt x) ∧ kitB n "bool" = some (aBool x) := by
  cases h with
  | non => exact ⟨_, .base .non, kt (r := false) (by decide +kernel) rfl, kt (r := false) (by decide +kernel) rfl⟩
  | bl b => exact ⟨_, .base (.bl b), kt (r := true) (by decide +kernel) rfl, kt (r := true) (by decide +kernel) rfl⟩
  | int i => exact ⟨_, .base (.int i), kt (r := true) (by decide +kernel) rfl, kt (r := false) (by decide +kernel) rfl⟩
  | str z => exact ⟨_, .base (.str z), kt (r := false) (by decide +kernel) rfl, kt (r := false) (by decide +kernel) rfl⟩
  | lst h => exact ⟨_, .base (.lst h), kt (r := false) (by decide +kernel) rfl, kt (r := false) (by decide +kernel) rfl⟩
  | tup h => exact ⟨_, .base (.tup h), kt (r := false) (by decide +kernel) rfl, kt (r := false) (by decide +kernel) rfl⟩
  | dic h => exact ⟨_, .base (.dK h), kt (r := false) (by decide +kernel) rfl, kt (r := false) (by decide +kernel) rfl⟩
/-- the built-in names are nobody else's -/
structure Free (mg : Str → Option Value) : Prop where
  isi : mg "isinstance" = none
  int_ : mg "int" = none
  bool_ : mg "bool" = none
  tup_ : mg "tuple" = none
  list_ : mg "list" = none
  str_ : mg "str" = none
  len_ : mg "len" = none
  all_ : mg "all" = none
  rng_ : mg "range" = none
  enu_ : mg "enumerate" = none
  rep_ : mg "repr" = none
  min_ : mg "min" = none
  max_ : mg "max" = none
  srt_ : mg "sorted" = none
  zip_ : mg "zip" = none
  ve_ : mg "ValueError" = none
  le_ : mg "LookupError" = none

/-! is_number, is_number_from, _law_number -/
def spIsNum : Sp := fun vs H Q _ => ∃ x, vs = [x] ∧ Th H x ∧ Q (.bl (isNum x)) H
def spFrom : Sp := fun vs H Q _ => ∃ x lo hi, vs = [x, .int lo, .int hi] ∧ Th H x ∧ Q (.bl (numIn lo hi x)) H
section
variable {P : Program} {w : World} {K : PySem.W.Frag} {mg : Str → Option Value} {base : Heap} {f : Addr} {fd : FuncData}
theorem scIsNum : FnScope ["thing"] ["thing"] (defScope sIsNum) := ⟨rfl, rfl, rfl, by decide +kernel, rfl, by decide +kernel, by decide +kernel⟩
theorem ok_isnum (F : Fn K "is_number" "is_number" sIsNum f fd) (T : Free mg) : FnOk P w K mg base L2.CX0 1 f fd ["thing"] spIsNum := by
  refine F.ok scIsNum (fun vs H Q E h => ?_) (fun cdv A outer s H vs Q E hr h => ?_)
  · obtain ⟨x, rfl, _⟩ := h
    rfl
  · obtain ⟨x, rfl, hx, q⟩ := h
    obtain ⟨n, ty, k1, k2⟩ := hx.ty (K := K)
    refine ⟨_, PSs.nox (pss_one (ps_ret (pe_and (pe_callB call_isi rfl T.isi boot_isinstance (pa_cons (pv 0) (pa_cons (pe_bltn rfl T.int_ (by decide +kernel) (v := .ty "int") rfl) pa_nil)))
      (pe_one (pe_not (pe_callB call_isi rfl T.isi boot_isinstance (pa_cons (pv 0) (pa_cons (pe_bltn rfl T.bool_ (by decide +kernel) (v := .ty "bool") rfl) pa_nil)))))))), ?_⟩
    refine ⟨x, rfl, _, _, _, _, _, rfl, .ty "int", ty, kit_ty k1, _, rfl, ?_⟩
    cases x with
    | int i => exact ⟨_, rfl, _, _, _, _, _, rfl, .ty "bool", ty, kit_ty k2, _, rfl, q⟩
    | bl b => exact ⟨_, rfl, _, _, _, _, _, rfl, .ty "bool", ty, kit_ty k2, _, rfl, q⟩
    | _ => exact q
theorem scFrom : FnScope ["thing", "least", "most"] ["thing", "least", "most"] (defScope sFrom) := ⟨rfl, rfl, rfl, by decide +kernel, rfl, by decide +kernel, by decide +kernel⟩
theorem ok_from {fN : Addr} {fdN : FuncData} (F : Fn K "is_number_from" "is_number_from" sFrom f fd) (FN : Fn K "is_number" "is_number" sIsNum fN fdN) (gN : mg "is_number" = some (.ref fN)) (T : Free mg) : FnOk P w K mg base L2.CX0 2 f fd ["thing", "least", "most"] spFrom := by
  have GN : FnOk P w K mg base L2.CX0 1 fN fdN ["thing"] spIsNum := ok_isnum FN T
  have bN : Binds K fdN ["thing"] [] := FN.bindsN fun _ _ _ _ _ _ us hl => match us, hl with | [_], _ => rfl
  refine F.ok scFrom (fun vs H Q E h => ?_) (fun cdv A outer s H vs Q E hr h => ?_)
  · obtain ⟨x, lo, hi, rfl, _⟩ := h
    rfl
  · obtain ⟨x, lo, hi, rfl, hx, q⟩ := h
    refine ⟨_, PSs.nox (pss_one (ps_ret (pe_and (pe_call GN hr rfl gN FN.kp bN .nil pass0 (pa_cons (pv 0) pa_nil)) (pe_one (pe_chain op_le op_le (pv 1) (pv 0) (pv 2)))))), ?_⟩
    refine ⟨x, rfl, x, rfl, hx, _, rfl, ?_⟩
    cases x with
    | int i =>
      refine ⟨_, rfl, _, rfl, _, _, rfl, rfl, _, rfl, ?_⟩
      refine ite2 (fun c => ?_) (fun c => ?_)
      · refine ⟨_, rfl, _, _, rfl, rfl, ?_⟩
        have e : numIn lo hi (.int i) = decide (i ≤ hi) := by
          show (decide (lo ≤ i) && decide (i ≤ hi)) = _
          rw [c, Bool.true_and]
        rw [e] at q
        exact q
      · have e : numIn lo hi (.int i) = false := by
          show (decide (lo ≤ i) && decide (i ≤ hi)) = _
          rw [Bool.eq_false_iff.mpr c, Bool.false_and]
        rw [e] at q
        exact q
    | _ => exact q
end
end K5
set_option Elab.async false
set_option linter.all false
set_option maxRecDepth 100000
set_option maxHeartbeats 4000000
namespace K5
open PySem PySem.Spec PyProof.Rows L2 Bb
theorem same_upd {H H' : Hp} {D : Addr} {o : HO} (s : Same H H') (hD : H D = none) : Same H (upd H' D o) := fun b u e => by
  rw [upd_ne (ne_of_none e hD)]
  exact s b u e
theorem sqt_same {K : PySem.W.Frag} {H H' : Hp} {a : Addr} {xs : List V} (h : SqT K H a xs) (s : Same H H') : SqT K H' a xs := h.ext s
theorem sql_same {K : PySem.W.Frag} {H H' : Hp} {a : Addr} {xs : List V} (h : SqL K H a xs) (s : Same H H') : SqL K H' a xs := h.ext s
theorem get_map {ns : List Int} {i : Nat} {x : V} (h : (ns.map V.int)[i]? = some x) : ∃ n, ns[i]? = some n ∧ x = .int n := by
  rw [List.getElem?_map] at h
  cases e : ns[i]? with
  | none =>
    rw [e] at h
    cases h
  | some n =>
    rw [e] at h
    exact ⟨n, rfl, (Option.some.inj h).symm⟩
/-- a constant of the module -/
def IsI (mg : Str → Option Value) (x : Str) (i : Int) : Prop := ∃ t, mg x = some (.int i t)
theorem pe_k {X : Cx} {x : Str} {i : Int} {pos : Pos} (h : IsI X.mg x i) (hg : Gl X x) (hd : (x == ("__debug__" : Str)) = false := by decide) : PE X (.Name x pos) (tC (.int i)) := by
  obtain ⟨t, e⟩ := h
  exact pe_glob hg e ⟨t, rfl⟩ hd
structure ErrT (K : PySem.W.Frag) (mg : Str → Option Value) (x : Str) (C : Addr) : Prop where
  g : mg x = some (.ref C)
  ex : PySem.W.excIn K C He.veBase "ValueError.__new__" = true
  kp : PySem.W.keepIn K (.ref C) = true
  sb : PySem.W.subIn K (.ref C) (.type "BaseException") = some true
  ty : PySem.W.typeIn K (.ref C) = some (.type "type")
/-- a text of the module -/
def IsS (mg : Str → Option Value) (x z : Str) : Prop := ∃ t, mg x = some (.str z t)
theorem pe_kS {X : Cx} {x z : Str} {pos : Pos} (h : IsS X.mg x z) (hg : Gl X x) (hd : (x == ("__debug__" : Str)) = false := by decide) : PE X (.Name x pos) (tC (.str z)) := by
  obtain ⟨t, e⟩ := h
  exact pe_glob hg e ⟨t, rfl⟩ hd
abbrev letters : Str := "abcdefghijklmnopqrstuvwxyz"
structure Cons (mg : Str → Option Value) : Prop where
  day : IsI mg "MOST_DAY" 40000
  year : IsI mg "DAYS_OF_A_YEAR" 365
  long : IsI mg "LONGEST_NAME" 8
  lett : IsS mg "LETTERS" letters
end K5
set_option Elab.async false
set_option linter.all false
set_option maxRecDepth 100000
set_option maxHeartbeats 4000000
namespace K5
open PySem PySem.Spec PyProof.Rows L2 Bb
/-! the law's pen: a list of two ints; all else stays -/
def Pen (H : Hp) (p : Addr) : Prop := ∃ x f : Int, H p = some (.lst [.int x, .int f])
structure Kp (p : Addr) (H H' : Hp) : Prop where
  keep : ∀ b o, H b = some o → b ≠ p → H' b = some o
  pen : Pen H' p
theorem Kp.refl {p : Addr} {H : Hp} (h : Pen H p) : Kp p H H := ⟨fun _ _ e _ => e, h⟩
theorem Kp.trans {p : Addr} {H H1 H2 : Hp} (a : Kp p H H1) (b : Kp p H1 H2) : Kp p H H2 := ⟨fun c o e n => b.keep c o (a.keep c o e n) n, b.pen⟩
theorem Kp.same {p : Addr} {H H1 H2 : Hp} (a : Kp p H H1) (s : Same H1 H2) : Kp p H H2 := ⟨fun c o e n => s c o (a.keep c o e n), let ⟨x, f, e⟩ := a.pen; ⟨x, f, s _ _ e⟩⟩
theorem Kp.free {p q : Addr} {H H' : Hp} (a : Kp p H H') (hp : Pen H p) (h : H' q = none) : H q = none := by
  cases e : H q with
  | none => rfl
  | some o =>
    by_cases z : q = p
    · obtain ⟨x, f, e2⟩ := a.pen
      rw [z, e2] at h
      cases h
    · rw [a.keep _ _ e z] at h
      cases h
theorem pen_ne {H : Hp} {p a : Addr} {o : HO} (hp : Pen H p) (h : H a = some o) (n : ∀ x f : Int, o ≠ .lst [.int x, .int f]) : a ≠ p := by
  rintro rfl
  obtain ⟨x, f, e⟩ := hp
  rw [h] at e
  exact n x f (Option.some.inj e)
def spCell (K : PySem.W.Frag) : Sp := fun vs H Q _ => ∃ (a : Addr) (ns : List Int), vs = [.ref a, .int 0] ∧ SqL K H a (ns.map V.int) ∧ ns.length ≤ 63 ∧ ∀ z, Q (.int z) H
def spPen : Sp := fun vs H Q _ => ∃ z : Int, vs = [.int z] ∧ ∀ p H', H p = none → Same H H' → Pen H' p → Q (.ref p) H'
def spDraw : Sp := fun vs H Q _ => ∃ (p : Addr) (m : Int), vs = [.ref p, .int m] ∧ Pen H p ∧ (0 < m ∧ m < 1073741824) ∧ ∀ r H', 0 ≤ r → r < m → Kp p H H' → Q (.int r) H'
def spPick (K : PySem.W.Frag) : Sp := fun vs H Q _ => ∃ (p a : Addr) (xs : List V), vs = [.ref p, .ref a] ∧ Pen H p ∧ H a = some (.lst xs) ∧ a ≠ p ∧ (0 < xs.length ∧ xs.length ≤ 1000) ∧ ∀ v H', v ∈ xs → Kp p H H' → Q v H'
section
variable {P : Program} {w : World} {K : PySem.W.Frag} {mg : Str → Option Value} {base : Heap} {f : Addr} {fd : FuncData}
theorem scCell : FnScope ["_law_script", "_law_k"] ["_law_script", "_law_k"] (defScope sCell) := ⟨rfl, rfl, rfl, by decide +kernel, rfl, by decide +kernel, by decide +kernel⟩
theorem ok_cell (F : Fn K "_law_cell" "_law_cell" sCell f fd) (T : Free mg) : FnOk P w K mg base L2.CX0 1 f fd ["_law_script", "_law_k"] (spCell K) := by
  refine F.ok scCell (fun vs H Q E h => ?_) (fun cdv A outer s H vs Q E hr hh => ?_)
  · obtain ⟨a, ns, rfl, _⟩ := h
    rfl
  · obtain ⟨a, ns, rfl, ha, hn, q⟩ := hh
    refine ⟨_, PSs.nox (pss_cons (ps_if (pt_cmpR op_lt (pv 1) (pe_callB call_len_seq rfl T.len_ boot_len (pa_cons (pv 0) pa_nil)) (nomark _)) (pss_one (ps_ret (pe_ix ix_list (pv 0) (pv 1) (fun _ _ => rfl)))) pss_nil) (pss_one (ps_ret pe_int))), ?_⟩
    refine ⟨_, rfl, _, rfl, a, _, rfl, .inl ha, _, _, rfl, rfl, _, rfl, ?_⟩
    refine ite2 (fun c => ?_) (fun c => ?_)
    · have c' : (0 : Int) < (((ns.map V.int).length : Nat) : Int) := of_decide_eq_true c
      rw [List.length_map] at c'
      have h0 : (ns.map V.int)[0]? = some (V.int (ns[0]'(by omega))) := by
        rw [List.getElem?_map, List.getElem?_eq_getElem (by omega)]
        rfl
      exact ⟨_, rfl, _, rfl, a, _, 0, _, rfl, rfl, ha, at_of (j := 0) rfl h0, q _⟩
    · exact q 0
theorem scPen : FnScope ["_law_cell_here"] ["_law_cell_here"] (defScope sPen) := ⟨rfl, rfl, rfl, by decide +kernel, rfl, by decide +kernel, by decide +kernel⟩
theorem ok_pen (F : Fn K "_law_pen" "_law_pen" sPen f fd) (T : Free mg) : FnOk P w K mg base L2.CX0 1 f fd ["_law_cell_here"] spPen := by
  refine F.ok scPen (fun vs H Q E h => ?_) (fun cdv A outer s H vs Q E hr hh => ?_)
  · obtain ⟨z, rfl, _⟩ := h
    rfl
  · obtain ⟨z, rfl, q⟩ := hh
    refine ⟨_, PSs.nox (pss_one (ps_ret (pe_lst (pa_cons (pv 0) (pa_cons (pe_callTy call_int1 rfl T.int_ (by decide +kernel) (pa_cons (pe_cmpR op_ge (pv 0) (pe_op op_pow pe_int pe_int) (nomark _)) pa_nil)) pa_nil))))), ?_⟩
    refine ⟨_, rfl, _, rfl, _, _, rfl, rfl, ⟨by decide, by decide, by decide⟩, _, _, rfl, rfl, .inr ⟨_, rfl, ?_⟩⟩
    refine ⟨(by show 2 ≤ sizeLine; decide), fun p hp => ?_⟩
    exact q p _ hp (same_upd (Same.refl H) hp) ⟨_, _, upd_same⟩
theorem scDraw : FnScope ["_law_pen_here", "_law_many", "_law_drawn"] ["_law_pen_here", "_law_many"] (defScope sDraw) := ⟨rfl, rfl, rfl, by decide +kernel, rfl, by decide +kernel, by decide +kernel⟩
theorem ok_draw (F : Fn K "_law_draw" "_law_draw" sDraw f fd) : FnOk P w K mg base L2.CX0 1 f fd ["_law_pen_here", "_law_many"] spDraw := by
  refine F.ok scDraw (fun vs H Q E h => ?_) (fun cdv A outer s H vs Q E hr hh => ?_)
  · obtain ⟨p, m, rfl, _⟩ := h
    rfl
  · obtain ⟨p, m, rfl, ⟨x, g, hp⟩, ⟨m0, m1⟩, q⟩ := hh
    refine ⟨_, PSs.nox (pss_cons (ps_if (pt_cmpR op_eq (pe_ix ix_list (pv 0) pe_int (fun _ _ => rfl)) pe_int (nomark _))
        (pss_cons (ps_set (i := 2) scDraw.nd rfl (.inl rfl) (pe_op op_mod (pe_ix ix_list (pv 0) pe_int (fun _ _ => rfl)) (pv 1)))
        (pss_cons (ps_asg (pe_op op_fdiv (pe_ix ix_list (pv 0) pe_int (fun _ _ => rfl)) (pv 1)) (pg_sub (pv 0) pe_int set_list))
        (pss_one (ps_ret (pv 2))))) pss_nil)
      (pss_cons (ps_asg (pe_op op_mod (pe_op op_add (pe_op op_mul (pe_op op_mod (pe_ix ix_list (pv 0) pe_int (fun _ _ => rfl)) pe_int) pe_int) pe_int) pe_int) (pg_sub (pv 0) pe_int set_list))
      (pss_one (ps_ret (pe_op op_mod (pe_op op_fdiv (pe_op op_mod (pe_op op_add (pe_op op_mul (pe_ix ix_list (pv 0) pe_int (fun _ _ => rfl)) (pe_ix ix_list (pv 0) pe_int (fun _ _ => rfl)))
        (pe_op op_mul pe_int (pe_ix ix_list (pv 0) pe_int (fun _ _ => rfl)))) pe_int) pe_int) (pv 1)))))), ?_⟩
    have i0 : ∀ {a b : V}, atI [a, b] (0 : Int) = some a := fun {a b} => at_of (j := 0) rfl rfl
    have i1 : ∀ {a b : V}, atI [a, b] (1 : Int) = some b := fun {a b} => at_of (j := 1) rfl rfl
    refine ⟨_, rfl, p, _, 1, _, rfl, rfl, SqL.of hp, i1, rfl, _, rfl, ?_⟩
    refine ite2 (fun c => ?_) (fun c => ?_)
    · refine ⟨_, rfl, p, _, 0, _, rfl, rfl, SqL.of hp, i0, _, rfl, x, m, rfl, rfl, m0, ?_⟩
      refine ⟨_, rfl, p, _, 0, _, rfl, rfl, SqL.of hp, i0, _, rfl, x, m, rfl, rfl, ⟨m0, m1⟩, ?_⟩
      refine ⟨_, rfl, p, _, 0, 0, rfl, rfl, hp, rfl, _, rfl, ?_⟩
      refine q _ _ (Int.emod_nonneg _ (by omega)) (Int.emod_lt_of_pos _ m0) ⟨fun b o e n => ?_, ?_⟩
      · rw [upd_ne n]
        exact e
      · exact ⟨x / m, g, upd_same⟩
    · refine ⟨_, rfl, p, _, 0, _, rfl, rfl, SqL.of hp, i0, x, 2147483629, rfl, rfl, (by show (0 : Int) < 2147483629; decide), ?_⟩
      have b1 := Int.emod_nonneg x (show (2147483629 : Int) ≠ 0 by decide)
      have b2 := Int.emod_lt_of_pos x (show (0 : Int) < 2147483629 by decide)
      refine ⟨_, _, rfl, rfl, .inl ⟨by omega, by omega⟩, _, _, rfl, rfl, _, _, rfl, rfl, (by show (0 : Int) < 2147483629; decide), ?_⟩
      have c1 := Int.emod_nonneg (x % 2147483629 * 48271 + 11) (show (2147483629 : Int) ≠ 0 by decide)
      have c2 := Int.emod_lt_of_pos (x % 2147483629 * 48271 + 11) (show (0 : Int) < 2147483629 by decide)
      obtain ⟨z, hz⟩ : ∃ z, z = (x % 2147483629 * 48271 + 11) % 2147483629 := ⟨_, rfl⟩
      rw [← hz] at c1 c2
      refine ⟨_, rfl, p, _, 0, 0, rfl, rfl, hp, rfl, ?_⟩
      have hp2 : (upd H p (.lst ([V.int x, V.int g].set 0 (.int ((x % 2147483629 * 48271 + 11) % 2147483629))))) p = some (.lst [.int z, .int g]) := by
        rw [hz]
        exact upd_same
      refine ⟨_, rfl, p, _, 0, _, rfl, rfl, SqL.of hp2, i0, _, rfl, p, _, 0, _, rfl, rfl, SqL.of hp2, i0, z, z, rfl, rfl, .inl ⟨by omega, by omega⟩, ?_⟩
      refine ⟨_, rfl, p, _, 0, _, rfl, rfl, SqL.of hp2, i0, 40692, z, rfl, rfl, .inl ⟨by decide, by decide⟩, ?_⟩
      refine ⟨_, _, rfl, rfl, _, _, rfl, rfl, (by show (0 : Int) < 2147483647; decide), _, _, rfl, rfl, ⟨by decide, by decide⟩, _, rfl, _, _, rfl, rfl, m0, ?_⟩
      refine q _ _ (Int.emod_nonneg _ (by omega)) (Int.emod_lt_of_pos _ m0) ⟨fun b o e n => ?_, ?_⟩
      · rw [upd_ne n]
        exact e
      · exact ⟨z, g, hp2⟩
theorem scPick : FnScope ["_law_pen_here", "_law_things"] ["_law_pen_here", "_law_things"] (defScope sPick) := ⟨rfl, rfl, rfl, by decide +kernel, rfl, by decide +kernel, by decide +kernel⟩
theorem ok_pick {fD : Addr} {fdD : FuncData} (F : Fn K "_law_pick" "_law_pick" sPick f fd) (FD : Fn K "_law_draw" "_law_draw" sDraw fD fdD) (gD : mg "_law_draw" = some (.ref fD)) (T : Free mg) : FnOk P w K mg base L2.CX0 2 f fd ["_law_pen_here", "_law_things"] (spPick K) := by
  have GD : FnOk P w K mg base L2.CX0 1 fD fdD ["_law_pen_here", "_law_many"] spDraw := ok_draw FD
  have bD : Binds K fdD ["_law_pen_here", "_law_many"] [] := FD.bindsN fun _ _ _ _ _ _ us hl => match us, hl with | [_, _], _ => rfl
  refine F.ok scPick (fun vs H Q E h => ?_) (fun cdv A outer s H vs Q E hr hh => ?_)
  · obtain ⟨p, a, xs, rfl, _⟩ := h
    rfl
  · obtain ⟨p, a, xs, rfl, hp, ha, ne, hl, q⟩ := hh
    refine ⟨_, PSs.nox (pss_one (ps_ret (pe_ix ix_list (pv 1) (pe_call GD hr rfl gD FD.kp bD .nil pass0 (pa_cons (pv 0) (pa_cons (pe_callB call_len_seq rfl T.len_ boot_len (pa_cons (pv 1) pa_nil)) pa_nil))) (fun _ _ => rfl)))), ?_⟩
    refine ⟨_, rfl, _, rfl, _, rfl, a, xs, rfl, .inl (SqL.of ha), p, _, rfl, hp, ⟨by omega, by omega⟩, fun r H' r0 r1 kp => ?_⟩
    have hlt : r.toNat < xs.length := by omega
    refine ⟨a, xs, r, xs[r.toNat], rfl, rfl, SqL.of (kp.keep _ _ ha ne), ?_, q _ _ (List.getElem_mem _) kp⟩
    exact at_of (j := r.toNat) (by omega) (List.getElem?_eq_getElem hlt)
end
end K5
set_option Elab.async false
set_option linter.all false
set_option maxRecDepth 100000
set_option maxHeartbeats 4000000
namespace K5
open PySem PySem.Spec PyProof.Rows L2 Bb
theorem Th.kp {H H' : Hp} {p : Addr} {x : V} (h : Th H x) (k : Kp p H H') : Th H' x := by
  have one : ∀ {a : Addr} {o : HO}, H a = some o → Th H (.ref a) → (∀ H2 : Hp, H2 a = some o → Th H2 (.ref a)) → Th H' (.ref a) := by
    intro a o e _ back
    by_cases z : a = p
    · obtain ⟨x, f, e2⟩ := k.pen
      rw [z]
      exact .lst e2
    · exact back H' (k.keep _ _ e z)
  cases h with
  | non => exact .non
  | bl b => exact .bl b
  | int i => exact .int i
  | str z => exact .str z
  | lst e => exact one e (.lst e) fun _ e2 => .lst e2
  | tup e => exact one e (.tup e) fun _ e2 => .tup e2
  | dic e => exact one e (.dic e) fun _ e2 => .dic e2
theorem Th.same {H H' : Hp} {x : V} (h : Th H x) (s : Same H H') : Th H' x := by
  cases h with
  | non => exact .non
  | bl b => exact .bl b
  | int i => exact .int i
  | str z => exact .str z
  | lst e => exact .lst (s _ _ e)
  | tup e => exact .tup (s _ _ e)
  | dic e => exact .dic (s _ _ e)
theorem pen_same {H H' : Hp} {p : Addr} (h : Pen H p) (s : Same H H') : Pen H' p := by
  obtain ⟨x, f, e⟩ := h
  exact ⟨x, f, s _ _ e⟩
theorem up1 {H H1 : Hp} {q : Addr} {o : HO} (s : Same H H1) (h : H1 q = none) : Same H (upd H1 q o) := same_upd s (Same.free s h)
theorem up2 {H1 : Hp} {q : Addr} {o : HO} (h : H1 q = none) : Same H1 (upd H1 q o) := same_upd (Same.refl _) h
def spThing : Sp := fun vs H Q _ => ∃ p, vs = [.ref p] ∧ Pen H p ∧ ∀ v H', Kp p H H' → Th H' v → Q v H'
def spOdd : Sp := fun vs H Q _ => ∃ (p : Addr) (lo hi : Int), vs = [.ref p, .int lo, .int hi] ∧ Pen H p ∧ ∀ v H', Kp p H H' → Th H' v → Q v H'
section
variable {P : Program} {w : World} {K : PySem.W.Frag} {mg : Str → Option Value} {base : Heap} {f : Addr} {fd : FuncData}
/-- the law's first helpers as they stand -/
structure Hl (K : PySem.W.Frag) (mg : Str → Option Value) : Prop where
  draw : ∃ a d, Fn K "_law_draw" "_law_draw" sDraw a d ∧ mg "_law_draw" = some (.ref a)
  pick : ∃ a d, Fn K "_law_pick" "_law_pick" sPick a d ∧ mg "_law_pick" = some (.ref a)
  fr : Free mg
theorem Hl.dr (h : Hl K mg) : ∃ a d, FnOk P w K mg base L2.CX0 1 a d ["_law_pen_here", "_law_many"] spDraw ∧ mg "_law_draw" = some (.ref a) ∧ PySem.W.keepIn K (.ref a) = true ∧ Binds K d ["_law_pen_here", "_law_many"] [] := by
  obtain ⟨a, d, F, g⟩ := h.draw
  exact ⟨a, d, ok_draw F, g, F.kp, F.bindsN fun _ _ _ _ _ _ us hl => match us, hl with | [_, _], _ => rfl⟩
theorem Hl.pk (h : Hl K mg) : ∃ a d, FnOk P w K mg base L2.CX0 2 a d ["_law_pen_here", "_law_things"] (spPick K) ∧ mg "_law_pick" = some (.ref a) ∧ PySem.W.keepIn K (.ref a) = true ∧ Binds K d ["_law_pen_here", "_law_things"] [] := by
  obtain ⟨a1, d1, F1, g1⟩ := h.draw
  obtain ⟨a, d, F, g⟩ := h.pick
  exact ⟨a, d, ok_pick F F1 g1 h.fr, g, F.kp, F.bindsN fun _ _ _ _ _ _ us hl => match us, hl with | [_, _], _ => rfl⟩
theorem scAny : FnScope ["_law_pen_here", "_law_odd_here"] ["_law_pen_here"] (defScope sAny) := ⟨rfl, rfl, rfl, by decide +kernel, rfl, by decide +kernel, by decide +kernel⟩
theorem ok_any (F : Fn K "_law_anything" "_law_anything" sAny f fd) (h : Hl K mg) : FnOk P w K mg base L2.CX0 3 f fd ["_law_pen_here"] spThing := by
  obtain ⟨aP, dP, GP, gP, kP, bP⟩ := h.pk (P := P) (w := w) (base := base)
  refine F.ok scAny (fun vs H Q E h => ?_) (fun cdv A outer s H vs Q E hr hh => ?_)
  · obtain ⟨p, rfl, _⟩ := h
    rfl
  · obtain ⟨p, rfl, hp, q⟩ := hh
    refine ⟨_, PSs.nox (pss_cons (ps_set (i := 1) scAny.nd rfl (.inl rfl) (pe_lst (pa_cons pe_non (pa_cons pe_bl (pa_cons pe_bl (pa_cons pe_str (pa_cons pe_str (pa_cons pe_str (pa_cons (pe_tup pa_nil) (pa_cons (pe_lst pa_nil) (pa_cons pe_dnewK
        (pa_cons (pe_un un_neg pe_int) (pa_cons (pe_op op_pow pe_int pe_int) (pa_cons pe_int (pa_cons pe_int (pa_cons (pe_tup (pa_cons pe_int pa_nil)) (pa_cons (pe_lst (pa_cons pe_int pa_nil)) (pa_cons (pe_tup (pa_cons (pe_tup pa_nil) pa_nil))
        (pa_cons (pe_tup (pa_cons pe_int (pa_cons pe_int pa_nil))) (pa_cons (pe_disp (pps_cons pe_int pe_int pps_nil) (by rfl) (by rfl) (fun z => by cases z) (by decide)) pa_nil))))))))))))))))))))
      (pss_one (ps_ret (pe_call GP hr rfl gP kP bP .nil pass0 (pa_cons (pv 0) (pa_cons (pv 1) pa_nil)))))), ?_⟩
    have zs : 0 ≤ sizeLine := Nat.zero_le _
    have os : 1 ≤ sizeLine := by decide
    have ts : 2 ≤ sizeLine := by decide
    refine ⟨zs, fun t1 h1 => ⟨zs, fun l1 h2 => fun d1 h3 => ⟨_, rfl, _, _, rfl, rfl, ⟨by decide, by decide, by decide⟩, os, fun t2 h4 => ⟨os, fun l2 h5 => ⟨zs, fun t3 h6 => ⟨os, fun t4 h7 => ⟨ts, fun t5 h8 => fun d2 h9 => ⟨upd_same, [(Sum.inl 0, .int 0)], rfl, (by decide), ?_⟩⟩⟩⟩⟩⟩⟩⟩
    refine ⟨(by show 18 ≤ sizeLine; decide), fun L hL => ?_⟩
    have c1 := up2 (o := .tup []) h1
    have c2 := up2 (o := .lst []) h2
    have c3 := up2 (o := .dK []) h3
    have c4 := up2 (o := .tup [V.int 0]) h4
    have c5 := up2 (o := .lst [V.int 0]) h5
    have c6 := up2 (o := .tup []) h6
    have c7 := up2 (o := .tup [V.ref t3]) h7
    have c8 := up2 (o := .tup [V.int 1, V.int 2]) h8
    have c10 := same_upd (o := .dK (mergeK [] [(Sum.inl 0, V.int 0)])) (up2 (o := .dK []) h9) h9
    have r8 := c10.trans (up2 (o := .lst [.non, .bl true, .bl false, .str "", .str "ann", .str "less", .ref t1, .ref l1, .ref d1, .int (-1), .int (10 ^ 39), .int 0, .int 7, .ref t2, .ref l2, .ref t4, .ref t5, .ref d2]) hL)
    have r7 := c8.trans r8
    have r6 := c7.trans r7
    have r5 := c6.trans r6
    have r4 := c5.trans r5
    have r3 := c4.trans r4
    have r2 := c3.trans r3
    have r1 := c2.trans r2
    have r0 := c1.trans r1
    have hp' := pen_same hp r0
    refine ⟨_, rfl, _, rfl, p, L, _, rfl, hp', upd_same, ?_, ⟨(by show 0 < 18; decide), (by show 18 ≤ 1000; decide)⟩, fun v H' hv kp => ?_⟩
    · exact pen_ne hp' upd_same (fun x f z => by injection z with z; injection z with z _; cases z)
    · refine q v H' (((Kp.refl hp).same r0).trans kp) (Th.kp ?_ kp)
      simp only [List.mem_cons, List.not_mem_nil, or_false] at hv
      rcases hv with rfl | rfl | rfl | rfl | rfl | rfl | rfl | rfl | rfl | rfl | rfl | rfl | rfl | rfl | rfl | rfl | rfl | rfl
      · exact .non
      · exact .bl _
      · exact .bl _
      · exact .str _
      · exact .str _
      · exact .str _
      · exact .tup (r1 _ _ upd_same)
      · exact .lst (r2 _ _ upd_same)
      · exact .dic (r3 _ _ upd_same)
      · exact .int _
      · exact .int _
      · exact .int _
      · exact .int _
      · exact .tup (r4 _ _ upd_same)
      · exact .lst (r5 _ _ upd_same)
      · exact .tup (r7 _ _ upd_same)
      · exact .tup (r8 _ _ upd_same)
      · exact .dic ((up2 (o := .lst _) hL) _ _ upd_same)
end
end K5
set_option Elab.async false
set_option linter.all false
set_option maxRecDepth 100000
set_option maxHeartbeats 4000000
namespace K5
open PySem PySem.Spec PyProof.Rows L2 Bb
section
variable {P : Program} {w : World} {K : PySem.W.Frag} {mg : Str → Option Value} {base : Heap} {f : Addr} {fd : FuncData}
theorem scOdd : FnScope ["_law_pen_here", "_law_least", "_law_greatest", "_law_far"] ["_law_pen_here", "_law_least", "_law_greatest"] (defScope sOdd) := ⟨rfl, rfl, rfl, by decide +kernel, rfl, by decide +kernel, by decide +kernel⟩
theorem ok_odd (F : Fn K "_law_odd" "_law_odd" sOdd f fd) (h : Hl K mg) : FnOk P w K mg base L2.CX0 3 f fd ["_law_pen_here", "_law_least", "_law_greatest"] spOdd := by
  obtain ⟨aP, dP, GP, gP, kP, bP⟩ := h.pk (P := P) (w := w) (base := base)
  refine F.ok scOdd (fun vs H Q E h => ?_) (fun cdv A outer s H vs Q E hr hh => ?_)
  · obtain ⟨p, lo, hi, rfl, _⟩ := h
    rfl
  · obtain ⟨p, lo, hi, rfl, hp, q⟩ := hh
    refine ⟨_, PSs.nox (pss_cons (ps_set (i := 3) scOdd.nd rfl (.inl rfl) (pe_lst (pa_cons (pv 1) (pa_cons (pv 2) (pa_cons (pe_op op_sub (pv 1) pe_int) (pa_cons (pe_op op_add (pv 2) pe_int) (pa_cons (pe_op op_pow pe_int pe_int)
        (pa_cons (pe_un un_neg (pe_op op_pow pe_int pe_int)) (pa_cons pe_bl (pa_cons pe_bl (pa_cons pe_non (pa_cons pe_str (pa_cons (pe_tup (pa_cons pe_int pa_nil)) (pa_cons (pe_lst (pa_cons pe_int pa_nil)) pa_nil))))))))))))))
      (pss_one (ps_ret (pe_call GP hr rfl gP kP bP .nil pass0 (pa_cons (pv 0) (pa_cons (pv 3) pa_nil)))))), ?_⟩
    have os : 1 ≤ sizeLine := by decide
    refine ⟨_, rfl, _, rfl, _, rfl, _, _, rfl, rfl, _, rfl, _, _, rfl, rfl, _, _, rfl, rfl, ⟨by decide, by decide, by decide⟩, _, _, rfl, rfl, ⟨by decide, by decide, by decide⟩, _, rfl, os, fun t1 h1 => ⟨os, fun l1 h2 => ⟨(by show 12 ≤ sizeLine; decide), fun L hL => ?_⟩⟩⟩
    have c1 := up2 (o := .tup [V.int 1]) h1
    have c2 := up2 (o := .lst [V.int 0]) h2
    have r2 := up2 (o := .lst [.int lo, .int hi, .int (lo - 1), .int (hi + 1), .int (10 ^ 39), .int (-(10 ^ 39)), .bl true, .bl false, .non, .str "1", .ref t1, .ref l1]) hL
    have r1 := c2.trans r2
    have r0 := c1.trans r1
    have hp' := pen_same hp r0
    refine ⟨_, rfl, _, rfl, p, L, _, rfl, hp', upd_same, ?_, ⟨(by show 0 < 12; decide), (by show 12 ≤ 1000; decide)⟩, fun v H' hv kp => ?_⟩
    · exact pen_ne hp' upd_same (fun x f z => by injection z with z; injection z with _ z; injection z with _ z; cases z)
    · refine q v H' (((Kp.refl hp).same r0).trans kp) (Th.kp ?_ kp)
      simp only [List.mem_cons, List.not_mem_nil, or_false] at hv
      rcases hv with rfl | rfl | rfl | rfl | rfl | rfl | rfl | rfl | rfl | rfl | rfl | rfl
      · exact .int _
      · exact .int _
      · exact .int _
      · exact .int _
      · exact .int _
      · exact .int _
      · exact .bl _
      · exact .bl _
      · exact .non
      · exact .str _
      · exact .tup (r1 _ _ upd_same)
      · exact .lst (r2 _ _ upd_same)
theorem scNum : FnScope ["_law_thing", "_law_least", "_law_greatest"] ["_law_thing", "_law_least", "_law_greatest"] (defScope sNum) := ⟨rfl, rfl, rfl, by decide +kernel, rfl, by decide +kernel, by decide +kernel⟩
theorem ok_num (F : Fn K "_law_number" "_law_number" sNum f fd) (T : Free mg) : FnOk P w K mg base L2.CX0 1 f fd ["_law_thing", "_law_least", "_law_greatest"] spFrom := by
  refine F.ok scNum (fun vs H Q E h => ?_) (fun cdv A outer s H vs Q E hr hh => ?_)
  · obtain ⟨x, lo, hi, rfl, _⟩ := h
    rfl
  · obtain ⟨x, lo, hi, rfl, hx, q⟩ := hh
    obtain ⟨n, ty, k1, k2⟩ := hx.ty (K := K)
    refine ⟨_, PSs.nox (pss_one (ps_ret (pe_and (pe_callB call_isi rfl T.isi boot_isinstance (pa_cons (pv 0) (pa_cons (pe_bltn rfl T.int_ (by decide +kernel) (v := .ty "int") rfl) pa_nil)))
      (pe_and (pe_not (pe_callB call_isi rfl T.isi boot_isinstance (pa_cons (pv 0) (pa_cons (pe_bltn rfl T.bool_ (by decide +kernel) (v := .ty "bool") rfl) pa_nil))))
      (pe_one (pe_chain op_le op_le (pv 1) (pv 0) (pv 2))))))), ?_⟩
    refine ⟨x, rfl, _, _, _, _, _, rfl, .ty "int", ty, kit_ty k1, _, rfl, ?_⟩
    cases x with
    | int i =>
      refine ⟨_, rfl, _, _, _, _, _, rfl, .ty "bool", ty, kit_ty k2, _, rfl, _, rfl, iteT ?_⟩
      refine ⟨_, rfl, _, rfl, _, _, rfl, rfl, _, rfl, ?_⟩
      refine ite2 (fun c => ?_) (fun c => ?_)
      · refine ⟨_, rfl, _, _, rfl, rfl, ?_⟩
        have e : numIn lo hi (.int i) = decide (i ≤ hi) := by
          show (decide (lo ≤ i) && decide (i ≤ hi)) = _
          rw [c, Bool.true_and]
        rw [e] at q
        exact q
      · have e : numIn lo hi (.int i) = false := by
          show (decide (lo ≤ i) && decide (i ≤ hi)) = _
          rw [Bool.eq_false_iff.mpr c, Bool.false_and]
        rw [e] at q
        exact q
    | bl b => exact ⟨_, rfl, _, _, _, _, _, rfl, .ty "bool", ty, kit_ty k2, _, rfl, _, rfl, iteF q⟩
    | _ => exact q
end
end K5
set_option Elab.async false
set_option linter.all false
set_option maxRecDepth 100000
set_option maxHeartbeats 4000000
namespace K5
open PySem PySem.Spec PyProof.Rows L2 Bb
/-! which refusal it is: the classes in the order of the law's tests, the words -/
abbrev kOrd : List Str := ["NoMark", "NoWay", "NoRules", "NoAge", "NoPerson", "NoDay", "NoDeed", "NoSheet", "NoWord", "NoBook", "NoText", "NoName"]
abbrev kTxt : Str := "nomark noway norules noage noperson noday nodeed nosheet noword nobook notext noname"
def kWords : List Str := ["nomark", "noway", "norules", "noage", "noperson", "noday", "nodeed", "nosheet", "noword", "nobook", "notext", "noname"]
theorem kSplit : Txt.split kTxt " " = kWords := by decide +kernel
def bsV (j : Nat) : List V := [.bl (decide (0 = j)), .bl (decide (1 = j)), .bl (decide (2 = j)), .bl (decide (3 = j)), .bl (decide (4 = j)), .bl (decide (5 = j)), .bl (decide (6 = j)), .bl (decide (7 = j)), .bl (decide (8 = j)), .bl (decide (9 = j)), .bl (decide (10 = j)), .bl (decide (11 = j))]
theorem bs_flat (j : Nat) : (bsV j).all flatV = true := rfl
theorem bs_count : ∀ j : Fin 12, (bsV j).countP (fun z => eqV z (.bl true)) = 1 := by decide +kernel
theorem bs_at : ∀ j : Fin 12, (bsV j)[(j : Nat)]? = some (.bl true) := by
  intro j
  match j with
  | ⟨0, _⟩ => rfl
  | ⟨1, _⟩ => rfl
  | ⟨2, _⟩ => rfl
  | ⟨3, _⟩ => rfl
  | ⟨4, _⟩ => rfl
  | ⟨5, _⟩ => rfl
  | ⟨6, _⟩ => rfl
  | ⟨7, _⟩ => rfl
  | ⟨8, _⟩ => rfl
  | ⟨9, _⟩ => rfl
  | ⟨10, _⟩ => rfl
  | ⟨11, _⟩ => rfl
theorem bs_no : ∀ j m : Fin 12, m < j → ((bsV j)[(m : Nat)]?.all fun z => !eqV z (.bl true)) = true := by decide +kernel
/-- what the class D of errors must say: it is the j-th -/
structure Kd (K : PySem.W.Frag) (mg : Str → Option Value) (D : Addr) (j : Fin 12) : Prop where
  c : ∀ (i : Nat) (x : Str), kOrd[i]? = some x → ∃ C, mg x = some (.ref C) ∧ PySem.W.kitOne K (.ref D) (.ref C) = some (decide (i = (j : Nat)))
  ve : PySem.W.kitOne K (.ref D) (.type "ValueError") = some true
  le : PySem.W.kitOne K (.ref D) (.type "LookupError") = some false
  ex : ExcC K D
section
variable {P : Program} {w : World} {K : PySem.W.Frag} {mg : Str → Option Value} {base : Heap} {f : Addr} {fd : FuncData}
abbrev nKind : List Str := ["_law_e", "_law_tests", "_law_kinds"]
theorem scKind : FnScope nKind ["_law_e"] (defScope sKind) := ⟨rfl, rfl, rfl, by decide +kernel, rfl, by decide +kernel, by decide +kernel⟩
theorem ok_kind {D : Addr} {j : Fin 12} {z : Str} (F : Fn K "_law_kind" "_law_kind" sKind f fd) (T : Free mg) (k : Kd K mg D j) (hz : kWords[(j : Nat)]? = some z) : FnE P w K mg base 1 f fd ["_law_e"] D (.str z) := by
  refine fnE F scKind fun cdv A outer s H a oe Q hr hZ hd back => ?_
  obtain ⟨C0, g0, e0⟩ := k.c 0 _ rfl
  obtain ⟨C1, g1, e1⟩ := k.c 1 _ rfl
  obtain ⟨C2, g2, e2⟩ := k.c 2 _ rfl
  obtain ⟨C3, g3, e3⟩ := k.c 3 _ rfl
  obtain ⟨C4, g4, e4⟩ := k.c 4 _ rfl
  obtain ⟨C5, g5, e5⟩ := k.c 5 _ rfl
  obtain ⟨C6, g6, e6⟩ := k.c 6 _ rfl
  obtain ⟨C7, g7, e7⟩ := k.c 7 _ rfl
  obtain ⟨C8, g8, e8⟩ := k.c 8 _ rfl
  obtain ⟨C9, g9, e9⟩ := k.c 9 _ rfl
  obtain ⟨C10, g10, e10⟩ := k.c 10 _ rfl
  obtain ⟨C11, g11, e11⟩ := k.c 11 _ rfl
  let X := L2H.cxH (fun _ _ _ _ _ _ => False) P w K mg base nKind "_law_kind" (defScope sKind) f cdv A outer s H (fun _ _ _ => False) (a, oe)
  have isi : CallR X (.builtin "isinstance") (rIsE K D a) := call_isP (X := X) List.mem_cons_self k.ex hZ hd
  have cmp : ∀ {C : Addr} {x : Str} {p q r t : Pos}, mg x = some (.ref C) → Gl X x → (x == ("__debug__" : Str)) = false →
      PE X (.Call (.Name "isinstance" p) [.Name "_law_e" q, .Name x r] [] t) (tCB (rIsE K D a) (tCons (tVar 0) (tCons (tC (.ref C)) tNil))) := fun g gl db => pe_callB isi rfl T.isi boot_isinstance (pa_cons (pv 0) (pa_cons (pe_glob gl g (v := .ref _) rfl db) pa_nil))
  refine ⟨_, pss_cons (ps_set (i := 1) scKind.nd rfl (.inl rfl) (pe_lst (pa_cons (cmp g0 rfl (by decide)) (pa_cons (cmp g1 rfl (by decide)) (pa_cons (cmp g2 rfl (by decide)) (pa_cons (cmp g3 rfl (by decide)) pa_nil))))))
    (pss_cons (ps_set (i := 1) scKind.nd rfl (.inl rfl) (pe_op op_cat (pv 1) (pe_lst (pa_cons (cmp g4 rfl (by decide)) (pa_cons (cmp g5 rfl (by decide)) (pa_cons (cmp g6 rfl (by decide)) (pa_cons (cmp g7 rfl (by decide)) pa_nil)))))))
    (pss_cons (ps_set (i := 1) scKind.nd rfl (.inl rfl) (pe_op op_cat (pv 1) (pe_lst (pa_cons (cmp g8 rfl (by decide)) (pa_cons (cmp g9 rfl (by decide)) (pa_cons (cmp g10 rfl (by decide)) (pa_cons (cmp g11 rfl (by decide)) pa_nil)))))))
    (pss_cons (ps_if (PW.pt (pw_or (pt_cmpR op_ne (pe_bm PySem.F.plainAttrs_list PySem.F.slot_list_count PySem.F.type_list_count mt_countF (pv 1) (pa_cons pe_bl pa_nil)) pe_int (nomark _))
        (pw_or (pt_not (pt_val (pe_callB isi rfl T.isi boot_isinstance (pa_cons (pv 0) (pa_cons (pe_bltn rfl T.ve_ (by decide +kernel) (v := .ty "ValueError") rfl) pa_nil)))))
        (pw_or1 (pt_val (pe_callB isi rfl T.isi boot_isinstance (pa_cons (pv 0) (pa_cons (pe_bltn rfl T.le_ (by decide +kernel) (v := .ty "LookupError") rfl) pa_nil)))))))) (pss_one (ps_ret pe_str)) pss_nil)
    (pss_cons (ps_set (i := 2) scKind.nd rfl (.inl rfl) pe_str)
    (pss_one (ps_ret (pe_ix ix_list (pe_bm PySem.F.plainAttrs_str PySem.F.slot_str_split PySem.F.type_str_split mt_split (pv 2) (pa_cons pe_str pa_nil)) (pe_bm PySem.F.plainAttrs_list PySem.F.slot_list_index PySem.F.type_list_index mt_index (pv 1) (pa_cons pe_bl pa_nil)) (fun _ _ => rfl)))))))), ?_⟩
  have own : ∀ {C : Addr} (u : Value), RelV (.ref C) u → u = .ref C := fun u r => r
  have fs : 4 ≤ sizeLine := by decide
  refine ⟨_, rfl, _, _, _, rfl, own, e0, _, rfl, _, _, _, rfl, own, e1, _, rfl, _, _, _, rfl, own, e2, _, rfl, _, _, _, rfl, own, e3, fs, fun l1 h1 => ?_⟩
  have s1 := up2 (o := .lst [.bl (decide (0 = (j : Nat))), .bl (decide (1 = (j : Nat))), .bl (decide (2 = (j : Nat))), .bl (decide (3 = (j : Nat)))]) h1
  refine ⟨_, rfl, _, rfl, _, _, _, rfl, own, e4, _, rfl, _, _, _, rfl, own, e5, _, rfl, _, _, _, rfl, own, e6, _, rfl, _, _, _, rfl, own, e7, fs, fun l2 h2 => ?_⟩
  have s2 := up2 (o := .lst [.bl (decide (4 = (j : Nat))), .bl (decide (5 = (j : Nat))), .bl (decide (6 = (j : Nat))), .bl (decide (7 = (j : Nat)))]) h2
  refine ⟨l1, l2, _, _, rfl, rfl, s2 _ _ upd_same, upd_same, (by show 4 + 4 ≤ sizeLine; decide), fun l3 h3 => ?_⟩
  have s3 := up2 (o := .lst ([.bl (decide (0 = (j : Nat))), .bl (decide (1 = (j : Nat))), .bl (decide (2 = (j : Nat))), .bl (decide (3 = (j : Nat)))] ++ [.bl (decide (4 = (j : Nat))), .bl (decide (5 = (j : Nat))), .bl (decide (6 = (j : Nat))), .bl (decide (7 = (j : Nat)))])) h3
  refine ⟨_, rfl, _, rfl, _, _, _, rfl, own, e8, _, rfl, _, _, _, rfl, own, e9, _, rfl, _, _, _, rfl, own, e10, _, rfl, _, _, _, rfl, own, e11, fs, fun l4 h4 => ?_⟩
  have s4 := up2 (o := .lst [.bl (decide (8 = (j : Nat))), .bl (decide (9 = (j : Nat))), .bl (decide (10 = (j : Nat))), .bl (decide (11 = (j : Nat)))]) h4
  refine ⟨l3, l4, _, _, rfl, rfl, s4 _ _ upd_same, upd_same, (by show 8 + 4 ≤ sizeLine; decide), fun l5 h5 => ?_⟩
  have s5 := up2 (o := .lst (bsV j)) h5
  have all : Same H _ := (s1.trans s2).trans (s3.trans (s4.trans s5))
  refine ⟨_, rfl, .inl ⟨rfl, _, SqL.of upd_same⟩, l5, bsV j, .bl true, rfl, rfl, SqL.of upd_same, rfl, bs_flat j, rfl, _, rfl, ?_⟩
  have c1 : ((((bsV j).countP fun z => eqV z (.bl true)) : Nat) : Int) = 1 := by
    rw [bs_count j]
    rfl
  show if (!decide (V.int ((((bsV j).countP fun z => eqV z (.bl true)) : Nat) : Int) = V.int 1)) = true then _ else _
  rw [c1]
  refine iteF ?_
  refine ⟨_, rfl, _, _, _, rfl, (fun u r => r), k.ve, _, rfl, ?_⟩
  refine iteF ?_
  refine ⟨_, rfl, _, _, _, rfl, (fun u r => r), k.le, _, rfl, ?_⟩
  refine iteF ?_
  refine ⟨_, rfl, rfl, _, _, rfl, rfl, rfl, (by decide +kernel), fun l6 h6 => ?_⟩
  have s6 := up2 (o := .lst ((Txt.split kTxt " ").map V.str)) h6
  have h5b : (upd _ l6 (.lst ((Txt.split kTxt " ").map V.str))) l5 = some (.lst (bsV j)) := s6 _ _ upd_same
  refine ⟨_, rfl, .inl ⟨rfl, _, SqL.of h5b⟩, l5, bsV j, .bl true, j, .bl true, rfl, rfl, SqL.of h5b, rfl, bs_flat j, bs_at j, rfl, ?_, ?_⟩
  · intro m z' hm hz'
    have lt : m < 12 := Nat.lt_trans hm j.isLt
    have q := bs_no j ⟨m, lt⟩ hm
    have hz2 : (bsV j)[((⟨m, lt⟩ : Fin 12) : Nat)]? = some z' := hz'
    rw [hz2] at q
    simpa using q
  · refine ⟨l6, (Txt.split kTxt " ").map V.str, _, .str z, rfl, rfl, SqL.of upd_same, ?_, back _ (all.trans s6)⟩
    refine at_of (j := (j : Nat)) rfl ?_
    rw [kSplit, List.getElem?_map, hz]
    rfl
end
end K5
set_option Elab.async false
set_option linter.all false
set_option maxRecDepth 100000
set_option maxHeartbeats 4000000
namespace K5
open PySem PySem.Spec PyProof.Rows L2 Bb
/-! came: what is told, or the refusal. kt: the classes that the call may raise, each with its word -/
def wish (kt : List (Addr × Str)) (Q : VK) : XK := fun cls d H' => d = none ∧ ∃ D z, (D, z) ∈ kt ∧ cls = .ref D ∧ ∀ H'', Same H' H'' → ∀ p, H'' p = none → Q (.ref p) (upd H'' p (.tup [.str "no", .str z]))
def TCame (kt : List (Addr × Str)) : (XK → Hp → VK → Prop) → Hp → VK → Prop := fun tl H Q =>
  tl (wish kt Q) H (fun v H' => [V.str "told", v].length ≤ sizeLine ∧ ∀ p, H' p = none → Q (.ref p) (upd H' p (.tup [.str "told", v])))
/-- what a class of errors says in the law -/
structure Er (K : PySem.W.Frag) (mg : Str → Option Value) (CC : Addr) (D : Addr) (z : Str) : Prop where
  kd : ∃ j : Fin 12, Kd K mg D j ∧ kWords[(j : Nat)]? = some z
  ex : PySem.W.exmOne K (.ref D) (.ref CC) = some true
abbrev nCame : List Str := ["_law_call", "_law_e"]
theorem scCame : FnScope nCame ["_law_call"] (defScope sCame) := ⟨rfl, rfl, rfl, by decide +kernel, rfl, by decide +kernel, by decide +kernel⟩
theorem came_gives {X : Cx} {g fK CC CP : Addr} {fdK : FuncData} {cdg : Value} {q : Str} {kt : List (Addr × Str)} {m : Nat} (hr : Room (m + 2) X.A) (FK : Fn X.K "_law_kind" "_law_kind" sKind fK fdK) (gK : X.mg "_law_kind" = some (.ref fK)) (T : Free X.mg)
    (gC : X.mg "ClubError" = some (.ref CC)) (gP : X.mg "NoPlace" = some (.ref CP)) (hk : ∀ D z, (D, z) ∈ kt → Er X.K X.mg CC D z) :
    LamX.GivesTo X nCame "_law_came" (defScope sCame) g cdg (defBody sCame) "_law_call" q (TCame kt) := by
  intro f c' s H Q tl act hc h
  let Z : Cx := (cxOf C8.CX0 X.prog X.w X.K X.mg X.base nCame "_law_came" (defScope sCame) g cdg X.A X.stack s H C8.E0).nox
  have bK : Binds X.K fdK ["_law_e"] [] := FK.bindsN fun _ _ _ _ _ _ us hl => match us, hl with | [_], _ => rfl
  have room : L2H.RoomH 1 Z.A := ((L2H.roomH_of hr).mono (by omega)).deeper _
  let ts1 : Addr → Value → Option Addr → TS := fun a cls d => fun De σ H => ∃ D z, cls = .ref D ∧ d = none ∧ (D, z) ∈ kt ∧
    (σ.length = 2 → tRet (tTup (tCons (tC (.str "no")) (tCons (fun σ H Q => (tCons (tVar 1) tNil) σ H fun vs H1 => vs = [.ref a] ∧ ∀ H', (∀ b o, H1 b = some o → H' b = some o) → Q (.str z) H') tNil))) De σ H)
  refine ⟨_, pss_one (ps_try_all (X := Z) (l := [(.ref CC, 1, ts1), (.ref CP, 1, fun _ _ _ => tNever)]) (Wout := fun _ _ _ _ => False)
    (tb := fun W D σ H => ∃ Ech : XK, (∀ cls d σ' H', Ech cls d H' → W cls d σ' H') ∧ tRet (tTup (tCons (tC (.str "told")) (tCons (fun σZ HZ Q => σZ[0]? = some (some (.ref f)) ∧ HZ c' = some (LamX.CodeO c' q) ∧ tl Ech HZ Q) tNil))) D σ H)
    rfl rfl scCame.nd LamX.takes0 (fun W pn xe tk _ => ?_)
    (.cons rfl rfl ⟨rfl, by decide, .inl gC⟩ (fun a oe cls d pn hz hf => ?_) (.cons rfl rfl ⟨rfl, by decide, .inl gP⟩ (fun a oe cls d pn hz hf => pss_never) .nil))), ?_⟩
  · refine ⟨fun pins s' σ H' D I h' => ?_⟩
    obtain ⟨Ech, hW, h1⟩ := h'
    exact (pss_one (ps_ret (pe_tup (pa_cons pe_str (pa_cons (act W pn xe Ech _ _ tk hW) pa_nil))))).run pins s' σ H' D I h1
  · refine ⟨fun pins s' σ H' De I h' => ?_⟩
    obtain ⟨D, z, rfl, rfl, hm, h1⟩ := h'
    obtain ⟨j, kd, hw⟩ := (hk D z hm).kd
    have FE : FnE X.prog X.w X.K X.mg X.base 1 fK fdK ["_law_e"] D (.str z) := ok_kind FK T kd hw
    exact (pss_one (ps_ret (pe_tup (pa_cons pe_str (pa_cons (pe_callE (X := Z) (x := "_law_kind") FE room rfl gK FK.kp bK hz hf (pa_cons (pv 1) pa_nil)) pa_nil))))).run pins s' σ H' De I (h1 I.len)
  · refine ⟨wish kt Q, ?_, ?_⟩
    · rintro cls d σ' H' ⟨rfl, D, z, hm, rfl, back⟩
      refine ⟨true, (hk D z hm).ex, fun _ a ha => ?_, fun e => by cases e⟩
      refine ⟨D, z, rfl, rfl, hm, fun hlen => ?_⟩
      have e : (σ'.set 1 (some (V.ref a)))[1]? = some (some (V.ref a)) := by
        rw [List.length_set] at hlen
        rw [List.getElem?_set_self (by omega)]
      exact ⟨_, e, rfl, fun H'' sm => ⟨(by show 2 ≤ sizeLine; decide), fun p hp => back H'' sm p hp⟩⟩
    · exact ⟨rfl, hc, h⟩
end K5
set_option Elab.async false
set_option linter.all false
set_option maxRecDepth 100000
set_option maxHeartbeats 4000000
namespace K5
open PySem PySem.Spec PyProof.Rows L2 Bb
/-! is_name, is_team of a text; is_day of anything -/
def nameZ (z : Str) : Bool := decide (1 ≤ z.length ∧ z.length ≤ 8) && z.cps.toList.all (fun c => decide (c ∈ letters.cps.toList))
theorem nameZ_of {z : Str} {b : Bool} (h1 : 1 ≤ z.length) (h2 : z.length ≤ 8) (e : b = z.cps.toList.all (fun c => decide (c ∈ letters.cps.toList))) : nameZ z = b := by
  unfold nameZ
  rw [decide_eq_true ⟨h1, h2⟩, Bool.true_and, e]
theorem nameZ_no {z : Str} (h : ¬ (1 ≤ z.length ∧ z.length ≤ 8)) : nameZ z = false := by
  unfold nameZ
  rw [decide_eq_false h, Bool.false_and]
theorem take_sn {α : Type} {l : List α} {i : Nat} {x : α} (h : l[i]? = some x) : l.take (i + 1) = l.take i ++ [x] := by
  rw [List.take_succ, h]
  rfl
theorem strlen (z : Str) : z.length = z.cps.toList.length := by
  show z.cps.size = _
  rw [Array.length_toList]
theorem sign_at {z : Str} {i : Nat} {c : Nat} (h : z.cps[i]? = some c) : z.cps.toList[i]? = some c := by
  rw [Array.getElem?_toList]
  exact h
def spNameS : Sp := fun vs H Q _ => ∃ (z : Str) (b : Bool), vs = [.str z] ∧ z.length ≤ 1000 ∧ nameZ z = b ∧ ∀ H', Same H H' → Q (.bl b) H'
def spTeamS : Sp := fun vs H Q _ => ∃ (z : Str) (b : Bool), vs = [.str z] ∧ z.length ≤ 1000 ∧ (nameZ z || decide (z = "")) = b ∧ ∀ H', Same H H' → Q (.bl b) H'
def spDay : Sp := fun vs H Q _ => ∃ (x : V) (b : Bool), vs = [x] ∧ Th H x ∧ numIn (-40000) 40000 x = b ∧ Q (.bl b) H
section
variable {P : Program} {w : World} {K : PySem.W.Frag} {mg : Str → Option Value} {base : Heap} {f : Addr} {fd : FuncData}
theorem scIsName : FnScope ["thing", "letter"] ["thing"] (defScope sIsName) := ⟨rfl, rfl, rfl, by decide +kernel, rfl, by decide +kernel, by decide +kernel⟩
theorem ok_isnameS (F : Fn K "is_name" "is_name" sIsName f fd) (T : Free mg) (C : Cons mg) : FnOk P w K mg base L2.CX0 1 f fd ["thing"] spNameS := by
  refine F.ok scIsName (fun vs H Q E h => ?_) (fun cdv A outer s H vs Q E hr hh => ?_)
  · obtain ⟨z, b, rfl, _⟩ := h
    rfl
  · obtain ⟨z, b, rfl, hz, e, q⟩ := hh
    subst e
    refine ⟨_, PSs.nox (pss_cons (ps_if (PW.pt (pw_or (pt_not (pt_val (pe_callB call_isi rfl T.isi boot_isinstance (pa_cons (pv 0) (pa_cons (pe_bltn rfl T.str_ (by decide +kernel) (v := .ty "str") rfl) pa_nil)))))
        (pw_or1 (pt_not (pt_chain op_le op_le pe_int (pe_callB call_len_str rfl T.len_ boot_len (pa_cons (pv 0) pa_nil)) (pe_k C.long rfl)))))) (pss_one (ps_ret pe_bl)) pss_nil)
      (pss_one (ps_ret (pe_callB (cr_all rfl) rfl T.all_ (by decide +kernel) (pa_cons (pe_lc (own := [("letter", 1)]) (g := gName 1) (tt := tYes) rfl scIsName.nd (pi_str (pv 0)) (blkOk_by (N := ["thing", "letter"]) (sc := defScope sIsName) (by decide +kernel)) (fun _ _ _ _ _ => pg_name (i := 1) scIsName.nd rfl (Or.inl rfl)) (fun _ _ _ _ _ => pts_nil)
        (fun _ _ _ _ _ => pe_cmpR op_in_sign (pv 1) (pe_kS C.lett rfl) rfl)) pa_nil))))), ?_⟩
    refine ⟨_, rfl, _, _, _, _, _, rfl, .ty "str", .base (.str z), kit_ty (r := true) (by decide +kernel), _, rfl, ?_⟩
    refine iteF ?_
    refine ⟨_, rfl, z, rfl, Nat.le_of_lt (small1000 (by omega)), _, _, rfl, rfl, _, rfl, ?_⟩
    refine ite2 (fun c => ?_) (fun c => ?_)
    · have h1 : (1 : Int) ≤ (z.length : Int) := of_decide_eq_true c
      refine ⟨_, _, rfl, rfl, _, rfl, ?_⟩
      refine ite2 (fun c2 => ?_) (fun c2 => ?_)
      · have h2 : ¬ ((z.length : Int) ≤ 8) := by simpa using c2
        have e : nameZ z = false := nameZ_no (fun z => h2 (by omega))
        rw [e] at q
        exact q H (Same.refl H)
      · have h2 : ((z.length : Int) ≤ 8) := by simpa using c2
        refine ⟨_, rfl, z, rfl, fun D hD => lc_it walk_str (fun i H' => Same H H' ∧ H' D = some (.lst ((z.cps.toList.take i).map fun c => V.bl (decide (c ∈ letters.cps.toList)))))
          ⟨up2 hD, by rw [List.take_zero]; exact upd_same⟩ (fun _ _ _ _ => True.intro) ?_ ?_⟩
        · rintro i v H1 H2 hi ⟨sm, hl⟩ ⟨rfl, c, hc, rfl⟩
          refine ⟨rfl, ?_⟩
          unfold tYes
          dsimp only
          rw [if_pos rfl]
          refine ⟨_, rfl, c, _, rfl, rfl, _, hl, small1000 ?_, same_upd sm hD, ?_⟩
          · rw [List.length_map, List.length_take]
            have := strlen z
            omega
          · rw [upd_same, take_sn (sign_at hc), List.map_append]
            rfl
        · rintro H1 ⟨sm, hl⟩
          rw [show z.cps.size = z.cps.toList.length by rw [Array.length_toList], List.take_length] at hl
          refine ⟨D, z.cps.toList.map (fun c => decide (c ∈ letters.cps.toList)), rfl, ?_, ?_⟩
          · have e : (z.cps.toList.map (fun c => decide (c ∈ letters.cps.toList))).map V.bl = z.cps.toList.map fun c => V.bl (decide (c ∈ letters.cps.toList)) := by
              rw [List.map_map]
              rfl
            rw [e]
            exact SqL.of hl
          · have e : nameZ z = (z.cps.toList.map (fun c => decide (c ∈ letters.cps.toList))).all id := nameZ_of (by omega) (by omega) (by rw [List.all_map]; rfl)
            rw [e] at q
            exact q H1 sm
    · have h1 : ¬ ((1 : Int) ≤ (z.length : Int)) := fun z => c (decide_eq_true z)
      refine ⟨_, rfl, iteT ?_⟩
      have e : nameZ z = false := nameZ_no (fun z => h1 (by omega))
      rw [e] at q
      exact q H (Same.refl H)
theorem scIsTeam : FnScope ["thing"] ["thing"] (defScope sIsTeam) := ⟨rfl, rfl, rfl, by decide +kernel, rfl, by decide +kernel, by decide +kernel⟩
theorem ok_isteamS {fN : Addr} {fdN : FuncData} (F : Fn K "is_team" "is_team" sIsTeam f fd) (FN : Fn K "is_name" "is_name" sIsName fN fdN) (gN : mg "is_name" = some (.ref fN)) (T : Free mg) (C : Cons mg) : FnOk P w K mg base L2.CX0 2 f fd ["thing"] spTeamS := by
  have GN : FnOk P w K mg base L2.CX0 1 fN fdN ["thing"] spNameS := ok_isnameS FN T C
  have bN : Binds K fdN ["thing"] [] := FN.bindsN fun _ _ _ _ _ _ us hl => match us, hl with | [_], _ => rfl
  refine F.ok scIsTeam (fun vs H Q E h => ?_) (fun cdv A outer s H vs Q E hr hh => ?_)
  · obtain ⟨z, b, rfl, _⟩ := h
    rfl
  · obtain ⟨z, b, rfl, hz, e, q⟩ := hh
    refine ⟨_, PSs.nox (pss_one (ps_ret (pe_or (pe_call GN hr rfl gN FN.kp bN .nil pass0 (pa_cons (pv 0) pa_nil)) (pe_one (pe_cmpR op_eq (pv 0) pe_str (nomark _)))))), ?_⟩
    refine ⟨_, rfl, z, _, rfl, hz, rfl, fun H1 s1 => ⟨_, rfl, ?_⟩⟩
    refine ite2 (fun c => ?_) (fun c => ?_)
    · rw [c, Bool.true_or] at e
      subst e
      exact q H1 s1
    · rw [Bool.eq_false_iff.mpr c, Bool.false_or] at e
      refine ⟨_, rfl, rfl, ?_⟩
      have e2 : decide (V.str z = V.str "") = b := by
        rw [← e]
        by_cases zz : z = ""
        · rw [decide_eq_true zz, decide_eq_true (congrArg V.str zz)]
        · rw [decide_eq_false zz, decide_eq_false (fun h => zz (V.str.inj h))]
      rw [e2]
      exact q H1 s1
theorem scIsDay : FnScope ["thing"] ["thing"] (defScope sIsDay) := ⟨rfl, rfl, rfl, by decide +kernel, rfl, by decide +kernel, by decide +kernel⟩
theorem ok_isday {fF fN : Addr} {fdF fdN : FuncData} (F : Fn K "is_day" "is_day" sIsDay f fd) (FF : Fn K "is_number_from" "is_number_from" sFrom fF fdF) (gF : mg "is_number_from" = some (.ref fF)) (FN : Fn K "is_number" "is_number" sIsNum fN fdN) (gN : mg "is_number" = some (.ref fN)) (T : Free mg) (C : Cons mg) : FnOk P w K mg base L2.CX0 3 f fd ["thing"] spDay := by
  have GF : FnOk P w K mg base L2.CX0 2 fF fdF ["thing", "least", "most"] spFrom := ok_from FF FN gN T
  have bF : Binds K fdF ["thing", "least", "most"] [] := FF.bindsN fun _ _ _ _ _ _ us hl => match us, hl with | [_, _, _], _ => rfl
  refine F.ok scIsDay (fun vs H Q E h => ?_) (fun cdv A outer s H vs Q E hr hh => ?_)
  · obtain ⟨x, b, rfl, _⟩ := h
    rfl
  · obtain ⟨x, b, rfl, hx, e, q⟩ := hh
    refine ⟨_, PSs.nox (pss_one (ps_ret (pe_call GF hr rfl gF FF.kp bF .nil pass0 (pa_cons (pv 0) (pa_cons (pe_un un_neg (pe_k C.day rfl)) (pa_cons (pe_k C.day rfl) pa_nil)))))), ?_⟩
    refine ⟨_, rfl, _, rfl, x, _, _, rfl, hx, ?_⟩
    rw [← e] at q
    exact q
/-- the program's helpers on people, as they stand -/
structure Ph (K : PySem.W.Frag) (mg : Str → Option Value) : Prop where
  isn : ∃ a d, Fn K "is_number" "is_number" sIsNum a d ∧ mg "is_number" = some (.ref a)
  frm : ∃ a d, Fn K "is_number_from" "is_number_from" sFrom a d ∧ mg "is_number_from" = some (.ref a)
  nam : ∃ a d, Fn K "is_name" "is_name" sIsName a d ∧ mg "is_name" = some (.ref a)
  day : ∃ a d, Fn K "is_day" "is_day" sIsDay a d ∧ mg "is_day" = some (.ref a)
  team : ∃ a d, Fn K "is_team" "is_team" sIsTeam a d ∧ mg "is_team" = some (.ref a)
  fr : Free mg
  cs : Cons mg
theorem Ph.na (h : Ph K mg) : ∃ a d, FnOk P w K mg base L2.CX0 1 a d ["thing"] spNameS ∧ mg "is_name" = some (.ref a) ∧ PySem.W.keepIn K (.ref a) = true ∧ Binds K d ["thing"] [] := by
  obtain ⟨a, d, F, g⟩ := h.nam
  exact ⟨a, d, ok_isnameS F h.fr h.cs, g, F.kp, F.bindsN fun _ _ _ _ _ _ us hl => match us, hl with | [_], _ => rfl⟩
theorem Ph.te (h : Ph K mg) : ∃ a d, FnOk P w K mg base L2.CX0 2 a d ["thing"] spTeamS ∧ mg "is_team" = some (.ref a) ∧ PySem.W.keepIn K (.ref a) = true ∧ Binds K d ["thing"] [] := by
  obtain ⟨a1, d1, F1, g1⟩ := h.nam
  obtain ⟨a, d, F, g⟩ := h.team
  exact ⟨a, d, ok_isteamS F F1 g1 h.fr h.cs, g, F.kp, F.bindsN fun _ _ _ _ _ _ us hl => match us, hl with | [_], _ => rfl⟩
theorem Ph.da (h : Ph K mg) : ∃ a d, FnOk P w K mg base L2.CX0 3 a d ["thing"] spDay ∧ mg "is_day" = some (.ref a) ∧ PySem.W.keepIn K (.ref a) = true ∧ Binds K d ["thing"] [] := by
  obtain ⟨a1, d1, F1, g1⟩ := h.isn
  obtain ⟨a2, d2, F2, g2⟩ := h.frm
  obtain ⟨a, d, F, g⟩ := h.day
  exact ⟨a, d, ok_isday F F2 g2 F1 g1 h.fr h.cs, g, F.kp, F.bindsN fun _ _ _ _ _ _ us hl => match us, hl with | [_], _ => rfl⟩
end
end K5
set_option Elab.async false
set_option linter.all false
set_option maxRecDepth 100000
set_option maxHeartbeats 4000000
namespace K5
open PySem PySem.Spec PyProof.Rows L2 Bb
/-! the class Person, its parts good -/
def pflds (n : Str) (b : Int) (g t : Str) : List (Str × V) := putF "team" (.str t) (putF "group" (.str g) (putF "born" (.int b) (putF "name" (.str n) [])))
theorem pk1 : ¬ (("name" : Str) = "born") := by decide +kernel
theorem pk2 : ¬ (("name" : Str) = "group") := by decide +kernel
theorem pk3 : ¬ (("name" : Str) = "team") := by decide +kernel
theorem pk4 : ¬ (("born" : Str) = "group") := by decide +kernel
theorem pk5 : ¬ (("born" : Str) = "team") := by decide +kernel
theorem pk6 : ¬ (("group" : Str) = "team") := by decide +kernel
section
variable (n : Str) (b : Int) (g t : Str)
theorem f_name : (pflds n b g t).lookup ("name" : Str) = some (.str n) := by
  unfold pflds
  rw [lookup_putF, if_neg pk3, lookup_putF, if_neg pk2, lookup_putF, if_neg pk1, lookup_putF, if_pos rfl]
theorem f_born : (pflds n b g t).lookup ("born" : Str) = some (.int b) := by
  unfold pflds
  rw [lookup_putF, if_neg pk5, lookup_putF, if_neg pk4, lookup_putF, if_pos rfl]
theorem f_group : (pflds n b g t).lookup ("group" : Str) = some (.str g) := by
  unfold pflds
  rw [lookup_putF, if_neg pk6, lookup_putF, if_pos rfl]
theorem f_team : (pflds n b g t).lookup ("team" : Str) = some (.str t) := by
  unfold pflds
  rw [lookup_putF, if_pos rfl]
theorem pf_no {m : Str} (h1 : ¬ m = "team") (h2 : ¬ m = "group") (h3 : ¬ m = "born") (h4 : ¬ m = "name") : (pflds n b g t).lookup m = none := by
  unfold pflds
  rw [lookup_putF, if_neg h1, lookup_putF, if_neg h2, lookup_putF, if_neg h3, lookup_putF, if_neg h4]
  rfl
end
structure PersonT (K : PySem.W.Frag) (mg : Str → Option Value) (C : Addr) : Prop where
  cl : Cls K C
  nN : NoAttr K C "name"
  nB : NoAttr K C "born"
  nG : NoAttr K C "group"
  nT : NoAttr K C "team"
  gC : mg "Person" = some (.ref C)
  ha : PySem.W.findIn K (.ref C) "__class__" = some (some (.builtin "object.__class__"))
  hn : PySem.W.specialIn K (.builtin "object.__class__") "__get__" = some (some (.builtin "getset_descriptor.__get__"))
  ht : PySem.W.takesIn K (.builtin "object.__class__") = some true
  hm : PySem.W.mroIn K C (.type "object") = some true
  kit : PySem.W.kitOne K (.ref C) (.ref C) = some true
structure OkP (n : Str) (b : Int) (g t : Str) : Prop where
  n : nameZ n = true
  b : -40000 ≤ b ∧ b ≤ 40000
  g : nameZ g = true
  t : (nameZ t || decide (t = "")) = true
theorem name_len {z : Str} (h : nameZ z = true) : z.length ≤ 1000 := by
  unfold nameZ at h
  rw [Bool.and_eq_true] at h
  have := of_decide_eq_true h.1
  omega
theorem team_len {z : Str} (h : (nameZ z || decide (z = "")) = true) : z.length ≤ 1000 := by
  rw [Bool.or_eq_true] at h
  rcases h with h | h
  · exact name_len h
  · rw [of_decide_eq_true h]
    decide
theorem name_ok {z : Str} (h : nameZ z = true) : PyData.canLay0 (.str z) = true := by
  unfold nameZ at h
  rw [Bool.and_eq_true] at h
  show z.cps.all (· < 0x110000) = true
  rw [Array.all_eq_true_iff_forall_mem]
  intro c hc
  have h2 := List.all_eq_true.mp h.2 c (by simpa using hc)
  have h3 : c ∈ letters.cps.toList := of_decide_eq_true h2
  have h4 : (letters.cps.toList.all fun c => decide (c < 0x110000)) = true := by decide +kernel
  exact List.all_eq_true.mp h4 c h3
theorem team_ok {z : Str} (h : (nameZ z || decide (z = "")) = true) : PyData.canLay0 (.str z) = true := by
  rw [Bool.or_eq_true] at h
  rcases h with h | h
  · exact name_ok h
  · rw [of_decide_eq_true h]
    decide +kernel
/-- a person at p -/
def PAt (C : Addr) (H : Hp) (p : Addr) (n : Str) (b : Int) (g t : Str) : Prop := ∃ dx, H p = some (.ins C dx (pflds n b g t))
theorem PAt.same {C : Addr} {H H' : Hp} {p : Addr} {n : Str} {b : Int} {g t : Str} (a : PAt C H p n b g t) (s : Same H H') : PAt C H' p n b g t := by
  obtain ⟨dx, h⟩ := a
  exact ⟨dx, s _ _ h⟩
def pD (n : Str) (b : Int) (g t : Str) : PyData := .tuple [.str n, .int b, .str g, .str t]
theorem pD_shaped {n : Str} {b : Int} {g t : Str} (o : OkP n b g t) : SeqAt.shaped (pD n b g t) = true := by
  have h1 := name_ok o.n
  have h2 := name_ok o.g
  have h3 := team_ok o.t
  have e : PyData.canLay0 (pD n b g t) = (PyData.canLay0 (.str n) && (PyData.canLay0 (.int b) && (PyData.canLay0 (.str g) && (PyData.canLay0 (.str t) && true)))) := rfl
  have e2 : PyData.canLay0 (.int b) = true := rfl
  unfold SeqAt.shaped
  rw [e, h1, h2, h3, e2]
  rfl
theorem pD_eqv {n n' : Str} {b b' : Int} {g g' t t' : Str} : PyData.eqv (pD n b g t) (pD n' b' g' t') = decide (n = n' ∧ b = b' ∧ g = g' ∧ t = t') := by
  unfold pD
  simp only [PyData.eqv, PyData.eqvAll]
  rw [Bool.eq_iff_iff]
  simp
theorem pD_dp {K : PySem.W.Frag} {H : Hp} {q : Addr} {n : Str} {b : Int} {g t : Str} (h : H q = some (.tup [.str n, .int b, .str g, .str t])) : Dp K H (.ref q) (pD n b g t) :=
  .tup (SqT.of h) (.cons (.str _) (.cons (.int _) (.cons (.str _) (.cons (.str _) .nil))))
def spPInit (C : Addr) : Sp := fun vs H Q _ => ∃ (p dx : Addr) (n : Str) (b : Int) (g t : Str), vs = [.ref p, .str n, .int b, .str g, .str t] ∧ H p = some (.ins C dx []) ∧ OkP n b g t ∧
  ∀ H', (∀ b o, H b = some o → b ≠ p → H' b = some o) → H' p = some (.ins C dx (pflds n b g t)) → Q .non H'
def spPParts (C : Addr) : Sp := fun vs H Q _ => ∃ (p : Addr) (n : Str) (b : Int) (g t : Str), vs = [.ref p] ∧ PAt C H p n b g t ∧ ∀ q H', H q = none → Same H H' → H' q = some (.tup [.str n, .int b, .str g, .str t]) → Q (.ref q) H'
def spPEq (C : Addr) : Sp := fun vs H Q _ => ∃ (p q : Addr) (n n' : Str) (b b' : Int) (g t g' t' : Str), vs = [.ref p, .ref q] ∧ PAt C H p n b g t ∧ PAt C H q n' b' g' t' ∧ OkP n b g t ∧ OkP n' b' g' t' ∧
  ∀ H', Same H H' → Q (.bl (decide (n = n' ∧ b = b' ∧ g = g' ∧ t = t'))) H'
def spPAge (C CD : Addr) : Sp := fun vs H Q E => ∃ (p : Addr) (x : V) (n : Str) (b : Int) (g t : Str), vs = [.ref p, x] ∧ PAt C H p n b g t ∧ Th H x ∧ (-40000 ≤ b ∧ b ≤ 40000) ∧
  (∀ d, x = .int d → b ≤ d → d ≤ 40000 → Q (.int ((d - b) / 365)) H) ∧ (numIn b 40000 x = false → E (.ref CD) none H)
theorem numIn_ex {lo hi : Int} {x : V} (h : numIn lo hi x = true) : ∃ d, x = .int d ∧ lo ≤ d ∧ d ≤ hi := by
  cases x with
  | int i =>
    have z : (decide (lo ≤ i) && decide (i ≤ hi)) = true := h
    simp only [Bool.and_eq_true, decide_eq_true_eq] at z
    exact ⟨i, rfl, z.1, z.2⟩
  | _ => cases h
theorem numIn_sub {lo hi lo' : Int} {x : V} (h : numIn lo hi x = false) (l : lo ≤ lo') : numIn lo' hi x = false := by
  cases x with
  | int i =>
    have z : (decide (lo ≤ i) && decide (i ≤ hi)) = false := h
    show (decide (lo' ≤ i) && decide (i ≤ hi)) = false
    simp only [Bool.and_eq_false_iff, decide_eq_false_iff_not] at z ⊢
    omega
  | _ => rfl
section
variable {P : Program} {w : World} {K : PySem.W.Frag} {mg : Str → Option Value} {base : Heap} {f : Addr} {fd : FuncData}
abbrev nPInit : List Str := ["self", "name", "born", "group", "team"]
theorem scPInit : FnScope nPInit nPInit (defScope sPInit) := ⟨rfl, rfl, rfl, by decide +kernel, rfl, by decide +kernel, by decide +kernel⟩
theorem ok_pinit {C : Addr} {dvs : List V} (F : FunD K "__init__" "Person.__init__" (defArgs sPInit) (defBody sPInit) (defScope sPInit) dvs [] f fd) (h : Ph K mg) (R : PersonT K mg C) : FnOk P w K mg base L2.CX0 4 f fd nPInit (spPInit C) := by
  obtain ⟨aN, dN, GN, gN, kN, bN⟩ := h.na (P := P) (w := w) (base := base)
  obtain ⟨aT, dT, GT, gT, kT, bT⟩ := h.te (P := P) (w := w) (base := base)
  obtain ⟨aD, dD, GD, gD, kD, bD⟩ := h.da (P := P) (w := w) (base := base)
  refine F.ok scPInit (fun vs H Q E h => ?_) (fun cdv A outer s H vs Q E hr hh => ?_)
  · obtain ⟨p, dx, n, b, g, t, rfl, _⟩ := h
    rfl
  · obtain ⟨p, dx, n, b, g, t, rfl, hp, ok, q⟩ := hh
    have hr1 : Room 1 _ := hr.mono (by decide)
    have hr2 : Room 2 _ := hr.mono (by decide)
    refine ⟨_, PSs.nox (pss_cons (ps_if (pt_not (pt_val (pe_call GN hr1 rfl gN kN bN .nil pass0 (pa_cons (pv 1) pa_nil)))) pss_never pss_nil)
      (pss_cons (ps_if (pt_not (pt_val (pe_call GD hr rfl gD kD bD .nil pass0 (pa_cons (pv 2) pa_nil)))) pss_never pss_nil)
      (pss_cons (ps_if (pt_not (pt_val (pe_call GN hr1 rfl gN kN bN .nil pass0 (pa_cons (pv 3) pa_nil)))) pss_never pss_nil)
      (pss_cons (ps_if (pt_not (pt_val (pe_call GT hr2 rfl gT kT bT .nil pass0 (pa_cons (pv 4) pa_nil)))) pss_never pss_nil)
      (pss_cons (ps_fld (pv 0) (pv 1) rfl) (pss_cons (ps_fld (pv 0) (pv 2) rfl) (pss_cons (ps_fld (pv 0) (pv 3) rfl) (pss_one (ps_fld (pv 0) (pv 4) rfl))))))))), ?_⟩
    refine ⟨_, rfl, n, true, rfl, name_len ok.n, ok.n, fun H1 s1 => ⟨_, rfl, iteF ?_⟩⟩
    have e1 : numIn (-40000) 40000 (.int b) = true := by
      show (decide (-40000 ≤ b) && decide (b ≤ 40000)) = true
      simp [ok.b.1, ok.b.2]
    refine ⟨_, rfl, .int b, true, rfl, .int b, e1, _, rfl, iteF ?_⟩
    refine ⟨_, rfl, g, true, rfl, name_len ok.g, ok.g, fun H2 s2 => ⟨_, rfl, iteF ?_⟩⟩
    refine ⟨_, rfl, t, true, rfl, team_len ok.t, ok.t, fun H3 s3 => ⟨_, rfl, iteF ?_⟩⟩
    have sm : Same H H3 := (s1.trans s2).trans s3
    refine ⟨_, rfl, _, rfl, p, C, dx, _, rfl, sm _ _ hp, R.cl, R.nN, (by show 0 < 1000; decide), ?_⟩
    refine ⟨_, rfl, _, rfl, p, C, dx, _, rfl, upd_same, R.cl, R.nB, Nat.lt_of_le_of_lt (length_putF _ _ _) (by decide), ?_⟩
    refine ⟨_, rfl, _, rfl, p, C, dx, _, rfl, upd_same, R.cl, R.nG, Nat.lt_of_le_of_lt (Nat.le_trans (length_putF _ _ _) (Nat.add_le_add_right (length_putF _ _ _) 1)) (by decide), ?_⟩
    refine ⟨_, rfl, _, rfl, p, C, dx, _, rfl, upd_same, R.cl, R.nT, Nat.lt_of_le_of_lt (Nat.le_trans (length_putF _ _ _) (Nat.add_le_add_right (Nat.le_trans (length_putF _ _ _) (Nat.add_le_add_right (length_putF _ _ _) 1)) 1)) (by decide), ?_⟩
    refine q _ (fun b o e ne => ?_) upd_same
    rw [upd_ne ne, upd_ne ne, upd_ne ne, upd_ne ne]
    exact sm b o e
theorem scPParts : FnScope ["self"] ["self"] (defScope sPParts) := ⟨rfl, rfl, rfl, by decide +kernel, rfl, by decide +kernel, by decide +kernel⟩
theorem ok_pparts {C : Addr} (F : Fn K "parts" "Person.parts" sPParts f fd) (R : PersonT K mg C) : FnOk P w K mg base L2.CX0 1 f fd ["self"] (spPParts C) := by
  refine F.ok scPParts (fun vs H Q E h => ?_) (fun cdv A outer s H vs Q E hr hh => ?_)
  · obtain ⟨p, n, b, g, t, rfl, _⟩ := h
    rfl
  · obtain ⟨p, n, b, g, t, rfl, ⟨dx, hp⟩, q⟩ := hh
    refine ⟨_, PSs.nox (pss_one (ps_ret (pe_tup (pa_cons (pe_fld (pv 0) rfl) (pa_cons (pe_fld (pv 0) rfl) (pa_cons (pe_fld (pv 0) rfl) (pa_cons (pe_fld (pv 0) rfl) pa_nil))))))), ?_⟩
    refine ⟨_, rfl, p, C, dx, _, _, rfl, hp, R.cl, R.nN, f_name _ _ _ _, _, rfl, p, C, dx, _, _, rfl, hp, R.cl, R.nB, f_born _ _ _ _, _, rfl, p, C, dx, _, _, rfl, hp, R.cl, R.nG, f_group _ _ _ _, _, rfl, p, C, dx, _, _, rfl, hp, R.cl, R.nT, f_team _ _ _ _, (by show 4 ≤ sizeLine; decide), fun r hr' => ?_⟩
    exact q r _ hr' (up2 hr') upd_same
theorem scPEq : FnScope ["self", "other"] ["self", "other"] (defScope sPEq) := ⟨rfl, rfl, rfl, by decide +kernel, rfl, by decide +kernel, by decide +kernel⟩
theorem ok_peq {C fP : Addr} {fdP : FuncData} (F : Fn K "__eq__" "Person.__eq__" sPEq f fd) (T : Free mg) (R : PersonT K mg C) (FP : Fn K "parts" "Person.parts" sPParts fP fdP) (mP : Meth K C "parts" fP) : FnOk P w K mg base L2.CX0 2 f fd ["self", "other"] (spPEq C) := by
  have GP : FnOk P w K mg base L2.CX0 1 fP fdP ["self"] (spPParts C) := ok_pparts FP R
  have bP : Binds K fdP ["self"] [] := FP.bindsN fun _ _ _ _ _ _ us hl => match us, hl with | [_], _ => rfl
  refine F.ok scPEq (fun vs H Q E h => ?_) (fun cdv A outer s H vs Q E hr hh => ?_)
  · obtain ⟨p, q, n, n', b, b', g, t, g', t', rfl, _⟩ := h
    rfl
  · obtain ⟨p, q, n, n', b, b', g, t, g', t', rfl, ap, aq, o1, o2, fin⟩ := hh
    obtain ⟨dx, hp⟩ := id ap
    obtain ⟨dy, hq⟩ := id aq
    refine ⟨_, PSs.nox (pss_one (ps_ret (pe_and (pe_callB call_isi rfl T.isi boot_isinstance (pa_cons (pv 1) (pa_cons (pe_glob rfl R.gC (v := .ref C) rfl) pa_nil)))
      (pe_one (pe_cmpR (op_eqD hr.units) (pe_meth0 (pv 0) R.cl mP GP hr bP .nil pass0) (pe_meth0 (pv 1) R.cl mP GP hr bP .nil pass0) (nomark _)))))), ?_⟩
    refine ⟨_, rfl, _, _, _, _, _, rfl, .own C, .base (.ins hq R.cl R.ha R.hn R.ht R.hm), R.kit, _, rfl, iteT ?_⟩
    refine ⟨_, rfl, p, dx, _, rfl, hp, pf_no _ _ _ _ (by decide +kernel) (by decide +kernel) (by decide +kernel) (by decide +kernel), p, n, b, g, t, rfl, ap, fun r1 H1 n1 s1 h1 => ?_⟩
    refine ⟨_, rfl, q, dy, _, rfl, s1 _ _ hq, pf_no _ _ _ _ (by decide +kernel) (by decide +kernel) (by decide +kernel) (by decide +kernel), q, n', b', g', t', rfl, aq.same s1, fun r2 H2 n2 s2 h2 => ?_⟩
    refine ⟨pD n b g t, pD n' b' g' t', pD_dp (s2 _ _ h1), pD_dp h2, pD_shaped o1, pD_shaped o2, ?_⟩
    rw [pD_eqv]
    exact fin H2 (s1.trans s2)
theorem scPAge : FnScope ["self", "day"] ["self", "day"] (defScope sPAge) := ⟨rfl, rfl, rfl, by decide +kernel, rfl, by decide +kernel, by decide +kernel⟩
theorem ok_page {C CD : Addr} (F : Fn K "age_on" "Person.age_on" sPAge f fd) (h : Ph K mg) (R : PersonT K mg C) (ea : ErrT K mg "NoDay" CD) : FnOk P w K mg base (L2.CX P w) 4 f fd ["self", "day"] (spPAge C CD) := by
  obtain ⟨aD, dD, GD, gD, kD, bD⟩ := h.da (P := P) (w := w) (base := base)
  refine F.ok (CX := L2.CX P w) scPAge (fun vs H Q E h => ?_) (fun cdv A outer s H vs Q E hr hh => ?_)
  · obtain ⟨p, x, n, b, g, t, rfl, _⟩ := h
    rfl
  · obtain ⟨p, x, n, b, g, t, rfl, ap, hx, hb, q, qe⟩ := hh
    obtain ⟨dx, hp⟩ := id ap
    refine ⟨_, pss_cons (ps_if (PW.pt (pw_or (pt_not (pt_val (pe_call GD hr rfl gD kD bD .nil pass0 (pa_cons (pv 1) pa_nil)))) (pw_or1 (pt_cmpR op_lt (pv 1) (pe_fld (pv 0) rfl) (nomark _)))))
        (pss_one (ps_raise rfl (takes_of rfl rfl rfl rfl) (pmk_own PySem.F.excBase_ValueError ea.ex ea.g ea.kp (raises_own ea.sb ea.ty) rfl))) pss_nil)
      (pss_one (ps_ret (pe_op op_fdiv (pe_op op_sub (pv 1) (pe_fld (pv 0) rfl)) (pe_k h.cs.year rfl)))), ?_⟩
    cases e : numIn (-40000) 40000 x with
    | false =>
      refine ⟨_, rfl, x, false, rfl, hx, e, _, rfl, iteT ?_⟩
      exact qe (numIn_sub e hb.1)
    | true =>
      refine ⟨_, rfl, x, true, rfl, hx, e, _, rfl, iteF ?_⟩
      obtain ⟨d, rfl, d1, d2⟩ := numIn_ex e
      refine ⟨_, rfl, _, rfl, p, C, dx, _, _, rfl, hp, R.cl, R.nB, f_born _ _ _ _, _, _, rfl, rfl, _, rfl, ?_⟩
      refine ite2 (fun c => ?_) (fun c => ?_)
      · have c' : d < b := of_decide_eq_true c
        refine qe ?_
        show (decide (b ≤ d) && decide (d ≤ 40000)) = false
        rw [decide_eq_false (by omega), Bool.false_and]
      · have c' : ¬ d < b := fun z => c (decide_eq_true z)
        refine ⟨_, rfl, _, rfl, p, C, dx, _, _, rfl, hp, R.cl, R.nB, f_born _ _ _ _, _, _, rfl, rfl, _, _, rfl, rfl, ⟨by decide, by decide⟩, ?_⟩
        exact q d rfl (by omega) d2
end
end K5
set_option Elab.async false
set_option linter.all false
set_option maxRecDepth 100000
set_option maxHeartbeats 4000000
namespace K5
open PySem PySem.Spec PyProof.Rows L2 Bb
/-! a day, drawn -/
def spWhen : Sp := fun vs H Q _ => ∃ p, vs = [.ref p] ∧ Pen H p ∧ ∀ i H', Kp p H H' → (-40000 ≤ i ∧ i ≤ 40000) → Q (.int i) H'
section
variable {P : Program} {w : World} {K : PySem.W.Frag} {mg : Str → Option Value} {base : Heap} {f : Addr} {fd : FuncData}
theorem scWhen : FnScope ["_law_pen_here", "_law_far", "_law_near"] ["_law_pen_here"] (defScope sWhen) := ⟨rfl, rfl, rfl, by decide +kernel, rfl, by decide +kernel, by decide +kernel⟩
theorem ok_when (F : Fn K "_law_when" "_law_when" sWhen f fd) (h : Hl K mg) : FnOk P w K mg base L2.CX0 3 f fd ["_law_pen_here"] spWhen := by
  obtain ⟨aP, dP, GP, gP, kP, bP⟩ := h.pk (P := P) (w := w) (base := base)
  obtain ⟨aD, dD, GD, gD, kD, bD⟩ := h.dr (P := P) (w := w) (base := base)
  refine F.ok scWhen (fun vs H Q E h => ?_) (fun cdv A outer s H vs Q E hr hh => ?_)
  · obtain ⟨p, rfl, _⟩ := h
    rfl
  · obtain ⟨p, rfl, hp, q⟩ := hh
    have hr1 : Room 1 _ := hr.mono (by decide)
    refine ⟨_, PSs.nox (pss_cons (ps_set (i := 1) scWhen.nd rfl (.inl rfl) pe_int)
      (pss_cons (ps_set (i := 2) scWhen.nd rfl (.inl rfl) (pe_lst (pa_cons pe_int (pa_cons (pe_call GD hr1 rfl gD kD bD .nil pass0 (pa_cons (pv 0) (pa_cons pe_int pa_nil))) (pa_cons (pe_op op_sub (pe_un un_neg pe_int) (pe_call GD hr1 rfl gD kD bD .nil pass0 (pa_cons (pv 0) (pa_cons pe_int pa_nil)))) pa_nil)))))
      (pss_one (ps_ret (pe_call GP (hr.mono (by decide)) rfl gP kP bP .nil pass0 (pa_cons (pv 0) (pa_cons (pe_op op_cat (pv 2) (pe_lst (pa_cons (pv 1) (pa_cons (pe_un un_neg (pv 1)) (pa_cons (pe_op op_sub (pe_call GD hr1 rfl gD kD bD .nil pass0 (pa_cons (pv 0) (pa_cons (pe_op op_add (pe_op op_mul pe_int (pv 1)) pe_int) pa_nil))) (pv 1)) pa_nil))))) pa_nil))))))), ?_⟩
    refine ⟨_, rfl, p, 60, rfl, hp, ⟨by decide, by decide⟩, fun a H1 a0 a1 kp1 => ?_⟩
    refine ⟨_, rfl, _, rfl, p, 60, rfl, kp1.pen, ⟨by decide, by decide⟩, fun b H2 b0 b1 kp2 => ?_⟩
    refine ⟨_, _, rfl, rfl, (by show 3 ≤ sizeLine; decide), fun L hL => ?_⟩
    have s3 := up2 (o := .lst [.int 0, .int a, .int (-1 - b)]) hL
    have k3 := (kp1.trans kp2).same s3
    have nL : L ≠ p := fun z => by
      obtain ⟨x, y, e⟩ := kp2.pen
      rw [← z, hL] at e
      cases e
    refine ⟨_, rfl, _, rfl, _, rfl, _, rfl, _, rfl, _, rfl, _, rfl, _, _, rfl, rfl, .inl ⟨by decide, by decide⟩, _, _, rfl, rfl, p, _, rfl, k3.pen, ⟨by decide, by decide⟩, fun c H4 c0 c1 kp4 => ?_⟩
    have c2 : c < 80001 := c1
    refine ⟨_, rfl, _, _, rfl, rfl, (by show 3 ≤ sizeLine; decide), fun L2 hL2 => ?_⟩
    have s5 := up2 (o := .lst [.int 40000, .int (-40000), .int (c - 40000)]) hL2
    have eL := s5 _ _ (kp4.keep _ _ upd_same nL)
    refine ⟨L, L2, _, _, rfl, rfl, eL, upd_same, (by show 3 + 3 ≤ sizeLine; decide), fun L3 hL3 => ?_⟩
    have s6 := up2 (o := .lst ([.int 0, .int a, .int (-1 - b)] ++ [.int 40000, .int (-40000), .int (c - 40000)])) hL3
    have k6 := ((k3.trans kp4).same s5).same s6
    refine ⟨p, L3, _, rfl, k6.pen, upd_same, pen_ne k6.pen upd_same (fun x f z => by injection z with z; injection z with _ z; injection z with _ z; cases z), ⟨(by show 0 < 6; decide), (by show 6 ≤ 1000; decide)⟩, fun v H7 hv kp7 => ?_⟩
    have k7 := k6.trans kp7
    simp only [List.cons_append, List.nil_append, List.mem_cons, List.not_mem_nil, or_false] at hv
    rcases hv with rfl | rfl | rfl | rfl | rfl | rfl
    · exact q _ _ k7 (by omega)
    · exact q _ _ k7 (by omega)
    · exact q _ _ k7 (by omega)
    · exact q _ _ k7 (by omega)
    · exact q _ _ k7 (by omega)
    · exact q _ _ k7 (by omega)
end
/-! years gone by -/
def spYears : Sp := fun vs H Q _ => ∃ s c : Int, vs = [.int s, .int c] ∧ s ≤ c ∧ Q (.int ((c - s) / 365)) H
section
variable {P : Program} {w : World} {K : PySem.W.Frag} {mg : Str → Option Value} {base : Heap} {f : Addr} {fd : FuncData}
theorem scYears : FnScope ["_law_since", "_law_clock", "_law_many"] ["_law_since", "_law_clock"] (defScope sYears) := ⟨rfl, rfl, rfl, by decide +kernel, rfl, by decide +kernel, by decide +kernel⟩
theorem ok_years (F : Fn K "_law_years" "_law_years" sYears f fd) : FnOk P w K mg base L2.CX0 1 f fd ["_law_since", "_law_clock"] spYears := by
  refine F.ok scYears (fun vs H Q E h => ?_) (fun cdv A outer s H vs Q E hr hh => ?_)
  · obtain ⟨a, c, rfl, _⟩ := h
    rfl
  · obtain ⟨a, c, rfl, hle, q⟩ := hh
    refine ⟨_, PSs.nox (pss_cons (ps_set (i := 2) scYears.nd rfl (.inl rfl) pe_int)
      (pss_cons (ps_while PassesOwn.never (pt_cmpR op_le (pe_op op_add (pv 0) (pe_op op_mul pe_int (pe_op op_add (pv 2) pe_int))) (pv 1) (nomark _)) (pss_one (ps_set (i := 2) scYears.nd rfl (.inl rfl) (pe_op op_add (pv 2) pe_int))))
      (pss_one (ps_ret (pv 2))))), ?_⟩
    refine ⟨fun n σ H' => H' = H ∧ ∃ m : Int, σ = [some (.int a), some (.int c), some (.int m)] ∧ 0 ≤ m ∧ a + 365 * m ≤ c ∧ n = ((c - a) / 365 - m).toNat, ⟨_, rfl, 0, rfl, by omega, by omega, rfl⟩, ?_⟩
    rintro n σ H' ⟨rfl, m, rfl, m0, m1, rfl⟩
    refine ⟨_, rfl, _, rfl, _, _, rfl, rfl, _, _, rfl, rfl, .inl ⟨by decide, by decide⟩, _, _, rfl, rfl, _, rfl, _, _, rfl, rfl, _, rfl, ?_⟩
    refine ite2 (fun cc => ?_) (fun cc => ?_)
    · have c1 : a + 365 * (m + 1) ≤ c := of_decide_eq_true cc
      refine ⟨fun σ' H2 => H2 = H' ∧ σ' = [some (.int a), some (.int c), some (.int (m + 1))], ?_, ?_⟩
      · rintro σ' H2 ⟨rfl, rfl⟩
        refine ⟨((c - a) / 365 - (m + 1)).toNat, ?_, rfl, m + 1, rfl, by omega, c1, rfl⟩
        omega
      · exact ⟨_, rfl, _, _, rfl, rfl, rfl, rfl⟩
    · have c1 : ¬ a + 365 * (m + 1) ≤ c := fun z => cc (decide_eq_true z)
      have e : m = (c - a) / 365 := by omega
      subst e
      exact ⟨_, rfl, q⟩
end
/-! pairs that can be shown -/
theorem pair_rep {a b : PyData} (ha : Sm a) (hb : Sm b) : (PyData.tuple [a, b]).showable = true ∧ (PyData.tuple [a, b]).depth ≤ 60 ∧ (PyData.tuple [a, b]).shown.length ≤ sizeLine := by
  refine ⟨?_, ?_, ?_⟩
  · show (a.showable && (b.showable && true)) = true
    rw [ha.sh, hb.sh]
    rfl
  · show max a.depth (max b.depth 0) + 1 ≤ 60
    have := ha.dp
    have := hb.dp
    omega
  · have t := tupleText_le [a.shown, b.shown]
    have sz := sizeLine_eq
    have e : piled [a.shown, b.shown] = a.shown.length + 2 + (b.shown.length + 2 + 0) := by
      rw [piled_cons, piled_cons]
      rfl
    have := ha.ln
    have := hb.ln
    show (tupleText [a.shown, b.shown]).length ≤ sizeLine
    omega
theorem same_text {s : Str} : (!decide (V.str s = V.str s)) = false := by simp
end K5
set_option Elab.async false
set_option linter.all false
set_option maxRecDepth 100000
set_option maxHeartbeats 4000000
namespace K5
open PySem PySem.Spec PyProof.Rows L2 Bb
/-! tables of code objects stay while the pen writes, while a list is written -/
theorem tabs_at {Ts : List (Addr × Str)} {H H' : Hp} (t : LamX.Tabs Ts H) (k : ∀ b o, H b = some o → (∀ xs, o ≠ .lst xs) → H' b = some o) : LamX.Tabs Ts H' := by
  intro q hq
  obtain ⟨ps, h1, h2, h3⟩ := t q hq
  refine ⟨ps, k _ _ h1 (fun xs z => by cases z), h2, fun pos cv hc => ?_⟩
  obtain ⟨c, e1, e2⟩ := h3 pos cv hc
  refine ⟨c, e1, k _ _ e2 (fun xs z => ?_)⟩
  unfold LamX.CodeO at z
  cases z
theorem tabs_kp {Ts : List (Addr × Str)} {H H' : Hp} {p : Addr} (t : LamX.Tabs Ts H) (hp : Pen H p) (k : Kp p H H') : LamX.Tabs Ts H' :=
  tabs_at t fun b o e n => k.keep b o e fun z => by
    obtain ⟨x, f, e2⟩ := hp
    rw [z, e2] at e
    exact n _ (Option.some.inj e).symm
theorem extN_same {H H' : Hp} (s : Same H H') : LamX.ExtN H H' := fun b o e _ => s b o e
theorem extN_kp {H H' : Hp} {p : Addr} {G : Hp} (e : LamX.ExtN G H) (np : G p = none) (hp : Pen H p) (k : Kp p H H') : LamX.ExtN G H' := fun b o h n => k.keep b o (e b o h n) (ne_of_none h np)
theorem int_at {ns : List Int} {z0 : Int} {lo hi : Option Int} {i : Nat} {y : V} (h : ([V.int z0] ++ cutV (ns.map V.int) lo hi)[i]? = some y) : ∃ z, y = .int z := by
  have m := List.mem_of_getElem? h
  rcases List.mem_append.mp m with q | q
  · exact ⟨z0, by simpa using q⟩
  · unfold cutV at q
    have q2 := List.mem_of_mem_drop (List.mem_of_mem_take q)
    obtain ⟨z, _, e⟩ := List.mem_map.mp q2
    exact ⟨z, e.symm⟩
theorem Th.ext {H H' : Hp} {v : V} (t : Th H v) (e : LamX.ExtN H H') : Th H' v := by
  cases t with
  | non => exact .non
  | bl b => exact .bl b
  | int i => exact .int i
  | str z => exact .str z
  | lst h => exact .lst (e _ _ h (fun _ z => by cases z))
  | tup h => exact .tup (e _ _ h (fun _ z => by cases z))
  | dic h => exact .dic (e _ _ h (fun _ z => by cases z))
/-- all parameters of Person are given -/
theorem pinit_binds {K : PySem.W.Frag} {f : Addr} {fd : FuncData} {dvs : List V} (F : FunD K "__init__" "Person.__init__" (defArgs sPInit) (defBody sPInit) (defScope sPInit) dvs [] f fd) (h : dvs.length = 2) : Binds K fd nPInit [] := by
  obtain ⟨ds, rd, b⟩ := F.binds1 (ps := nPInit) 5 2 (by intro e; rw [e] at h; cases h) (by rw [h]; rfl) (fun T kV doc pm an cdv ct us its h1 h2 => by
    rw [h] at h2
    match us, its, h1, h2 with
    | [_, _, _, _, _], [_, _], _, _ => exact ⟨_, rfl, rfl⟩)
  have e : dvs.drop 2 = [] := List.drop_of_length_le (by omega)
  rw [e] at rd
  cases rd
  exact b
/-- the class Person with its methods -/
structure OwnP (K : PySem.W.Frag) (mg : Str → Option Value) (C : Addr) : Prop where
  r : PersonT K mg C
  ini : ∃ a d dvs, FunD K "__init__" "Person.__init__" (defArgs sPInit) (defBody sPInit) (defScope sPInit) dvs [] a d ∧ dvs.length = 2 ∧ Mk K C a
  parts : ∃ a d, Fn K "parts" "Person.parts" sPParts a d ∧ Meth K C "parts" a
  age : ∃ a d, Fn K "age_on" "Person.age_on" sPAge a d ∧ Meth K C "age_on" a
  eq : ∃ a d, Fn K "__eq__" "Person.__eq__" sPEq a d ∧ PySem.W.findIn K (.ref C) "__eq__" = some (some (.ref a)) ∧ PySem.W.isFn K (.ref a) = true
  ne : PySem.W.findIn K (.ref C) "__ne__" = some (some (.builtin "object.__ne__"))
  ob : PySem.W.subIn K (.ref C) (.type "object") = some true
abbrev zAnn : Str := "ann"
abbrev zOpen : Str := "open"
abbrev zNo : Str := ""
theorem okAnn {b : Int} (h : -40000 ≤ b ∧ b ≤ 40000) : OkP zAnn b zOpen zNo := ⟨by decide +kernel, h, by decide +kernel, by decide +kernel⟩
/-- the turn's things: the person at x, the pen at p, the tables -/
structure Tn (Ts : List (Addr × Str)) (C : Addr) (H : Hp) (p x : Addr) (b : Int) : Prop where
  at_ : PAt C H x zAnn b zOpen zNo
  pen : Pen H p
  tab : LamX.Tabs Ts H
section
variable {Ts : List (Addr × Str)} {C : Addr} {H H' : Hp} {p x : Addr} {b : Int}
theorem Tn.same (t : Tn Ts C H p x b) (s : Same H H') : Tn Ts C H' p x b := ⟨t.at_.same s, pen_same t.pen s, t.tab.ext s⟩
theorem Tn.kp (t : Tn Ts C H p x b) (k : Kp p H H') : Tn Ts C H' p x b := by
  obtain ⟨⟨dx, h1⟩, h5, h6⟩ := t
  have n1 : x ≠ p := pen_ne h5 h1 (fun _ _ z => by cases z)
  exact ⟨⟨dx, k.keep _ _ h1 n1⟩, k.pen, tabs_kp h6 h5 k⟩
theorem Tn.ext (t : Tn Ts C H p x b) (e : LamX.ExtN H H') (tb : LamX.Tabs Ts H') : Tn Ts C H' p x b := by
  obtain ⟨⟨dx, h1⟩, ⟨u, v, h5⟩, h6⟩ := t
  exact ⟨⟨dx, e _ _ h1 (fun _ z => by cases z)⟩, ⟨u, v, e _ _ h5 (fun _ z => by cases z)⟩, tb⟩
end
theorem sm_noday : Sm (.str (Str.ofString "noday")) := ⟨rfl, Nat.zero_le _, by decide +kernel, fun z => (by cases z), fun ds z => (by cases z)⟩
theorem sm_no : Sm (.str (Str.ofString "no")) := ⟨rfl, Nat.zero_le _, by decide +kernel, fun z => (by cases z), fun ds z => (by cases z)⟩
theorem sm_told : Sm (.str (Str.ofString "told")) := ⟨rfl, Nat.zero_le _, by decide +kernel, fun z => (by cases z), fun ds z => (by cases z)⟩
end K5
set_option Elab.async false
set_option linter.all false
set_option maxRecDepth 100000
set_option maxHeartbeats 4000000
namespace K5
open PySem PySem.Spec PyProof.Rows L2 Bb
/-! all that the law's own def wants of the head -/
structure All (K : PySem.W.Frag) (mg : Str → Option Value) : Prop where
  fr : Free mg
  ph : Ph K mg
  hl : Hl K mg
  cell : ∃ a d, Fn K "_law_cell" "_law_cell" sCell a d ∧ mg "_law_cell" = some (.ref a)
  pen : ∃ a d, Fn K "_law_pen" "_law_pen" sPen a d ∧ mg "_law_pen" = some (.ref a)
  when_ : ∃ a d, Fn K "_law_when" "_law_when" sWhen a d ∧ mg "_law_when" = some (.ref a)
  years : ∃ a d, Fn K "_law_years" "_law_years" sYears a d ∧ mg "_law_years" = some (.ref a)
  odd : ∃ a d, Fn K "_law_odd" "_law_odd" sOdd a d ∧ mg "_law_odd" = some (.ref a)
  any : ∃ a d, Fn K "_law_anything" "_law_anything" sAny a d ∧ mg "_law_anything" = some (.ref a)
  num : ∃ a d, Fn K "_law_number" "_law_number" sNum a d ∧ mg "_law_number" = some (.ref a)
  kind : ∃ a d, Fn K "_law_kind" "_law_kind" sKind a d ∧ mg "_law_kind" = some (.ref a)
  came : ∃ a d, Fn K "_law_came" "_law_came" sCame a d ∧ mg "_law_came" = some (.ref a)
/-- the errors' classes -/
structure OwnE (K : PySem.W.Frag) (mg : Str → Option Value) (CD CC : Addr) : Prop where
  ea : ErrT K mg "NoDay" CD
  er : Er K mg CC CD "noday"
  cc : mg "ClubError" = some (.ref CC)
  np : ∃ CP, mg "NoPlace" = some (.ref CP)
abbrev nLaw : List Str := ["_law_script", "_law_cell_here", "_law_pen_here", "_law_since", "_law_one", "_law_clocks", "_law_many", "_law_clock", "_law_due"]
theorem scLaw : FnScope nLaw ["_law_script"] (defScope sLaw) := ⟨rfl, rfl, rfl, by decide +kernel, rfl, by decide +kernel, by decide +kernel⟩
section
variable {P : Program} {w : World} {K : PySem.W.Frag} {mg : Str → Option Value} {base : Heap} {f : Addr} {fd : FuncData}
def spLaw (K : PySem.W.Frag) (Pt : Addr) : Sp := fun vs H Q _ => ∃ (a : Addr) (ns : List Int), vs = [.ref a] ∧ SqL K H a (ns.map V.int) ∧ ns.length ≤ 63 ∧ H Pt = some (.tbl #[]) ∧ ∀ H', Q (.bl true) H'
theorem ok_law {C CD CC c Pt : Addr} (F : Fn K "law" "law" sLaw f fd) (hcode : fd.code = .ref c) (TB : LamX.TabB base mg c Pt) (h : All K mg) (o : OwnP K mg C) (oe : OwnE K mg CD CC) : FnG P w K mg base L2.CX0 7 f fd ["_law_script"] (spLaw K Pt) := by
  obtain ⟨aCe, dCe, FCe, gCe⟩ := h.cell
  obtain ⟨aPe, dPe, FPe, gPe⟩ := h.pen
  obtain ⟨aWh, dWh, FWh, gWh⟩ := h.when_
  obtain ⟨aYe, dYe, FYe, gYe⟩ := h.years
  obtain ⟨aOd, dOd, FOd, gOd⟩ := h.odd
  obtain ⟨aAn, dAn, FAn, gAn⟩ := h.any
  obtain ⟨aNu, dNu, FNu, gNu⟩ := h.num
  obtain ⟨aKi, dKi, FKi, gKi⟩ := h.kind
  obtain ⟨aCa, dCa, FCa, gCa⟩ := h.came
  obtain ⟨aDr, dDr, GDr, gDr, kDr, bDr⟩ := h.hl.dr (P := P) (w := w) (base := base)
  obtain ⟨aIn, dIn, dvs, FIn, hdv, MK⟩ := o.ini
  obtain ⟨aMe, dMe, FMe, mMe⟩ := o.age
  obtain ⟨aPa, dPa, FPa, mPa⟩ := o.parts
  obtain ⟨aEq, dEq, FEq, lEq, iEq⟩ := o.eq
  obtain ⟨CP, gNP⟩ := oe.np
  have T := h.fr
  have R := o.r
  have GCe : FnOk P w K mg base L2.CX0 1 aCe dCe ["_law_script", "_law_k"] (spCell K) := ok_cell FCe T
  have GPe : FnOk P w K mg base L2.CX0 1 aPe dPe ["_law_cell_here"] spPen := ok_pen FPe T
  have GWh : FnOk P w K mg base L2.CX0 3 aWh dWh ["_law_pen_here"] spWhen := ok_when FWh h.hl
  have GYe : FnOk P w K mg base L2.CX0 1 aYe dYe ["_law_since", "_law_clock"] spYears := ok_years FYe
  have GOd : FnOk P w K mg base L2.CX0 3 aOd dOd ["_law_pen_here", "_law_least", "_law_greatest"] spOdd := ok_odd FOd h.hl
  have GAn : FnOk P w K mg base L2.CX0 3 aAn dAn ["_law_pen_here"] spThing := ok_any FAn h.hl
  have GNu : FnOk P w K mg base L2.CX0 1 aNu dNu ["_law_thing", "_law_least", "_law_greatest"] spFrom := ok_num FNu T
  have GIn : FnOk P w K mg base L2.CX0 4 aIn dIn nPInit (spPInit C) := ok_pinit FIn h.ph R
  have GMe : FnOk P w K mg base (L2.CX P w) 4 aMe dMe ["self", "day"] (spPAge C CD) := ok_page FMe h.ph R oe.ea
  have GEq : FnOk P w K mg base L2.CX0 2 aEq dEq ["self", "other"] (spPEq C) := ok_peq FEq T R FPa mPa
  have bCe : Binds K dCe ["_law_script", "_law_k"] [] := FCe.bindsN fun _ _ _ _ _ _ us hl => match us, hl with | [_, _], _ => rfl
  have bPe : Binds K dPe ["_law_cell_here"] [] := FPe.bindsN fun _ _ _ _ _ _ us hl => match us, hl with | [_], _ => rfl
  have bWh : Binds K dWh ["_law_pen_here"] [] := FWh.bindsN fun _ _ _ _ _ _ us hl => match us, hl with | [_], _ => rfl
  have bYe : Binds K dYe ["_law_since", "_law_clock"] [] := FYe.bindsN fun _ _ _ _ _ _ us hl => match us, hl with | [_, _], _ => rfl
  have bOd : Binds K dOd ["_law_pen_here", "_law_least", "_law_greatest"] [] := FOd.bindsN fun _ _ _ _ _ _ us hl => match us, hl with | [_, _, _], _ => rfl
  have bAn : Binds K dAn ["_law_pen_here"] [] := FAn.bindsN fun _ _ _ _ _ _ us hl => match us, hl with | [_], _ => rfl
  have bNu : Binds K dNu ["_law_thing", "_law_least", "_law_greatest"] [] := FNu.bindsN fun _ _ _ _ _ _ us hl => match us, hl with | [_, _, _], _ => rfl
  have bMe : Binds K dMe ["self", "day"] [] := FMe.bindsN fun _ _ _ _ _ _ us hl => match us, hl with | [_, _], _ => rfl
  have bEq : Binds K dEq ["self", "other"] [] := FEq.bindsN fun _ _ _ _ _ _ us hl => match us, hl with | [_, _], _ => rfl
  have bIn : Binds K dIn nPInit [] := pinit_binds FIn hdv
  have bCa : Binds K dCa ["_law_call"] [] := FCa.bindsN fun _ _ _ _ _ _ us hl => match us, hl with | [_], _ => rfl
  obtain ⟨oc, od, dV, kV, doc, pm, an, cdC, ct, osl, rfl, lkC, hcC, _, _⟩ := FCa.ex
  refine fnG F scLaw (fun vs H Q E h => ?_) (fun cdv A outer s H vs Q E gd hr hcd hh => ?_)
  · obtain ⟨a, ns, rfl, _⟩ := h
    rfl
  · obtain ⟨a, ns, rfl, ha, hn, hPt, back⟩ := hh
    have ecd := hcd c hcode
    let X := (cxOf L2.CX0 P w K mg base nLaw "law" (defScope sLaw) f cdv A outer s H E).nox
    have gdX : X.A.guards = some [] := gd
    have rep := call_repr (X := X) gdX hr.units
    let qn : Str := X.env.qual ++ "<lambda>"
    let Ts : List (Addr × Str) := [(Pt, qn)]
    have hr1 : Room 1 X.A := hr.mono (by decide)
    have hr3 : Room 3 X.A := hr.mono (by decide)
    refine' ⟨_, PSs.nox ?d, ?r⟩
    case d =>
      refine' pss_cons (ps_for PassesOwn.never rfl (pi_list (pe_op op_cat (pe_lst (pa_cons (pe_call GCe hr1 rfl gCe FCe.kp bCe .nil pass0 (pa_cons (pv 0) (pa_cons pe_int pa_nil))) pa_nil)) (pe_slice sl_list (pv 0) (po_some pe_int) (po_some pe_int)))) (pg_name (i := 1) scLaw.nd rfl (Or.inl rfl)) ?l1) ?z0
      case l1 =>
        refine' pss_cons (ps_set (i := 2) scLaw.nd rfl (.inl rfl) (pe_call GPe hr1 rfl gPe FPe.kp bPe .nil pass0 (pa_cons (pv 1) pa_nil))) ?w0
        case w0 =>
          refine' pss_cons (ps_set (i := 3) scLaw.nd rfl (.inl rfl) (pe_call GWh hr3 rfl gWh FWh.kp bWh .nil pass0 (pa_cons (pv 2) pa_nil))) ?w1
          case w1 =>
            refine' pss_cons (ps_set (i := 4) scLaw.nd rfl (.inr rfl) (pe_make MK GIn (hr.mono (by decide)) rfl R.gC bIn .nil pass0 (pa_cons pe_str (pa_cons (pv 3) (pa_cons pe_str (pa_cons pe_str pa_nil)))))) ?w2
            case w2 =>
              refine' pss_cons (ps_set (i := 5) scLaw.nd rfl (.inl rfl) (pe_lst (pa_cons (pv 3) (pa_cons (pe_op op_add (pv 3) pe_int) (pa_cons (pe_op op_add (pv 3) pe_int) (pa_cons (pe_op op_sub (pv 3) pe_int) (pa_cons pe_int (pa_cons pe_int (pa_cons (pe_un un_neg pe_int) (pa_cons (pe_call GWh hr3 rfl gWh FWh.kp bWh .nil pass0 (pa_cons (pv 2) pa_nil)) pa_nil)))))))))) ?w3
              case w3 =>
                refine' pss_cons (ps_set (i := 6) scLaw.nd rfl (.inl rfl) (pe_call GDr hr1 rfl gDr kDr bDr .nil pass0 (pa_cons (pv 2) (pa_cons pe_int pa_nil)))) ?w4
                case w4 =>
                  refine' pss_cons (ps_set (i := 5) scLaw.nd rfl (.inl rfl) (pe_op op_cat (pv 5) (pe_lst (pa_cons (pe_op op_add (pv 3) (pe_op op_mul pe_int (pv 6))) (pa_cons (pe_op op_sub (pe_op op_add (pv 3) (pe_op op_mul pe_int (pv 6))) pe_int) (pa_cons pe_non (pa_cons pe_bl (pa_cons pe_str (pa_cons (pe_call GOd hr3 rfl gOd FOd.kp bOd .nil pass0 (pa_cons (pv 2) (pa_cons (pv 3) (pa_cons pe_int pa_nil)))) pa_nil))))))))) ?w5
                  case w5 =>
                    refine' pss_cons (ps_for PassesOwn.never rfl (pi_list (pe_op op_cat (pv 5) (pe_lst (pa_cons (pe_call GAn hr3 rfl gAn FAn.kp bAn .nil pass0 (pa_cons (pv 2) pa_nil)) pa_nil)))) (pg_name (i := 7) scLaw.nd rfl (Or.inr rfl)) ?l7) ?w6
                    case l7 =>
                      refine' pss_cons (ps_set (i := 8) scLaw.nd rfl (.inl rfl) (pe_tup (pa_cons pe_str (pa_cons pe_str pa_nil)))) ?v0
                      case v0 =>
                        refine' pss_cons (ps_if (pt_val (pe_call GNu hr1 rfl gNu FNu.kp bNu .nil pass0 (pa_cons (pv 7) (pa_cons (pv 3) (pa_cons pe_int pa_nil))))) (pss_one (ps_set (i := 8) scLaw.nd rfl (.inl rfl) (pe_tup (pa_cons pe_str (pa_cons (pe_call GYe hr1 rfl gYe FYe.kp bYe .nil pass0 (pa_cons (pv 3) (pa_cons (pv 7) pa_nil))) pa_nil))))) pss_nil) ?v1
                        case v1 =>
                          refine' pss_one (ps_if (pt_cmpR op_ne (pe_callB rep rfl T.rep_ boot_repr (pa_cons ?lam pa_nil)) (pe_callB rep rfl T.rep_ boot_repr (pa_cons (pv 8) pa_nil)) (nomark _)) (pss_one (ps_ret pe_bl)) pss_nil)
                          case lam =>
                            refine' LamX.pe_lamcall (x := "_law_came") (a := "_law_call") (T := Ts) (c := c) (P := Pt) (k := 4) (t := fun E' => tMeth C "age_on" (spPAge C CD) [] E' (tVar 4) (tCons (tVar 7) tNil)) rfl gCa FCa.kp lkC hcC bCa scCame rfl (.inl rfl) ?lg TB ecd List.mem_cons_self ?lu hr (LamX.lamS_by (sc := defScope sLaw) (by decide +kernel)) rfl (fun _ _ _ _ _ => rfl) ?lb
                            case lg =>
                              refine came_gives (kt := [(CD, "noday")]) (m := 4) hr FKi gKi T oe.cc gNP (fun D z hm => ?_)
                              have e : (D, z) = (CD, Str.ofString "noday") := by simpa using hm
                              injection e with e1 e2
                              rw [e1, e2]
                              exact oe.er
                            case lu =>
                              intro p hp _
                              have e : p = (Pt, qn) := by simpa [Ts] using hp
                              rw [e]
                            case lb =>
                              intro A' outer' s' H' E' f' c' hr'
                              exact pe_meth (pv 4) R.cl mMe GMe hr' bMe .nil (passes_call (takes_of rfl rfl rfl rfl) (fun _ _ _ _ h => h)) (pa_cons (pv 7) pa_nil)
                    case w6 =>
                      exact pss_one (ps_if (PW.pt (pw_or (pt_cmpR op_ne (pe_fld (pv 4) rfl) (pv 3) (nomark _)) (pw_or1 (pt_cmpR (op_neOwn GEq (hr.mono (by decide)) lEq iEq o.ne o.ob bEq pass0) (pv 4) (pe_make MK GIn (hr.mono (by decide)) rfl R.gC bIn .nil pass0 (pa_cons pe_str (pa_cons (pv 3) (pa_cons pe_str (pa_cons pe_str pa_nil))))) (nomark _))))) (pss_one (ps_ret pe_bl)) pss_nil)
      case z0 =>
        exact pss_one (ps_ret pe_bl)
    case r =>
      have t0 : LamX.Tabs Ts H := by
        intro q hq
        have e : q = (Pt, qn) := by simpa [Ts] using hq
        rw [e]
        exact LamX.TabS.nil hPt
      refine ⟨_, rfl, a, ns, rfl, ha, hn, fun z0 => ⟨(by show 1 ≤ sizeLine; decide), fun l1 h1 => ?_⟩⟩
      have s1 := up2 (o := .lst [.int z0]) h1
      refine ⟨_, rfl, _, rfl, _, rfl, a, _, rfl, sql_same ha s1, fun l2 h2 => ?_⟩
      have s2 := up2 (o := .lst (cutV (ns.map V.int) (some 1) (some 5))) h2
      refine ⟨l1, l2, _, _, rfl, rfl, s2 _ _ upd_same, upd_same, ?_, fun l3 h3 => ?_⟩
      · have q1 := cutV_length (ns.map V.int) (some 1) (some 5)
        rw [List.length_map] at q1
        have q2 : ([V.int z0].length : Nat) = 1 := rfl
        exact Nat.le_of_lt (small1000 (by omega))
      have s3 := up2 (o := .lst ([.int z0] ++ cutV (ns.map V.int) (some 1) (some 5))) h3
      obtain ⟨H0, eH0⟩ : ∃ G, G = upd (upd (upd H l1 (.lst [.int z0])) l2 (.lst (cutV (ns.map V.int) (some 1) (some 5)))) l3 (.lst ([.int z0] ++ cutV (ns.map V.int) (some 1) (some 5))) := ⟨_, rfl⟩
      have hL0 : H0 l3 = some (.lst ([.int z0] ++ cutV (ns.map V.int) (some 1) (some 5))) := by
        rw [eH0]
        exact upd_same
      have tb0 : LamX.Tabs Ts H0 := by
        rw [eH0]
        exact t0.ext (s1.trans (s2.trans s3))
      rw [← eH0]
      refine ⟨l3, rfl, ⟨_, SqL.of hL0⟩, for_list (K := K) (a := l3) (xs := [.int z0] ++ cutV (ns.map V.int) (some 1) (some 5)) (fun i σ H' => ∃ v1 v2 v3 v4 v5 v6 v7 v8 : Option V, σ = [some (.ref a), v1, v2, v3, v4, v5, v6, v7, v8] ∧ LamX.ExtN H0 H' ∧ LamX.Tabs Ts H')
        ⟨none, none, none, none, none, none, none, none, rfl, LamX.ExtN.refl _, tb0⟩ (fun i σ H' _ ⟨_, _, _, _, _, _, _, _, _, e, _⟩ => SqL.of (e _ _ hL0 (fun _ z => by cases z))) ?_ ?_⟩
      · rintro i y σ Hi hy ⟨v1, v2, v3, v4, v5, v6, v7, v8, rfl, eN, tb⟩
        obtain ⟨z, rfl⟩ := int_at hy
        refine ⟨_, rfl, z, rfl, fun p H1 hp sm1 pn1 => ?_⟩
        refine ⟨_, rfl, p, rfl, pn1, fun b H2 kp2 hb => ?_⟩
        refine ⟨_, rfl, fun x dx nx ndx nex => ?_⟩
        refine ⟨x, dx, zAnn, b, zOpen, zNo, rfl, upd_same, okAnn hb, fun H3 k3 h3 => ⟨rfl, ?_⟩⟩
        have s23 : Same H2 H3 := Same.made nx ndx k3
        have tn3 : Tn Ts C H3 p x b := ⟨⟨dx, h3⟩, pen_same kp2.pen s23, (tabs_kp (tb.ext sm1) pn1 kp2).ext s23⟩
        have e3 : LamX.ExtN Hi H3 := (extN_kp (extN_same sm1) hp pn1 kp2).trans (extN_same s23)
        -- the clocks
        refine ⟨_, rfl, _, rfl, _, _, rfl, rfl, _, rfl, _, _, rfl, rfl, _, rfl, _, _, rfl, rfl, _, rfl, _, rfl, p, rfl, tn3.pen, fun c1 H4 kp4 hc1 => ?_⟩
        have tn4 := tn3.kp kp4
        have e4 := extN_kp e3 hp tn3.pen kp4
        refine ⟨(by show 8 ≤ sizeLine; decide), fun g hg => ?_⟩
        obtain ⟨xs, exs⟩ : ∃ xs : List V, xs = [.int b, .int (b + 364), .int (b + 365), .int (b - 1), .int 40000, .int 40001, .int (-40000), .int c1] := ⟨_, rfl⟩
        have lx : xs.length = 8 := by rw [exs]; rfl
        have s5 := up2 (o := .lst [.int b, .int (b + 364), .int (b + 365), .int (b - 1), .int 40000, .int 40001, .int (-40000), .int c1]) hg
        rw [← exs] at s5 ⊢
        have tn5 := tn4.same s5
        have e5 := e4.trans (extN_same s5)
        have hg5 : (upd H4 g (.lst xs)) g = some (.lst xs) := upd_same
        have ng : g ≠ p := fun z => by
          obtain ⟨x, y, e⟩ := tn4.pen
          rw [← z, hg] at e
          cases e
        refine ⟨_, rfl, p, 230, rfl, tn5.pen, ⟨by decide, by decide⟩, fun m H6 m0 m1 kp6 => ?_⟩
        have tn6 := tn5.kp kp6
        have e6 := extN_kp e5 hp tn5.pen kp6
        have hg6 := kp6.keep _ _ hg5 ng
        refine ⟨_, rfl, _, rfl, _, rfl, _, _, rfl, rfl, .inl ⟨by decide, by decide⟩, _, _, rfl, rfl, _, rfl, _, rfl, _, _, rfl, rfl, .inl ⟨by decide, by decide⟩, _, _, rfl, rfl, _, _, rfl, rfl, _, rfl, _, rfl, p, _, _, rfl, tn6.pen, fun o1 H7 kp7 th1 => ?_⟩
        have tn7 := tn6.kp kp7
        have e7 := extN_kp e6 hp tn6.pen kp7
        have hg7 := kp7.keep _ _ hg6 ng
        refine ⟨(by show 6 ≤ sizeLine; decide), fun g2 hg2 => ?_⟩
        obtain ⟨ys, eys⟩ : ∃ ys : List V, ys = [.int (b + 365 * m), .int (b + 365 * m - 1), .non, .bl true, .str "5", o1] := ⟨_, rfl⟩
        have ly : ys.length = 6 := by rw [eys]; rfl
        have s8 := up2 (o := .lst [.int (b + 365 * m), .int (b + 365 * m - 1), .non, .bl true, .str "5", o1]) hg2
        rw [← eys] at s8 ⊢
        refine ⟨g, g2, _, _, rfl, rfl, s8 _ _ hg7, upd_same, (by rw [lx, ly]; decide), fun g3 hg3 => ?_⟩
        have s9 := up2 (o := .lst (xs ++ ys)) hg3
        have tn9 := (tn7.same s8).same s9
        have e9 := (e7.trans (extN_same s8)).trans (extN_same s9)
        have ng3 : g3 ≠ p := fun z => by
          obtain ⟨x, y, e⟩ := (tn7.same s8).pen
          rw [← z, hg3] at e
          cases e
        refine ⟨_, rfl, _, rfl, p, rfl, tn9.pen, fun o2 H10 kp10 th2 => ?_⟩
        have tn10 := tn9.kp kp10
        have e10 := extN_kp e9 hp tn9.pen kp10
        have hg10 := kp10.keep _ _ upd_same ng3
        refine ⟨(by show 1 ≤ sizeLine; decide), fun g4 hg4 => ?_⟩
        have s11 := up2 (o := .lst [o2]) hg4
        refine ⟨g3, g4, _, _, rfl, rfl, s11 _ _ hg10, upd_same, (by rw [List.length_append, lx, ly]; show 8 + 6 + 1 ≤ sizeLine; decide), fun L hL => ?_⟩
        have s12 := up2 (o := .lst (xs ++ ys ++ [o2])) hL
        obtain ⟨HL, eHL⟩ : ∃ G, G = upd (upd H10 g4 (.lst [o2])) L (.lst (xs ++ ys ++ [o2])) := ⟨_, rfl⟩
        have hLL : HL L = some (.lst (xs ++ ys ++ [o2])) := by
          rw [eHL]
          exact upd_same
        rw [← eHL] at s12 ⊢
        have tnL := (tn10.same s11).same s12
        have eL := (e10.trans (extN_same s11)).trans (extN_same s12)
        have ths : ∀ y ∈ xs ++ ys ++ [o2], Th HL y := by
          intro y hy
          rcases List.mem_append.mp hy with hy | hy
          · rcases List.mem_append.mp hy with hy | hy
            · rw [exs] at hy
              simp only [List.mem_cons, List.not_mem_nil, or_false] at hy
              rcases hy with rfl | rfl | rfl | rfl | rfl | rfl | rfl | rfl <;> exact .int _
            · rw [eys] at hy
              simp only [List.mem_cons, List.not_mem_nil, or_false] at hy
              rcases hy with rfl | rfl | rfl | rfl | rfl | rfl
              · exact .int _
              · exact .int _
              · exact .non
              · exact .bl _
              · exact .str _
              · exact ((((th1.same s8).same s9).kp kp10).same s11).same s12
          · rw [List.mem_singleton.mp hy]
            exact (th2.same s11).same s12
        refine ⟨L, rfl, ⟨_, SqL.of hLL⟩, for_list (K := K) (a := L) (xs := xs ++ ys ++ [o2]) (fun i σ H' => ∃ w7 w8 : Option V, σ = [some (.ref a), some (.int z), some (.ref p), some (.int b), some (.ref x), some (.ref g3), some (.int m), w7, w8] ∧ LamX.ExtN HL H' ∧ LamX.Tabs Ts H')
          ⟨v7, v8, rfl, LamX.ExtN.refl _, tnL.tab⟩ (fun i σ H' _ ⟨_, _, _, e, _⟩ => SqL.of (e _ _ hLL (fun _ z => by cases z))) ?_ ?_⟩
        · rintro j y σ Hj hy ⟨w7, w8, rfl, ej, tbj⟩
          have thy := (ths y (List.mem_of_getElem? hy)).ext ej
          have tnj := tnL.ext ej tbj
          refine ⟨(by show 2 ≤ sizeLine; decide), fun t0 ht0 => ?_⟩
          have sA := up2 (o := .tup [.str "no", .str "noday"]) ht0
          have tnA := tnj.same sA
          refine ⟨_, rfl, _, rfl, y, b, 40000, rfl, thy.same sA, _, rfl, ite2 (fun cc => ?_) (fun cc => ?_)⟩
          · obtain ⟨d, rfl, d1, d2⟩ := numIn_ex cc
            refine ⟨_, rfl, _, rfl, b, d, rfl, d1, (by show 2 ≤ sizeLine; decide), fun t1 ht1 => ?_⟩
            have sB := up2 (o := .tup [.str "told", .int ((d - b) / 365)]) ht1
            have tnB := tnA.same sB
            have hB : (upd (upd Hj t0 (.tup [.str "no", .str "noday"])) t1 (.tup [.str "told", .int ((d - b) / 365)])) t1 = some (.tup [.str "told", .int ((d - b) / 365)]) := upd_same
            refine ⟨tnB.tab, fun Hc en tbc => ?_⟩
            have tnc := tnB.ext en tbc
            obtain ⟨dxc, hxc⟩ := tnc.at_
            refine ⟨_, rfl, x, dxc, _, rfl, hxc, pf_no _ _ _ _ (by decide +kernel) (by decide +kernel) (by decide +kernel) (by decide +kernel), _, rfl, x, .int d, zAnn, b, zOpen, zNo, rfl, tnc.at_, .int d, hb, fun d' ed _ _ => ?_, fun e => ?_⟩
            · injection ed with ed
              subst ed
              refine ⟨(by show 2 ≤ sizeLine; decide), fun t ht => ?_⟩
              have sC := up2 (o := .tup [.str "told", .int ((d - b) / 365)]) ht
              have hB2 := sC _ _ (en _ _ hB (fun _ z => by cases z))
              obtain ⟨r1, r2, r3⟩ := pair_rep sm_told (Sm.int (i := (d - b) / 365) (by
                have h1 : (d - b) / 365 ≤ 80000 := by omega
                have h2 : 0 ≤ (d - b) / 365 := by omega
                have h3 : (10 : Nat) ^ 40 = 10000000000000000000000000000000000000000 := by decide +kernel
                omega))
              refine ⟨_, .tuple [.str "told", .int ((d - b) / 365)], rfl, .tup (SqT.of upd_same) (.cons (.str _) (.cons (.int _) .nil)), r1, r2, r3, ?_⟩
              refine ⟨_, rfl, _, .tuple [.str "told", .int ((d - b) / 365)], rfl, .tup (SqT.of hB2) (.cons (.str _) (.cons (.int _) .nil)), r1, r2, r3, ?_⟩
              refine ⟨rfl, ?_⟩
              rw [same_text]
              refine ⟨false, rfl, iteF ?_⟩
              exact ⟨_, _, rfl, (ej.trans (extN_same (sA.trans sB))).trans (en.trans (extN_same sC)), tbc.ext sC⟩
            · rw [cc] at e
              cases e
          · have cc' := Bool.eq_false_iff.mpr cc
            have hA : (upd Hj t0 (.tup [.str "no", .str "noday"])) t0 = some (.tup [.str "no", .str "noday"]) := upd_same
            refine ⟨tnA.tab, fun Hc en tbc => ?_⟩
            have tnc := tnA.ext en tbc
            obtain ⟨dxc, hxc⟩ := tnc.at_
            refine ⟨_, rfl, x, dxc, _, rfl, hxc, pf_no _ _ _ _ (by decide +kernel) (by decide +kernel) (by decide +kernel) (by decide +kernel), _, rfl, x, y, zAnn, b, zOpen, zNo, rfl, tnc.at_, (thy.same sA).ext en, hb, fun d' ed d1 d2 => ?_, fun _ => ?_⟩
            · exfalso
              subst ed
              have : (decide (b ≤ d') && decide (d' ≤ 40000)) = false := cc'
              rw [decide_eq_true d1, decide_eq_true d2] at this
              cases this
            · refine ⟨rfl, CD, "noday", List.mem_cons_self, rfl, fun H'' sm t ht => ?_⟩
              have sC := up2 (o := .tup [.str "no", .str "noday"]) ht
              have hA2 := sC _ _ (sm _ _ (en _ _ hA (fun _ z => by cases z)))
              obtain ⟨r1, r2, r3⟩ := pair_rep sm_no sm_noday
              refine ⟨_, .tuple [.str "no", .str "noday"], rfl, .tup (SqT.of upd_same) (.cons (.str _) (.cons (.str _) .nil)), r1, r2, r3, ?_⟩
              refine ⟨_, rfl, _, .tuple [.str "no", .str "noday"], rfl, .tup (SqT.of hA2) (.cons (.str _) (.cons (.str _) .nil)), r1, r2, r3, ?_⟩
              refine ⟨rfl, ?_⟩
              rw [same_text]
              refine ⟨false, rfl, iteF ?_⟩
              exact ⟨_, _, rfl, (ej.trans (extN_same sA)).trans (en.trans (extN_same (sm.trans sC))), (tbc.ext sm).ext sC⟩
        · rintro σ H12 ⟨w7, w8, rfl, e12, tb12⟩
          have tn12 := tnL.ext e12 tb12
          obtain ⟨dx12, hx12⟩ := id tn12.at_
          refine ⟨_, rfl, x, C, dx12, _, _, rfl, hx12, R.cl, R.nB, f_born _ _ _ _, _, rfl, rfl, false, by simp, iteF ?_⟩
          refine ⟨_, rfl, _, rfl, fun x2 dy nx2 ndy nexy => ?_⟩
          refine ⟨x2, dy, zAnn, b, zOpen, zNo, rfl, upd_same, okAnn hb, fun H14 k14 h14 => ⟨rfl, ?_⟩⟩
          have s14 : Same H12 H14 := Same.made nx2 ndy k14
          have tn14 := tn12.same s14
          obtain ⟨dx14, hx14⟩ := id tn14.at_
          refine ⟨x, x2, dx14, dy, _, _, rfl, rfl, hx14, h14, x, x2, zAnn, zAnn, b, b, zOpen, zNo, zOpen, zNo, rfl, tn14.at_, ⟨dy, h14⟩, okAnn hb, okAnn hb, fun H15 s15 => ⟨true, congrArg V.bl (decide_eq_true ⟨rfl, rfl, rfl, rfl⟩), false, rfl, iteF ?_⟩⟩
          exact ⟨_, _, _, _, _, _, _, _, rfl, eN.trans ((eL.trans e12).trans (extN_same (s14.trans s15))), (tn14.same s15).tab⟩
      · rintro σ Hi ⟨v1, v2, v3, v4, v5, v6, v7, v8, rfl, eN, tb⟩
        exact back _
end
end K5
set_option Elab.async false
set_option linter.all false
set_option maxRecDepth 100000
set_option maxHeartbeats 0
namespace K5
open PySem PySem.Spec PyProof.Rows L2 Bb
/-! the head: facts by names, the run -/
def d_is_number : He.DefD := ⟨("is_number", none), "is_number", "is_number", defArgs sIsNum, defBody sIsNum, defScope sIsNum, [], []⟩
def d_is_number_from : He.DefD := ⟨("is_number_from", none), "is_number_from", "is_number_from", defArgs sFrom, defBody sFrom, defScope sFrom, [], []⟩
def d_is_name : He.DefD := ⟨("is_name", none), "is_name", "is_name", defArgs sIsName, defBody sIsName, defScope sIsName, [], []⟩
def d_is_day : He.DefD := ⟨("is_day", none), "is_day", "is_day", defArgs sIsDay, defBody sIsDay, defScope sIsDay, [], []⟩
def d_is_team : He.DefD := ⟨("is_team", none), "is_team", "is_team", defArgs sIsTeam, defBody sIsTeam, defScope sIsTeam, [], []⟩
def d__law_cell : He.DefD := ⟨("_law_cell", none), "_law_cell", "_law_cell", defArgs sCell, defBody sCell, defScope sCell, [], []⟩
def d__law_pen : He.DefD := ⟨("_law_pen", none), "_law_pen", "_law_pen", defArgs sPen, defBody sPen, defScope sPen, [], []⟩
def d__law_draw : He.DefD := ⟨("_law_draw", none), "_law_draw", "_law_draw", defArgs sDraw, defBody sDraw, defScope sDraw, [], []⟩
def d__law_pick : He.DefD := ⟨("_law_pick", none), "_law_pick", "_law_pick", defArgs sPick, defBody sPick, defScope sPick, [], []⟩
def d__law_kind : He.DefD := ⟨("_law_kind", none), "_law_kind", "_law_kind", defArgs sKind, defBody sKind, defScope sKind, [], []⟩
def d__law_came : He.DefD := ⟨("_law_came", none), "_law_came", "_law_came", defArgs sCame, defBody sCame, defScope sCame, [], []⟩
def d__law_anything : He.DefD := ⟨("_law_anything", none), "_law_anything", "_law_anything", defArgs sAny, defBody sAny, defScope sAny, [], []⟩
def d__law_odd : He.DefD := ⟨("_law_odd", none), "_law_odd", "_law_odd", defArgs sOdd, defBody sOdd, defScope sOdd, [], []⟩
def d__law_number : He.DefD := ⟨("_law_number", none), "_law_number", "_law_number", defArgs sNum, defBody sNum, defScope sNum, [], []⟩
def d__law_when : He.DefD := ⟨("_law_when", none), "_law_when", "_law_when", defArgs sWhen, defBody sWhen, defScope sWhen, [], []⟩
def d__law_years : He.DefD := ⟨("_law_years", none), "_law_years", "_law_years", defArgs sYears, defBody sYears, defScope sYears, [], []⟩
def d_law : He.DefD := ⟨("law", none), "law", "law", defArgs sLaw, defBody sLaw, defScope sLaw, [], []⟩
def d_Person___init__ : He.DefD := ⟨("Person", some "__init__"), "__init__", "Person.__init__", defArgs sPInit, defBody sPInit, defScope sPInit, [.str "open", .str ""], []⟩
def d_Person___eq__ : He.DefD := ⟨("Person", some "__eq__"), "__eq__", "Person.__eq__", defArgs sPEq, defBody sPEq, defScope sPEq, [], []⟩
def d_Person_parts : He.DefD := ⟨("Person", some "parts"), "parts", "Person.parts", defArgs sPParts, defBody sPParts, defScope sPParts, [], []⟩
def d_Person_age_on : He.DefD := ⟨("Person", some "age_on"), "age_on", "Person.age_on", defArgs sPAge, defBody sPAge, defScope sPAge, [], []⟩
def hfn : List He.DefD := ([d_is_number, d_is_number_from, d_is_name, d_is_day, d_is_team, d__law_cell, d__law_pen, d__law_draw, d__law_pick, d__law_kind, d__law_came, d__law_anything, d__law_odd, d__law_number, d__law_when, d__law_years, d_law, d_Person___init__, d_Person___eq__, d_Person_parts] : List He.DefD) ++ ([d_Person_age_on] : List He.DefD)
def hfa : List He.Fa := ([.glo "is_number", .glo "is_number_from", .glo "is_name", .glo "is_day", .glo "is_team", .glo "_law_cell", .glo "_law_pen", .glo "_law_draw", .glo "_law_pick", .glo "_law_kind", .glo "_law_came", .glo "_law_anything", .glo "_law_odd", .glo "_law_number", .glo "_law_when", .glo "_law_years", .glo "law", .glo "NoMark", .glo "NoWay", .glo "NoRules"] : List He.Fa) ++ ([.glo "NoAge", .glo "NoPerson", .glo "NoDay", .glo "NoDeed", .glo "NoSheet", .glo "NoWord", .glo "NoBook", .glo "NoText", .glo "NoName", .glo "ClubError", .glo "NoPlace", .glo "Person", .free "isinstance", .free "int", .free "bool", .free "tuple", .free "list", .free "str", .free "len", .free "all"] : List He.Fa) ++ ([.free "range", .free "enumerate", .free "repr", .free "min", .free "max", .free "sorted", .free "zip", .free "ValueError", .free "LookupError", .int "MOST_DAY" 40000, .int "DAYS_OF_A_YEAR" 365, .int "LONGEST_NAME" 8, .str "LETTERS" "abcdefghijklmnopqrstuvwxyz", .cls "Person", .noat "Person" "name", .noat "Person" "born", .noat "Person" "group", .noat "Person" "team", .meth "Person" "parts", .meth "Person" "age_on"] : List He.Fa) ++ ([.meth "Person" "__eq__", .mkr "Person", .exc "NoDay", .exm "NoDay" "ClubError" true] : List He.Fa)
def htf : List He.Defn := [("law", none)]
def excB (K : PySem.W.Frag) (D : Addr) : Bool :=
  He.eqO (PySem.W.findIn K (.ref D) "__getattribute__") (some (some (.builtin "BaseException.__getattribute__"))) && (He.eqO (PySem.W.findIn K (.ref D) "__getattr__") (some none) && (decide (PySem.W.subIn K (.ref D) (.type "BaseException") = some true) && (PySem.W.hasDictIn K D &&
  (He.eqO (PySem.W.findIn K (.ref D) "__class__") (some (some (.builtin "object.__class__"))) && (He.eqO (PySem.W.specialIn K (.builtin "object.__class__") "__get__") (some (some (.builtin "getset_descriptor.__get__"))) && (decide (PySem.W.takesIn K (.builtin "object.__class__") = some true) && decide (PySem.W.mroIn K D (.type "object") = some true)))))))
theorem excB_ok {K : PySem.W.Frag} {D : Addr} (h : excB K D = true) : ExcC K D := by
  obtain ⟨h1, h⟩ := He.ba h
  obtain ⟨h2, h⟩ := He.ba h
  obtain ⟨h3, h⟩ := He.ba h
  obtain ⟨h4, h⟩ := He.ba h
  obtain ⟨h5, h⟩ := He.ba h
  obtain ⟨h6, h⟩ := He.ba h
  obtain ⟨h7, h8⟩ := He.ba h
  exact ⟨He.eqO_ok h1, He.eqO_ok h2, of_decide_eq_true h3, h4, He.eqO_ok h5, He.eqO_ok h6, of_decide_eq_true h7, of_decide_eq_true h8⟩
/-- the class D of errors is the j-th of the law's -/
def kdB (K : PySem.W.Frag) (D : Addr) (j : Nat) : Bool :=
  (List.range 12).all (fun i => decide (PySem.W.kitOne K (.ref D) (.ref (He.ga K (kOrd.getD i ""))) = some (decide (i = j)))) && (decide (PySem.W.kitOne K (.ref D) (.type "ValueError") = some true) && (decide (PySem.W.kitOne K (.ref D) (.type "LookupError") = some false) && excB K D))
def insB (K : PySem.W.Frag) (C : Addr) : Bool :=
  He.eqO (PySem.W.findIn K (.ref C) "__class__") (some (some (.builtin "object.__class__"))) && (He.eqO (PySem.W.specialIn K (.builtin "object.__class__") "__get__") (some (some (.builtin "getset_descriptor.__get__"))) && (decide (PySem.W.takesIn K (.builtin "object.__class__") = some true) && (decide (PySem.W.mroIn K C (.type "object") = some true) &&
  (decide (PySem.W.kitOne K (.ref C) (.ref C) = some true) && (He.eqO (PySem.W.findIn K (.ref C) "__ne__") (some (some (.builtin "object.__ne__"))) && decide (PySem.W.subIn K (.ref C) (.type "object") = some true))))))

def hex (K : PySem.W.Frag) : Bool := kdB K (He.ga K "NoDay") 5 && insB K (He.ga K "Person")
abbrev R : PySem.W.OpenRow := PySem.W.OpenLaw.row PySem.Challenge.rw_bestsbook_k05_ages_on_days
abbrev hk : PySem.W.Hook := He.hookX 5 hfa hfn [] htf hex
def ob (s : PySem.W.SharedT) : He.AlX := He.obsX 5 hfa hfn [] htf hex (HandSHeadRun.getT s)
theorem ob_eq (s : PySem.W.SharedT) : ob s = hk.obs s.abs := He.obsX_eq (HandSHeadRun.getT_eq s)
def loose : List Str := (["ClubError", "NoPlace", "NoMark", "NoWay", "NoRules", "NoAge", "NoPerson", "NoDay", "NoDeed", "NoSheet", "NoWord", "NoName", "NoBook", "NoText", "LETTERS", "LONGEST_NAME", "MOST_DAY", "is_number", "is_number_from", "is_name"] : List Str) ++ (["is_day", "DAYS_OF_A_YEAR", "is_team", "Person", "_law_cell", "_law_pen", "_law_draw", "_law_pick", "_law_kind", "_law_came", "_law_anything", "_law_odd", "_law_when", "_law_number", "_law_years"] : List Str)
theorem run (w : World) : HandSHeadRun.RunEq R (PySem.W.view R.prog [39]) hk ob 6000 loose w := by
  intro os
  kernel_rfl
end K5
set_option Elab.async false
set_option linter.all false
set_option maxRecDepth 100000
set_option maxHeartbeats 0
namespace K5
open PySem PySem.Spec PyProof.Rows L2 Bb
section
variable {K : PySem.W.Frag} {h : Heap} {mg : Str → Option Value}
abbrev SD (K : PySem.W.Frag) : Prop := He.SaysD hfa hfn K
theorem z_free (X : K.In h) (G : h.Ns mainGlobals mg) (c : SD K) : Free mg := ⟨(He.free_ok X G (c.fact 32 (f := .free "isinstance") rfl)), (He.free_ok X G (c.fact 33 (f := .free "int") rfl)), (He.free_ok X G (c.fact 34 (f := .free "bool") rfl)), (He.free_ok X G (c.fact 35 (f := .free "tuple") rfl)), (He.free_ok X G (c.fact 36 (f := .free "list") rfl)), (He.free_ok X G (c.fact 37 (f := .free "str") rfl)), (He.free_ok X G (c.fact 38 (f := .free "len") rfl)), (He.free_ok X G (c.fact 39 (f := .free "all") rfl)), (He.free_ok X G (c.fact 40 (f := .free "range") rfl)), (He.free_ok X G (c.fact 41 (f := .free "enumerate") rfl)), (He.free_ok X G (c.fact 42 (f := .free "repr") rfl)), (He.free_ok X G (c.fact 43 (f := .free "min") rfl)), (He.free_ok X G (c.fact 44 (f := .free "max") rfl)), (He.free_ok X G (c.fact 45 (f := .free "sorted") rfl)), (He.free_ok X G (c.fact 46 (f := .free "zip") rfl)), (He.free_ok X G (c.fact 47 (f := .free "ValueError") rfl)), (He.free_ok X G (c.fact 48 (f := .free "LookupError") rfl))⟩
theorem z_cons (X : K.In h) (G : h.Ns mainGlobals mg) (c : SD K) : Cons mg := ⟨He.int_ok X G (c.fact 49 (f := .int "MOST_DAY" 40000) rfl), He.int_ok X G (c.fact 50 (f := .int "DAYS_OF_A_YEAR" 365) rfl), He.int_ok X G (c.fact 51 (f := .int "LONGEST_NAME" 8) rfl), He.str_ok X G (c.fact 52 (f := .str "LETTERS" "abcdefghijklmnopqrstuvwxyz") rfl)⟩
theorem z_is_number (X : K.In h) (G : h.Ns mainGlobals mg) (c : SD K) : ∃ a d, Fn K "is_number" "is_number" sIsNum a d ∧ mg "is_number" = some (.ref a) := by
  obtain ⟨fd, F⟩ := c.def_ 0 (d := d_is_number) rfl
  exact ⟨_, fd, F, (He.glo_ok X G (c.fact 0 (f := .glo "is_number") rfl))⟩
theorem z_is_number_from (X : K.In h) (G : h.Ns mainGlobals mg) (c : SD K) : ∃ a d, Fn K "is_number_from" "is_number_from" sFrom a d ∧ mg "is_number_from" = some (.ref a) := by
  obtain ⟨fd, F⟩ := c.def_ 1 (d := d_is_number_from) rfl
  exact ⟨_, fd, F, (He.glo_ok X G (c.fact 1 (f := .glo "is_number_from") rfl))⟩
theorem z_is_name (X : K.In h) (G : h.Ns mainGlobals mg) (c : SD K) : ∃ a d, Fn K "is_name" "is_name" sIsName a d ∧ mg "is_name" = some (.ref a) := by
  obtain ⟨fd, F⟩ := c.def_ 2 (d := d_is_name) rfl
  exact ⟨_, fd, F, (He.glo_ok X G (c.fact 2 (f := .glo "is_name") rfl))⟩
theorem z_is_day (X : K.In h) (G : h.Ns mainGlobals mg) (c : SD K) : ∃ a d, Fn K "is_day" "is_day" sIsDay a d ∧ mg "is_day" = some (.ref a) := by
  obtain ⟨fd, F⟩ := c.def_ 3 (d := d_is_day) rfl
  exact ⟨_, fd, F, (He.glo_ok X G (c.fact 3 (f := .glo "is_day") rfl))⟩
theorem z_is_team (X : K.In h) (G : h.Ns mainGlobals mg) (c : SD K) : ∃ a d, Fn K "is_team" "is_team" sIsTeam a d ∧ mg "is_team" = some (.ref a) := by
  obtain ⟨fd, F⟩ := c.def_ 4 (d := d_is_team) rfl
  exact ⟨_, fd, F, (He.glo_ok X G (c.fact 4 (f := .glo "is_team") rfl))⟩
theorem z__law_cell (X : K.In h) (G : h.Ns mainGlobals mg) (c : SD K) : ∃ a d, Fn K "_law_cell" "_law_cell" sCell a d ∧ mg "_law_cell" = some (.ref a) := by
  obtain ⟨fd, F⟩ := c.def_ 5 (d := d__law_cell) rfl
  exact ⟨_, fd, F, (He.glo_ok X G (c.fact 5 (f := .glo "_law_cell") rfl))⟩
theorem z__law_pen (X : K.In h) (G : h.Ns mainGlobals mg) (c : SD K) : ∃ a d, Fn K "_law_pen" "_law_pen" sPen a d ∧ mg "_law_pen" = some (.ref a) := by
  obtain ⟨fd, F⟩ := c.def_ 6 (d := d__law_pen) rfl
  exact ⟨_, fd, F, (He.glo_ok X G (c.fact 6 (f := .glo "_law_pen") rfl))⟩
theorem z__law_draw (X : K.In h) (G : h.Ns mainGlobals mg) (c : SD K) : ∃ a d, Fn K "_law_draw" "_law_draw" sDraw a d ∧ mg "_law_draw" = some (.ref a) := by
  obtain ⟨fd, F⟩ := c.def_ 7 (d := d__law_draw) rfl
  exact ⟨_, fd, F, (He.glo_ok X G (c.fact 7 (f := .glo "_law_draw") rfl))⟩
theorem z__law_pick (X : K.In h) (G : h.Ns mainGlobals mg) (c : SD K) : ∃ a d, Fn K "_law_pick" "_law_pick" sPick a d ∧ mg "_law_pick" = some (.ref a) := by
  obtain ⟨fd, F⟩ := c.def_ 8 (d := d__law_pick) rfl
  exact ⟨_, fd, F, (He.glo_ok X G (c.fact 8 (f := .glo "_law_pick") rfl))⟩
theorem z__law_kind (X : K.In h) (G : h.Ns mainGlobals mg) (c : SD K) : ∃ a d, Fn K "_law_kind" "_law_kind" sKind a d ∧ mg "_law_kind" = some (.ref a) := by
  obtain ⟨fd, F⟩ := c.def_ 9 (d := d__law_kind) rfl
  exact ⟨_, fd, F, (He.glo_ok X G (c.fact 9 (f := .glo "_law_kind") rfl))⟩
theorem z__law_came (X : K.In h) (G : h.Ns mainGlobals mg) (c : SD K) : ∃ a d, Fn K "_law_came" "_law_came" sCame a d ∧ mg "_law_came" = some (.ref a) := by
  obtain ⟨fd, F⟩ := c.def_ 10 (d := d__law_came) rfl
  exact ⟨_, fd, F, (He.glo_ok X G (c.fact 10 (f := .glo "_law_came") rfl))⟩
theorem z__law_anything (X : K.In h) (G : h.Ns mainGlobals mg) (c : SD K) : ∃ a d, Fn K "_law_anything" "_law_anything" sAny a d ∧ mg "_law_anything" = some (.ref a) := by
  obtain ⟨fd, F⟩ := c.def_ 11 (d := d__law_anything) rfl
  exact ⟨_, fd, F, (He.glo_ok X G (c.fact 11 (f := .glo "_law_anything") rfl))⟩
theorem z__law_odd (X : K.In h) (G : h.Ns mainGlobals mg) (c : SD K) : ∃ a d, Fn K "_law_odd" "_law_odd" sOdd a d ∧ mg "_law_odd" = some (.ref a) := by
  obtain ⟨fd, F⟩ := c.def_ 12 (d := d__law_odd) rfl
  exact ⟨_, fd, F, (He.glo_ok X G (c.fact 12 (f := .glo "_law_odd") rfl))⟩
theorem z__law_number (X : K.In h) (G : h.Ns mainGlobals mg) (c : SD K) : ∃ a d, Fn K "_law_number" "_law_number" sNum a d ∧ mg "_law_number" = some (.ref a) := by
  obtain ⟨fd, F⟩ := c.def_ 13 (d := d__law_number) rfl
  exact ⟨_, fd, F, (He.glo_ok X G (c.fact 13 (f := .glo "_law_number") rfl))⟩
theorem z__law_when (X : K.In h) (G : h.Ns mainGlobals mg) (c : SD K) : ∃ a d, Fn K "_law_when" "_law_when" sWhen a d ∧ mg "_law_when" = some (.ref a) := by
  obtain ⟨fd, F⟩ := c.def_ 14 (d := d__law_when) rfl
  exact ⟨_, fd, F, (He.glo_ok X G (c.fact 14 (f := .glo "_law_when") rfl))⟩
theorem z__law_years (X : K.In h) (G : h.Ns mainGlobals mg) (c : SD K) : ∃ a d, Fn K "_law_years" "_law_years" sYears a d ∧ mg "_law_years" = some (.ref a) := by
  obtain ⟨fd, F⟩ := c.def_ 15 (d := d__law_years) rfl
  exact ⟨_, fd, F, (He.glo_ok X G (c.fact 15 (f := .glo "_law_years") rfl))⟩
theorem z_law (X : K.In h) (G : h.Ns mainGlobals mg) (c : SD K) : ∃ a d, Fn K "law" "law" sLaw a d ∧ mg "law" = some (.ref a) := by
  obtain ⟨fd, F⟩ := c.def_ 16 (d := d_law) rfl
  exact ⟨_, fd, F, (He.glo_ok X G (c.fact 16 (f := .glo "law") rfl))⟩
theorem z_glo (X : K.In h) (G : h.Ns mainGlobals mg) (c : SD K) : ∀ (i : Nat) (x : Str), kOrd[i]? = some x → i < 12 ∧ kOrd.getD i "" = x ∧ mg x = some (.ref (He.ga K x)) := by
  intro i x e
  match i, e with
  | 0, e => cases e; exact ⟨by decide, rfl, (He.glo_ok X G (c.fact 17 (f := .glo "NoMark") rfl))⟩
  | 1, e => cases e; exact ⟨by decide, rfl, (He.glo_ok X G (c.fact 18 (f := .glo "NoWay") rfl))⟩
  | 2, e => cases e; exact ⟨by decide, rfl, (He.glo_ok X G (c.fact 19 (f := .glo "NoRules") rfl))⟩
  | 3, e => cases e; exact ⟨by decide, rfl, (He.glo_ok X G (c.fact 20 (f := .glo "NoAge") rfl))⟩
  | 4, e => cases e; exact ⟨by decide, rfl, (He.glo_ok X G (c.fact 21 (f := .glo "NoPerson") rfl))⟩
  | 5, e => cases e; exact ⟨by decide, rfl, (He.glo_ok X G (c.fact 22 (f := .glo "NoDay") rfl))⟩
  | 6, e => cases e; exact ⟨by decide, rfl, (He.glo_ok X G (c.fact 23 (f := .glo "NoDeed") rfl))⟩
  | 7, e => cases e; exact ⟨by decide, rfl, (He.glo_ok X G (c.fact 24 (f := .glo "NoSheet") rfl))⟩
  | 8, e => cases e; exact ⟨by decide, rfl, (He.glo_ok X G (c.fact 25 (f := .glo "NoWord") rfl))⟩
  | 9, e => cases e; exact ⟨by decide, rfl, (He.glo_ok X G (c.fact 26 (f := .glo "NoBook") rfl))⟩
  | 10, e => cases e; exact ⟨by decide, rfl, (He.glo_ok X G (c.fact 27 (f := .glo "NoText") rfl))⟩
  | 11, e => cases e; exact ⟨by decide, rfl, (He.glo_ok X G (c.fact 28 (f := .glo "NoName") rfl))⟩
theorem z_kd (X : K.In h) (G : h.Ns mainGlobals mg) (c : SD K) {D : Addr} {j : Fin 12} (e : kdB K D (j : Nat) = true) : Kd K mg D j := by
  obtain ⟨h1, h⟩ := He.ba e
  obtain ⟨h2, h⟩ := He.ba h
  obtain ⟨h3, h4⟩ := He.ba h
  refine ⟨fun i x hx => ?_, of_decide_eq_true h2, of_decide_eq_true h3, excB_ok h4⟩
  obtain ⟨lt, e1, e2⟩ := z_glo X G c i x hx
  have z := of_decide_eq_true (List.all_eq_true.mp h1 i (List.mem_range.mpr lt))
  rw [e1] at z
  exact ⟨_, e2, z⟩
theorem z_ph (X : K.In h) (G : h.Ns mainGlobals mg) (c : SD K) : Ph K mg := ⟨z_is_number X G c, z_is_number_from X G c, z_is_name X G c, z_is_day X G c, z_is_team X G c, z_free X G c, z_cons X G c⟩
theorem z_hl (X : K.In h) (G : h.Ns mainGlobals mg) (c : SD K) : Hl K mg := ⟨z__law_draw X G c, z__law_pick X G c, z_free X G c⟩
theorem z_all (X : K.In h) (G : h.Ns mainGlobals mg) (c : SD K) : All K mg := ⟨z_free X G c, z_ph X G c, z_hl X G c, z__law_cell X G c, z__law_pen X G c, z__law_when X G c, z__law_years X G c, z__law_odd X G c, z__law_anything X G c, z__law_number X G c, z__law_kind X G c, z__law_came X G c⟩
theorem z_person (X : K.In h) (G : h.Ns mainGlobals mg) (c : SD K) (e : insB K (He.ga K "Person") = true) : OwnP K mg (He.ga K "Person") := by
  obtain ⟨h1, h⟩ := He.ba e
  obtain ⟨h2, h⟩ := He.ba h
  obtain ⟨h3, h⟩ := He.ba h
  obtain ⟨h4, h⟩ := He.ba h
  obtain ⟨h5, h⟩ := He.ba h
  obtain ⟨h6, h7⟩ := He.ba h
  obtain ⟨f0, F0⟩ := (c.def_ 17 (d := d_Person___init__) rfl)
  obtain ⟨f1, F1⟩ := (c.def_ 18 (d := d_Person___eq__) rfl)
  obtain ⟨f2, F2⟩ := (c.def_ 19 (d := d_Person_parts) rfl)
  obtain ⟨f3, F3⟩ := (c.def_ 20 (d := d_Person_age_on) rfl)
  obtain ⟨n1, n2, n3⟩ := He.meth_ok (c.fact 60 (f := .meth "Person" "__eq__") rfl)
  exact ⟨⟨He.cls_ok (c.fact 53 (f := .cls "Person") rfl), He.noat_ok (c.fact 54 (f := .noat "Person" "name") rfl), He.noat_ok (c.fact 55 (f := .noat "Person" "born") rfl), He.noat_ok (c.fact 56 (f := .noat "Person" "group") rfl), He.noat_ok (c.fact 57 (f := .noat "Person" "team") rfl), (He.glo_ok X G (c.fact 31 (f := .glo "Person") rfl)), He.eqO_ok h1, He.eqO_ok h2, of_decide_eq_true h3, of_decide_eq_true h4, of_decide_eq_true h5⟩, ⟨_, f0, _, F0, rfl, He.mkr_ok (c.fact 61 (f := .mkr "Person") rfl)⟩, ⟨_, f2, F2, He.meth_ok (c.fact 58 (f := .meth "Person" "parts") rfl)⟩, ⟨_, f3, F3, He.meth_ok (c.fact 59 (f := .meth "Person" "age_on") rfl)⟩, ⟨_, f1, F1, n1, n2⟩, He.eqO_ok h6, of_decide_eq_true h7⟩
theorem z_err (X : K.In h) (G : h.Ns mainGlobals mg) (c : SD K) (e : kdB K (He.ga K "NoDay") 5 = true) : OwnE K mg (He.ga K "NoDay") (He.ga K "ClubError") := by
  obtain ⟨x1, x2, x3, x4⟩ := He.exc_ok (c.fact 62 (f := .exc "NoDay") rfl)
  exact ⟨⟨(He.glo_ok X G (c.fact 22 (f := .glo "NoDay") rfl)), x1, x2, x3, x4⟩, ⟨⟨5, z_kd X G c e, rfl⟩, He.exm_ok (c.fact 63 (f := .exm "NoDay" "ClubError" true) rfl)⟩, (He.glo_ok X G (c.fact 29 (f := .glo "ClubError") rfl)), ⟨_, (He.glo_ok X G (c.fact 30 (f := .glo "NoPlace") rfl))⟩⟩
theorem z_end {w : World} {fa : Addr} (X : K.In h) (G : h.Ns mainGlobals mg) (hmg : mg ("law" : Str) = some (.ref fa)) (c : He.SaysX hfa hfn [] htf hex w h K) : LawG PySem.Challenge.rw_bestsbook_k05_ages_on_days w K L2.CX0 7 63 "_law_script" mg fa h := by
  have d := c.t.d
  obtain ⟨a, fd, F, g⟩ := z_law X G d
  have e0 : a = fa := by
    have := g.symm.trans hmg
    injection this with this
    injection this
  have eg : a = He.ga K "law" := by
    have := g.symm.trans (He.glo_ok X G (d.fact 16 (f := .glo "law") rfl))
    injection this with this
    injection this
  obtain ⟨oc, od, dV, kV, doc, pm, an, cdv, ct, osl, rfl, lk, hcd, _, _⟩ := F.ex
  obtain ⟨cc, ec⟩ := He.codeIn_ref hcd
  have eo : He.codeOf K ("law", none) = cc := He.codeOf_eq (K := K) (p := ("law", none)) (by rw [show He.fAd K ("law", none) = He.ga K "law" from rfl, ← eg]; exact lk) ec
  subst e0
  have b := FunD.bindsA (ps := ["_law_script"]) F fun _ _ _ _ _ _ us hl => match us, hl with | [_], _ => rfl
  refine ⟨_, [He.cT K ("law", none)], spLaw K (He.cT K ("law", none)).2, ?_, ?_, ?_, fun s u => b s [u] rfl, ?_, ?_⟩
  · intro p hp
    rw [List.mem_singleton.mp hp]
    exact c.empty _ List.mem_cons_self
  · intro p hp
    rw [List.mem_singleton.mp hp]
    exact c.out _ List.mem_cons_self
  · intro p hp
    rw [List.mem_singleton.mp hp]
    exact PySem.W.codeHd_of_K X (c.hd _ List.mem_cons_self)
  · intro H a' ns hl _ ht hS
    exact ⟨a', ns, rfl, hS, hl, ht _ List.mem_cons_self, fun _ => rfl⟩
  · intro base KB NB tb
    have t0 := tb _ List.mem_cons_self
    obtain ⟨e1, e2⟩ := He.ba c.more
    refine ok_law F (c := cc) ec ?_ (z_all X G d) (z_person X G d e2) (z_err X G d e1)
    have e3 : (He.cT K ("law", none)).1 = cc := eo
    rw [← e3]
    exact t0

end
end K5
open PySem PySem.W PySem.Calls PyProof.Rows
theorem PySem.Challenge.cw_bestsbook_k05_ages_on_days_holds : PySem.Challenge.rw_bestsbook_k05_ages_on_days.Holds := by
  w_on; o_law
  refine HandSHeadRun.head_any (r := OpenLaw.row PySem.Challenge.rw_bestsbook_k05_ages_on_days) (q := view (OpenLaw.row PySem.Challenge.rw_bestsbook_k05_ages_on_days).prog [39]) (H := K5.hk) (ob := K5.ob) (M := 6000) (loose := K5.loose) (d := HandSHeadRun.topDef (OpenLaw.row PySem.Challenge.rw_bestsbook_k05_ages_on_days).prog 39) (kwd := []) K5.ob_eq
    (by kernel_rfl) (fun s => by kernel_rfl) K5.run (by kernel_rfl) (by kernel_rfl) (by kernel_rfl) (by rfl) (by first | assumption | decide +kernel) (by decide +kernel) ⟨rfl, rfl, rfl, rfl, rfl, by decide +kernel⟩ ?hw ?hc
  case hw => w_witness2
  case hc =>
    refine Bb.walkG (l := PySem.Challenge.rw_bestsbook_k05_ages_on_days) (n := 63) (k := 7) (x := "_law_script") (CX := fun _ => L2.CX0) rfl (by decide) (by kernel_rfl) ⟨rfl, by decide, by decide⟩ ?F (fun _ _ _ _ _ z => z)
    intro w mg fa h Y G hmg0
    obtain ⟨K, KX, c⟩ := Y
    have hmg : mg ("law" : PySem.Str) = some (.ref fa) := by
      have e : (HandSHeadRun.topDef (OpenLaw.row PySem.Challenge.rw_bestsbook_k05_ages_on_days).prog 39).name = ("law" : PySem.Str) := by kernel_rfl
      rw [← e]
      exact hmg0
    exact ⟨K, KX, K5.z_end KX G hmg c⟩
