import PyProof.Rows.All
import Wide.All
import OpenK.AllK
import Wide.FinOn
import PyProof.EqAt
import PyProof.EqKinds
import PyProof.TupleCall
import PyProof.ReprRoads
import PyProof.InstNe
import HandS.ForMost
import HandS.ForExc
import HandS.EndTab
import HandS.HeadHook4
import HandS.HeadWalk
import HandS.Head0
import HandS.Head1
import HandS.Head2
import HandS.ExcIs
import HandS.HotCalls
import HandS.IsInst
import HandS.Zip
import HandS.Walk
import HandS.TupAny
import HandS.Conv
import HandS.Deep
import HandS.OwnEq
import HandS.SetFor
import HandS.Defaults
import HandS.RaiseMore
import HandS.CallSlots
import KE.GoesMore
import HandS.FStr
import HandS.Style
import HandS.Strs
import PySem.Challenge.RW_bestsbook_k02_rules_made_and_shown
set_option Elab.async false
set_option linter.all false
set_option maxRecDepth 100000
set_option maxHeartbeats 2000000
namespace Bb
open PySem PySem.Spec PyProof.Rows L2

/-! repr of data that holds no dict -/
mutual
theorem dp_nodict {K : PySem.W.Frag} {H : Hp} : ∀ (d : PyData) (v : V), Dp K H v d → d.hasDict = false
  | .none, _, _ => rfl
  | .bool _, _, _ => rfl
  | .int _, _, _ => rfl
  | .str _, _, _ => rfl
  | .list ds, _, h => by
    cases h with
    | lst _ ha => exact dpall_nodict ds _ ha
  | .tuple ds, _, h => by
    cases h with
    | tup _ ha => exact dpall_nodict ds _ ha
  | .dict _, _, h => by cases h
theorem dpall_nodict {K : PySem.W.Frag} {H : Hp} : ∀ (ds : List PyData) (vs : List V), DpAll K H vs ds → PyData.hasDictAll ds = false
  | [], _, _ => rfl
  | d :: ds, _, h => by
    cases h with
    | cons h1 h2 =>
      show (PyData.hasDict d || PyData.hasDictAll ds) = false
      rw [dp_nodict d _ h1, dpall_nodict ds _ h2]
      rfl
end
def rRepr (K : PySem.W.Frag) : List V → Hp → VK → Prop := fun xs H Q => ∃ (x : V) (d : PyData), xs = [x] ∧ Dp K H x d ∧ d.showable = true ∧ d.depth ≤ 60 ∧ d.shown.length ≤ sizeLine ∧ Q (.str d.shown) H
theorem call_repr {X : Cx} (hg : X.A.guards = some []) (hu : X.A.units + 64 < cLine) : CallR X (.builtin "repr") (rRepr X.K) := by
  intro pins s σ H xs us Q I r h
  obtain ⟨x, d, rfl, hd, hs, hde, hz, q⟩ := h
  obtain ⟨u, rfl, ru⟩ := vals1 r
  have nd := dp_nodict d x hd
  obtain ⟨as, rd⟩ := Dp.reads I d x u hd ru
  cases hd with
  | non =>
    cases ru
    exact PySem.P.repr_of_none ⟨.str _, H, I.tok _, ⟨_, rfl⟩, q⟩
  | bl b =>
    cases ru
    exact PySem.P.repr_of_bool ⟨.str _, H, I.tok _, ⟨_, rfl⟩, q⟩
  | int i =>
    obtain ⟨t, rfl⟩ := ru
    exact PySem.P.repr_of_int (of_decide_eq_true hs) ⟨.str _, H, I.tok _, ⟨_, rfl⟩, q⟩
  | str z =>
    obtain ⟨t, rfl⟩ := ru
    exact PySem.P.repr_of_str ⟨.str _, H, I.tok _, ⟨_, rfl⟩, q⟩ hz
  | lst h1 h2 =>
    cases ru
    exact repr_of_reads' rd hs (fun z => by rw [nd] at z; cases z) hg (by omega) (fun _ _ e => e) (fun h' u' tk k => ⟨.str _, H, I.kept k, ⟨_, rfl⟩, q⟩) hz
  | tup h1 h2 =>
    cases ru
    exact repr_of_reads' rd hs (fun z => by rw [nd] at z; cases z) hg (by omega) (fun _ _ e => e) (fun h' u' tk k => ⟨.str _, H, I.kept k, ⟨_, rfl⟩, q⟩) hz
end Bb
set_option Elab.async false
set_option linter.all false
set_option maxRecDepth 100000
set_option maxHeartbeats 2000000
namespace Bb
open PySem PySem.Spec PyProof.Rows L2

/-! a def that is run where no repr is under way -/
structure FnG (P : Program) (w : World) (K : PySem.W.Frag) (mg : Str → Option Value) (base : Heap) (CX : CXT) (k : Nat) (f : Addr) (fd : FuncData) (ps : List Str) (sp : Sp) : Prop where
  args : ∀ vs H Q E, sp vs H Q E → vs.length = ps.length
  go : ∀ (A : Around) (outer : List Env) (s : Shared) (H : Hp) (ar : Args) (us : List Value) (vs : List V) (Q : VK) (E : XK), A.guards = some [] → Room k A → Env0 P w K mg base A outer s H → BindsTo s fd ar (ps.zip us) → Vals vs us → sp vs H Q E →
    codeAny (model P w) A (.call (.ref f) ar) (CR CX outer P w H s Q E) s

section
variable {P : Program} {w : World} {K : PySem.W.Frag} {mg : Str → Option Value} {base : Heap} {x qual : Str} {params : Arguments} {body : List Stmt} {scope : Scope} {dvs : List V} {kws : List (Str × V)} {f : Addr} {fd : FuncData}
theorem fnG {CX : CXT} {N ps : List Str} {k : Nat} {sp : Sp} (F : FunD K x qual params body scope dvs kws f fd) (S : FnScope N ps scope) (len : ∀ vs H Q E, sp vs H Q E → vs.length = ps.length)
    (bd : ∀ (cdv : Value) (A : Around) (outer : List Env) (s : Shared) (H : Hp) (vs : List V) (Q : VK) (E : XK), A.guards = some [] → Room k (A.deeper (envOfC qual scope s.heap.objs.size f cdv)) →
      (∀ c, fd.code = .ref c → cdv = .ref c) → sp vs H Q E →
      ∃ t, PSs (cxOf CX P w K mg base N qual scope f cdv A outer s H E) body t ∧ t { nx := fun _ H' => Q .non H', rt := Q } (start N vs) H) : FnG P w K mg base CX (k + 1) f fd ps sp := by
  obtain ⟨oc, od, dV, kV, doc, pm, an, cdv, ct, osl, rfl, lk, hcd, _, _⟩ := F.ex
  refine ⟨len, fun A outer s H ar us vs Q E gd room env bnd vals h => ?_⟩
  exact LamX.run_ofS (N := N) lk hcd S room env bnd vals (len _ _ _ _ h) fun room' => bd cdv A outer s H vs Q E gd room' (fun c e => e) h
end

section
variable {X : Cx} {CX : CXT} {k : Nat} {f : Addr} {fd : FuncData} {ps : List Str} {sp : Sp} {E : XK} {x : Str} {p pos : Pos} {e : Expr} {es : List Expr} {t : TA}
/-- such a def called by its name, all parameters given -/
theorem pe_callG (F : FnG X.prog X.w X.K X.mg X.base CX k f fd ps sp) (gd : X.A.guards = some []) (hr : Room k X.A) (hg : Gl X x) (hm : X.mg x = some (.ref f)) (hk : PySem.W.keepIn X.K (.ref f) = true) (hb : Binds X.K fd ps []) (hx : Passes CX X E)
    (ha : PA X (e :: es) t) (hdb : (x == ("__debug__" : Str)) = false := by decide) (he : starEach (e :: es) X.env = (false, eval e X.env) :: starEach es X.env := by rfl) (hpl : (backTo pos (starEach es X.env)).any (·.1) = false := by rfl) :
    PE X (.Call (.Name x p) (e :: es) [] pos) (tCall sp [] E t) := by
  constructor
  intro pins s σ H Q I h
  refine wpAny_Call_Name_kw (ld_glob I hg hm ?_ hdb)
  refine PySem.W.callWith_K (h₀ := X.base) I.ok.mod.kin hk ?_ he hpl
  refine thn (ha.run pos pins s σ H _ I h) ?_
  rintro us s1 ⟨vs, H1, I1, r, q⟩
  refine ⟨I1.kIn, ?_⟩
  have q' : sp vs H1 Q E := by
    have z : sp (vs ++ []) H1 Q E := q
    rw [List.append_nil] at z
    exact z
  have hl : us.length = ps.length := by
    rw [← r.length]
    exact F.args _ _ _ _ q'
  have bnd := hb s1 us I1.kIn (by rw [List.append_nil]; exact hl)
  rw [List.append_nil] at bnd
  refine wpAny_call (codeAny_mono (F.go X.A X.stack s1 H1 ⟨us, []⟩ us vs Q E gd hr I1.env0 bnd r q') ?_)
  rintro (er | fl) s' hq
  · exact hx pins σ H1 s1 er s' I1 hq
  · cases fl with
    | ret u => exact I1.after hq
    | next => exact hq.elim
    | brk => exact hq.elim
    | cont => exact hq.elim
end

/-! the end of a law row: the script is read, the tables are written, no repr is under way -/
section
variable {P : Program} {w : World} {K : PySem.W.Frag} {mg mb : Str → Option Value} {a : Addr} {cs : List (Addr × Addr)} {s₁ : Shared} {vs : List Value} {ns : List Int}
abbrev scO (vs : List Value) : Obj := { cls := .type "list", data := .seq vs.toArray }
abbrev emptyO : Obj := { cls := .none, data := .fields #[] }
/-- what is tracked at the start -/
def h0 (K : PySem.W.Frag) (T : List Addr) (a : Addr) (vs : List Value) (ns : List Int) : Hp := fun b =>
  if b ∈ T then some (.tbl #[]) else if b = a ∧ (K.lookup a).isNone = true then some (.frz (scO vs) (.lst (ns.map V.int))) else none
theorem h0_cases (K : PySem.W.Frag) (T : List Addr) (a : Addr) (vs : List Value) (ns : List Int) (b : Addr) :
    (h0 K T a vs ns b = none) ∨ (b ∈ T ∧ h0 K T a vs ns b = some (.tbl #[])) ∨ (b = a ∧ K.lookup a = none ∧ h0 K T a vs ns b = some (.frz (scO vs) (.lst (ns.map V.int)))) := by
  unfold h0
  by_cases h1 : b ∈ T
  · rw [if_pos h1]
    exact .inr (.inl ⟨h1, rfl⟩)
  · rw [if_neg h1]
    by_cases h2 : b = a ∧ (K.lookup a).isNone = true
    · rw [if_pos h2]
      exact .inr (.inr ⟨h2.1, Option.isNone_iff_eq_none.mp h2.2, rfl⟩)
    · rw [if_neg h2]
      exact .inl rfl
theorem law_callG {CX : CXT} {k : Nat} {fa : Addr} {fd : FuncData} {x : Str} {sp : Sp}
    (KX : K.In s₁.heap) (hns : s₁.heap.Ns mainGlobals mg) (hb : s₁.heap.Ns builtinsNs mb) (hbb : ∀ x : Str, x ≠ "__name__" → mb x = bootBuiltins x) (hlim : s₁.heap.NoLimit) (hg : s₁.gens = #[])
    (hT : ∀ p ∈ cs, s₁.heap.get? p.2 = some emptyO) (nT : ∀ p ∈ cs, K.lookup p.2 = none) (C : ∀ p ∈ cs, PySem.W.CodeHd s₁.heap p.1 p.2)
    (hbm : ∃ (bm : Addr) (ob : Obj), mg "__builtins__" = some (.ref bm) ∧ bm ≠ builtinsNs ∧ s₁.heap.get? bm = some ob ∧ ob.cls = .type "module" ∧ ob.dict = some builtinsNs ∧ ob.data = .plain)
    (ha : s₁.heap.get? a = some (scO vs)) (hi : IntsAre vs ns) (hl : ns.length ≤ sizeLine) (hr : Room k callerA)
    (F : ∀ base : Heap, K.In base → base.Ns mainGlobals mg → (∀ p ∈ cs, LamX.TabB base mg p.1 p.2) → FnG P w K mg base CX k fa fd [x] sp) (hbind : ∀ (s : Shared) (u : Value), BindsTo s fd ⟨[u], []⟩ [(x, u)])
    (hsp : ∀ H : Hp, (∀ p ∈ cs, H p.2 = some (.tbl #[])) → SqL K H a (ns.map V.int) → sp [.ref a] H (fun v _ => v = .bl true) fun _ _ _ => False)
    (hCX : ∀ H e s', CX [] H s₁ (fun _ _ _ => False) e s' → False) :
    codeAny (model P w) callerA (.call (.ref fa) ⟨[.ref a], []⟩) (fun r s' => r = .ok (.ret (.bool true)) ∧ OldK s₁.heap s'.heap ∧ s'.os = s₁.os ∧ AllBare s'.gens) s₁ := by
  have tbl : ∀ b ∈ cs.map (·.2), s₁.heap.get? b = some emptyO := by
    intro b hm
    obtain ⟨p, hp, rfl⟩ := List.mem_map.mp hm
    exact hT p hp
  have aT : a ∉ cs.map (·.2) := by
    intro hm
    have z := (tbl a hm).symm.trans ha
    injection z with z
    injection z with z1 z2 z3 z4
    cases z1
  let H : Hp := h0 K (cs.map (·.2)) a vs ns
  have hc : ∀ b, H b = none ∨ (b ∈ cs.map (·.2) ∧ H b = some (.tbl #[])) ∨ (b = a ∧ K.lookup a = none ∧ H b = some (.frz (scO vs) (.lst (ns.map V.int)))) := fun b => h0_cases K _ a vs ns b
  have hH : ∀ p ∈ cs, H p.2 = some (.tbl #[]) := fun p hp => by
    show h0 K _ a vs ns p.2 = _
    unfold h0
    rw [if_pos (List.mem_map.mpr ⟨p, hp, rfl⟩)]
  have lenV : vs.length = ns.length := hi.length
  have rv := vals_ints hi
  have sq : SqL K H a (ns.map V.int) := by
    cases hk : K.lookup a with
    | some o =>
      have e := (KX a o hk).symm.trans ha
      injection e with e
      subst e
      exact .inr ⟨_, vs.toArray, _, hk, rfl, rfl, rfl, by rw [List.size_toArray, lenV]; exact hl, by simpa using rv⟩
    | none =>
      refine .inl (.inr ⟨scO vs, ?_⟩)
      show h0 K _ a vs ns a = _
      unfold h0
      rw [if_neg aT, if_pos ⟨rfl, by rw [hk]; rfl⟩]
  have hok : HOk P w H s₁.heap := by
    intro b u e
    rcases hc b with z | ⟨m, z⟩ | ⟨rfl, _, z⟩
    · rw [z] at e
      cases e
    · rw [z] at e
      cases e
      exact tbl b m
    · rw [z] at e
      cases e
      exact ⟨ha, by rw [List.length_map]; exact hl, vs, _, rv, ha⟩
  -- what is no list and no empty table is not tracked
  have other : ∀ {b : Addr} {o : Obj}, s₁.heap.get? b = some o → o.data ≠ Data.seq vs.toArray 0 → o.data ≠ Data.fields #[] → H b = none := by
    intro b o e n1 n2
    rcases hc b with z | ⟨m, _⟩ | ⟨rfl, _, _⟩
    · exact z
    · have q := (tbl b m).symm.trans e
      injection q with q
      subst q
      exact absurd rfl n2
    · have q := ha.symm.trans e
      injection q with q
      subst q
      exact absurd rfl n1
  have down : ∀ {b : Addr} {o : Obj}, s₁.heap.get? b = some o → o.data ≠ Data.seq vs.toArray 0 → o.data ≠ Data.fields #[] → (hidT s₁.heap H).get? b = some o := fun e n1 n2 => hidT_get e (other e n1 n2)
  have nsD : ∀ {b : Addr} {m : Str → Option Value}, s₁.heap.Ns b m → (hidT s₁.heap H).Ns b m := by
    rintro b m ⟨o, es, ep, e, d, r⟩
    refine ⟨o, es, ep, down e ?_ ?_, d, r⟩
    · rw [d]
      intro q
      cases q
    · rw [d]
      intro q
      cases q
  have kin : K.In (hidT s₁.heap H) := by
    intro b o e
    refine hidT_get (KX b o e) ?_
    rcases hc b with z | ⟨m, _⟩ | ⟨rfl, n, _⟩
    · exact z
    · obtain ⟨p, hp, rfl⟩ := List.mem_map.mp m
      rw [nT p hp] at e
      cases e
    · rw [n] at e
      cases e
  have md : L2.Mod K mg (hidT s₁.heap H) := ⟨kin, nsD hns, ⟨mb, nsD hb, hbb⟩, by
    obtain ⟨mc, e1, e2⟩ := hlim
    exact ⟨mc, nsD e1, e2⟩⟩
  have tabs : ∀ p ∈ cs, LamX.TabB (hidT s₁.heap H) mg p.1 p.2 := by
    intro p hp
    constructor
    · obtain ⟨o, us, file, tf, flags, tg, inF, text, tt, g1, g2, g3, g4, g5⟩ := C p hp
      refine ⟨o, us, file, tf, flags, tg, inF, text, tt, down g1 ?_ ?_, g2, g3, g4, g5⟩
      · rw [g3]
        intro q
        cases q
      · rw [g3]
        intro q
        injection q with q
        rw [q] at g4
        simp at g4
    · obtain ⟨bm, ob, b1, b2, b3, b4, b5, b6⟩ := hbm
      refine ⟨bm, ob, b1, b2, ?_, ?_, down b3 ?_ ?_, b4, b5, b6⟩
      · intro q
        obtain ⟨o, es, ep, e, d, _⟩ := hns
        rw [q, e] at b3
        injection b3 with b3
        rw [← b3, d] at b6
        cases b6
      · intro q
        rw [q, hT p hp] at b3
        injection b3 with b3
        rw [← b3] at b6
        cases b6
      · rw [b6]
        intro q
        cases q
      · rw [b6]
        intro q
        cases q
    · intro z
      obtain ⟨o, es, ep, e, d, _⟩ := hns
      rw [z, hT p hp] at e
      injection e with e
      rw [← e] at d
      cases d
  have env : Env0 P w K mg (hidT s₁.heap H) callerA [] s₁ H :=
    { frames := rfl, mod := md, bs := fun b o e => of_hidT e, bsz := Nat.le_of_eq (hidT_size _ _), funs := True.intro, frf := (fun b z => by cases z), hok := hok, bare := .of_eq hg }
  refine codeAny_mono ((F _ kin (nsD hns) tabs).go callerA [] s₁ H ⟨[.ref a], []⟩ [.ref a] [.ref a] _ _ rfl hr env (hbind s₁ (.ref a)) (.cons rfl .nil) (hsp H hH sq)) ?_
  rintro (er | fl) s' h
  · exact (hCX H er s' h).elim
  · cases fl with
    | next => exact h.elim
    | brk => exact h.elim
    | cont => exact h.elim
    | ret u =>
      obtain ⟨v, H', os, bare, un, hok', r', q⟩ := h
      have q' : v = .bl true := q
      subst q'
      obtain rfl : u = Value.bool true := r'
      have same : ∀ b o, b ∉ cs.map (·.2) → s₁.heap.get? b = some o → s'.heap.get? b = some o := by
        intro b o nb e
        rcases hc b with z | ⟨m, _⟩ | ⟨rfl, _, z⟩
        · exact un.keep b o e z (by simp [frs]) (by simp)
        · exact absurd m nb
        · have z2 := un.frzs _ _ _ z
          obtain ⟨e2, _⟩ := hok' _ _ z2
          rw [ha] at e
          rw [← e]
          exact e2
      have grown : ∀ p ∈ cs, ∃ more : Array Value, s'.heap.get? p.2 = some { cls := .none, data := .fields more } := by
        intro p hp
        obtain ⟨more, z⟩ := un.tbls p.2 #[] (hH p hp)
        exact ⟨_, hok' p.2 _ z⟩
      refine ⟨rfl, ⟨fun b o e => ?_, fun b o e => ?_⟩, os, bare⟩
      · by_cases m : b ∈ cs.map (·.2)
        · obtain ⟨p, hp, rfl⟩ := List.mem_map.mp m
          obtain ⟨more, hm⟩ := grown p hp
          have e' := (hT p hp).symm.trans e
          injection e' with e'
          subst e'
          refine .inr (.inl ⟨((C p hp).tab (hT p hp)).isCodeTable, rfl, #[], more, rfl, ?_⟩)
          rw [Array.empty_append]
          exact hm
        · exact .inl (same b o m e)
      · by_cases m : b ∈ cs.map (·.2)
        · obtain ⟨p, hp, rfl⟩ := List.mem_map.mp m
          obtain ⟨more, hm⟩ := grown p hp
          exact ⟨_, hm⟩
        · exact ⟨o, same b o m e⟩
/-- what a law's facts at the head's heap h come to -/
def LawG (l : PySem.W.OpenLaw) (w : World) (K : PySem.W.Frag) (CX : CXT) (k n : Nat) (x : Str) (mg : Str → Option Value) (fa : Addr) (h : Heap) : Prop :=
  ∃ (fd : FuncData) (cs : List (Addr × Addr)) (sp : Sp), (∀ p ∈ cs, h.get? p.2 = some emptyO) ∧ (∀ p ∈ cs, K.lookup p.2 = none) ∧ (∀ p ∈ cs, PySem.W.CodeHd h p.1 p.2) ∧ (∀ (s : Shared) (u : Value), BindsTo s fd ⟨[u], []⟩ [(x, u)]) ∧
    (∀ (H : Hp) (a : Addr) (ns : List Int), ns.length ≤ n → (∀ z ∈ ns, Builtin.Int.intBits z ≤ 1048576) → (∀ p ∈ cs, H p.2 = some (.tbl #[])) → SqL K H a (ns.map V.int) → sp [.ref a] H (fun v _ => v = .bl true) fun _ _ _ => False) ∧
    ∀ base : Heap, K.In base → base.Ns mainGlobals mg → (∀ p ∈ cs, LamX.TabB base mg p.1 p.2) → FnG l.prog w K mg base CX k fa fd [x] sp
theorem walkG {l : PySem.W.OpenLaw} {n k : Nat} {q : Program} {loose : List Str} {XP : (Str → Option Value) → Heap → Prop} {YP : World → Heap → Prop} {d : DefRec} {CX : World → CXT} {x : Str}
    (hn : l.most = some n) (hn2 : n ≤ sizeLine) (hdf : d.params.defaults = []) (hr : Room k callerA)
    (F : ∀ (w : World) (mg : Str → Option Value) (fa : Addr) (h : Heap), YP w h → h.Ns mainGlobals mg → mg d.name = some (.ref fa) → ∃ K : PySem.W.Frag, K.In h ∧ LawG l w K (CX w) k n x mg fa h)
    (hCX : ∀ (w : World) (H : Hp) (s : Shared) (e : Value) (s' : Shared), CX w [] H s (fun _ _ _ => False) e s' → False) :
    PySem.W.WalkO q loose XP YP l.row.toRowW d [] (fun f vs => PySem.call f vs) := by
  refine Att.attach_callB hn hdf ?_
  intro w s₀ s₁ mg mb fa o pm cd doc a vs ns G Y ho hd hcd hmg hobj hints hlen hbits hg
  obtain ⟨K, KX, fd, cs, sp, c1, c2, c3, c4, c5, c6⟩ := F w mg fa _ Y G.T.g hmg
  exact law_callG KX G.T.g G.T.b G.T.builtins G.T.nolimit hg c1 c2 c3 G.T.bmain hobj hints (Nat.le_trans hlen hn2) hr c6 c4 (fun H hH hS => c5 H a ns hlen hbits hH hS) fun H e s' => hCX w H s₁ e s'
end
end Bb
set_option Elab.async false
set_option linter.all false
set_option maxRecDepth 100000
set_option maxHeartbeats 2000000
namespace Bb
open PySem PySem.Spec PyProof.Rows L2

/-! several clauses, each with a name: try: .. except x as n: .. except y as m: .. -/
abbrev Cl : Type := Value × Nat × (Addr → Value → Option Addr → TS)
/-- what the clauses wish of an exception, from the first on -/
def wAll (K : PySem.W.Frag) (Wout : WX) (D : Ends) : List Cl → WX
  | [] => Wout
  | q :: r => wAs K q.1 q.2.1 q.2.2 (wAll K Wout D r) D
inductive Cls2 (X : Cx) : List ExceptHandler → List Cl → Prop
  | nil : Cls2 X [] []
  | cons {x n : Str} {c : Value} {i : Nat} {ts : Addr → Value → Option Addr → TS} {b : Stmt} {su : List Stmt} {np pos' : Pos} {hds : List ExceptHandler} {l : List Cl} (hi : X.N[i]? = some n) (hl : X.env.kindOf n = some .local) (hc : Names X x c)
      (hsu : ∀ (a : Addr) (oe : Obj) (cls : Value) (d : Option Addr) (pn : List (Addr × Obj)), Zc cls d oe → (∃ vs, oe.data = .fields vs) → PSs (X.suite a ((a, oe) :: pn)) (b :: su) (ts a cls d)) (r : Cls2 X hds l) :
      Cls2 X (.ExceptHandler (some (.Name x np)) (some n) (b :: su) pos' :: hds) ((c, i, ts) :: l)
section
variable {X : Cx} {body : List Stmt} {h₁ : ExceptHandler} {hds : List ExceptHandler} {l : List Cl} {pos : Pos} {tb : WX → TS} {Wout : WX}
theorem ps_try_all (hs : X.stack = X.env :: X.outer) (hf : X.env.frame = some X.env.locals) (hN : X.N.Nodup) (tk : Takes X Wout)
    (hb : ∀ (W : WX) (pn : List (Addr × Obj)) (xe : Value → Shared → Prop), Takes (X.tr pn xe) W → PassesOwn (model X.prog X.w) X.A X.env xe → PSs (X.tr pn xe) body (tb W))
    (hh : Cls2 X (h₁ :: hds) l) : PS X (.Try body (h₁ :: hds) [] [] pos) (fun D σ H => tb (wAll X.K Wout D l) D σ H) := by
  constructor
  intro pins s σ H D I h
  have ok := I.ok
  have fr : X.A.frames = some (X.env :: X.outer) := by
    rw [ok.frames, hs]
  refine wpAny_Try_except ?_
  let land : Value → Shared → Prop := fun e s₁ => wpAny (model X.prog X.w) X.A (noteFrame e X.env)
    (fun _ s₂ => wpAny (model X.prog X.w) X.A (setFlight e none) (fun _ s₃ => wpAny (model X.prog X.w) X.A (handleBy e X.env (h₁ :: hds)) (SP X pins D) X.xe s₃) X.xe s₂) X.xe s₁
  have took : Takes (X.tr (X.pn ++ pins) land) (wAll X.K Wout D l) := by
    rintro u s' ⟨a, B, sI, pins', σ', H', cls, d, rfl, J', nb, up, sky, na, os, ag, wish⟩
    have J : Inv X pins σ' H' sI := J'.ofTry ok
    have over : Sky B (X.env :: X.outer) a (Zc cls d) X.env.locals s'.heap := by
      rw [← hs]
      exact sky
    show wpAny (model X.prog X.w) X.A (noteFrame (.ref a) X.env) _ _ _
    refine Sky.land Zc.steady fr hf over ?_
    intro h3 fl up3
    have J3 : Inv X pins σ' H' { s' with heap := h3 } := J.landed nb fl.1 (up.trans up3) os ag
    obtain ⟨oe, vs, ge, ze, de⟩ := fl.there
    have off : a ∉ frs (X.env :: X.outer) := by
      intro hm
      obtain ⟨_, o', e', hnf⟩ := fl.2.2.1.mem hm
      rw [ge] at e'
      cases e'
      exact hnf _ de
    have offL : a ≠ X.env.locals := by
      intro z
      refine off (List.mem_filterMap.mpr ⟨X.env, List.mem_cons_self, ?_⟩)
      rw [hf, z]
    have offF : a ∉ X.fs := by
      intro hm
      obtain ⟨e, he, q⟩ := List.mem_filterMap.mp hm
      exact off (List.mem_filterMap.mpr ⟨e, List.mem_cons_of_mem _ he, q⟩)
    have inS := J3.suite ge de na offL offF
    have looksT : PySem.W.Looks (model X.prog X.w) h3 (typeOf (.ref a)) cls := by
      intro A Q E s k q
      refine wpAny_typeOf_ref (k _ _ ge) ?_
      rw [ze.1]
      exact q
    -- the clauses, one behind the other
    have go : ∀ {hs' : List ExceptHandler} {l' : List Cl}, Cls2 X hs' l' → wAll X.K Wout D l' cls d σ' H' →
        wpAny (model X.prog X.w) X.A (handleBy (.ref a) X.env hs') (SP X pins D) X.xe { s' with heap := h3 } := by
      intro hs' l' ck
      induction ck with
      | nil =>
        intro w
        refine wpAny_handleBy_nil ?_
        obtain ⟨_, _, _, oe1, vs1, T, oT, ts1, g1, z1, d1, t1, _⟩ := id fl
        unfold PySem.passOn
        refine wpAny_bind (wpAny_field g1 d1 t1 ?_)
        rw [if_neg (by simp)]
        have last : wpAny (model X.prog X.w) X.A (setFlight (.ref a) X.env.frame) (fun _ s4 => wpAny (model X.prog X.w) X.A (throw (.ref a) : Sem Flow) (SP X pins D) X.xe s4) X.xe { s' with heap := h3 } := by
          rw [hf]
          refine HandSPX.setFlight_upZ fl ?_
          intro h4 held up4
          refine wpAny_throw (tk _ _ ⟨a, B, sI, pins, σ', H', cls, d, rfl, J, nb, (up.trans up3).trans up4, .inr (.inr ?_), na, os, ag, w⟩)
          rw [hs]
          exact held
        first
          | exact wpAny_bind (wpAny_pure (wpAny_bind last))
          | exact wpAny_bind last
      | @cons x n c i ts b su np pos' hds2 l2 hi hl hc hsu r ih =>
        intro w
        have w' : wAs X.K c i ts (wAll X.K Wout D l2) D cls d σ' H' := w
        obtain ⟨t, ht, yes, no⟩ := w'
        refine wpAny_handleBy_cons (codeAny_handlers_test ?_) (by intro q; cases q)
        have asked := PySem.W.exm_one (M := model X.prog X.w) J3.kIn looksT ht
        have name : ∀ {Q : Value → Shared → Prop} {E : Value → Shared → Prop}, Q c { s' with heap := h3 } → wpAny (model X.prog X.w) (X.A.mark (some (.ref a))) (eval (.Name x np) X.env) Q E { s' with heap := h3 } := by
          intro Q E q
          rcases hc with ⟨g, db, m | ⟨m, v, nn⟩⟩
          · exact ld_glob (X := X.suite a ((a, oe) :: (X.pn ++ pins))) inS g m q db
          · exact ld_blt (X := X.suite a ((a, oe) :: (X.pn ++ pins))) inS g m v q nn db
        refine name (asked.here ?_)
        cases t with
        | false => exact ih (no rfl)
        | true =>
          refine codeAny_handlers_suite_as ?_
          refine HandSPX.lands_againZ fl ?_
          intro h4 fl4 up4
          have J4 : Inv X pins σ' H' { s' with heap := h4 } := J.landed nb fl4.1 ((up.trans up3).trans up4) os ag
          obtain ⟨oe4, vs4, g4, z4, d4⟩ := fl4.there
          refine store_ok (X := X.suite a ((a, oe4) :: (X.pn ++ pins))) (v := .ref a) (J4.suite g4 d4 na offL offF) hN hi (.inl hl) rfl ?_ (.inr hl)
          intro s5 S5
          refine wpAny_mono ((hsu a oe4 cls d (X.pn ++ pins) z4 ⟨_, d4⟩).run [] s5 _ H' _ S5 (yes rfl a na)) ?_ (fun _ _ z => z.elim)
          have gone : ∀ {s6 : Shared} {σ6 : L2.St} {H6 : Hp} {Q : Shared → Prop}, Inv (X.suite a ((a, oe4) :: (X.pn ++ pins))) [] σ6 H6 s6 → (∀ s7, Inv X pins (σ6.set i none) H6 s7 → Q s7) →
              wpAny (model X.prog X.w) X.A (do bindName X.env n .none; unbindBehindTheSuite X.env n pos') (fun _ s7 => Q s7) X.xe s6 := fun S6 q => gone_ok (S6.unsuite ok) hN hi hl q
          intro f s6 sp
          cases f with
          | next =>
            obtain ⟨σ6, H6, S6, q6⟩ := sp
            exact gone S6 (fun s7 J7 => ⟨_, _, J7, q6⟩)
          | brk =>
            obtain ⟨σ6, H6, S6, q6⟩ := sp
            exact gone S6 (fun s7 J7 => ⟨_, _, J7, q6⟩)
          | cont =>
            obtain ⟨σ6, H6, S6, q6⟩ := sp
            exact gone S6 (fun s7 J7 => ⟨_, _, J7, q6⟩)
          | ret u =>
            obtain ⟨v6, σ6, H6, S6, r6, q6⟩ := sp
            exact gone S6 (fun s7 J7 => ⟨_, _, _, J7, r6, q6⟩)
    exact go hh wish
  refine wpAny_mono ((hb _ (X.pn ++ pins) land took PassesOwn.looking).run [] s σ H D (I.toTry _) h) ?_ (fun e s1 he => he)
  intro f s1 sp
  cases f with
  | next =>
    obtain ⟨σ1, H1, J1, q⟩ := sp
    exact wpAny_execs_nil ⟨σ1, H1, J1.ofTry ok, q⟩
  | brk =>
    obtain ⟨σ1, H1, J1, q⟩ := sp
    exact ⟨σ1, H1, J1.ofTry ok, q⟩
  | cont =>
    obtain ⟨σ1, H1, J1, q⟩ := sp
    exact ⟨σ1, H1, J1.ofTry ok, q⟩
  | ret u =>
    obtain ⟨v1, σ1, H1, J1, r, q⟩ := sp
    exact ⟨v1, σ1, H1, J1.ofTry ok, r, q⟩
end

/-! a def that is handed the exception of an except clause, in the clause's suite -/
section
variable {P : Program} {w : World} {K : PySem.W.Frag} {mg : Str → Option Value} {base : Heap}
/-- called with the exception at a, whose object is oe, it hands back z and leaves all as it was -/
structure FnE (P : Program) (w : World) (K : PySem.W.Frag) (mg : Str → Option Value) (base : Heap) (k : Nat) (f : Addr) (fd : FuncData) (ps : List Str) (D : Addr) (z : V) : Prop where
  one : ps.length = 1
  go : ∀ (A : Around) (outer : List Env) (s : Shared) (H : Hp) (ar : Args) (a : Addr) (oe : Obj) (Q : VK), L2H.RoomH k A → L2H.PinOk outer H s (a, oe) → Zc (.ref D) none oe → (∃ vs, oe.data = .fields vs) → Env0 P w K mg base A outer s H →
    BindsTo s fd ar (ps.zip [.ref a]) → (∀ H', (∀ b o, H b = some o → H' b = some o) → Q z H') → codeAny (model P w) A (.call (.ref f) ar) (CR (fun _ _ _ _ _ _ => False) outer P w H s Q (fun _ _ _ => False)) s
theorem fnE {x qual : Str} {params : Arguments} {body : List Stmt} {scope : Scope} {dvs : List V} {kws : List (Str × V)} {f : Addr} {fd : FuncData} {N : List Str} {p1 : Str} {k : Nat} {D : Addr} {z : V} (F : FunD K x qual params body scope dvs kws f fd) (S : FnScope N [p1] scope)
    (bd : ∀ (cdv : Value) (A : Around) (outer : List Env) (s : Shared) (H : Hp) (a : Addr) (oe : Obj) (Q : VK), L2H.RoomH k (A.deeper (envOfC qual scope s.heap.objs.size f cdv)) → Zc (.ref D) none oe → (∃ vs, oe.data = .fields vs) → (∀ H', (∀ b o, H b = some o → H' b = some o) → Q z H') →
      ∃ t, PSs (L2H.cxH (fun _ _ _ _ _ _ => False) P w K mg base N qual scope f cdv A outer s H (fun _ _ _ => False) (a, oe)) body t ∧ t { nx := fun _ H' => Q .non H', rt := Q } (start N [.ref a]) H) : FnE P w K mg base (k + 1) f fd [p1] D z := by
  obtain ⟨oc, od, dV, kV, doc, pm, an, cdv, ct, osl, rfl, lk, hcd, _, _⟩ := F.ex
  refine ⟨rfl, ?_⟩
  intro A outer s H ar a oe Q room pin hz hd env bnd back
  have kin : K.In s.heap := env.mod.kin.keeps fun b o e => (env.bs b o e).1
  have lim : s.heap.NoLimit := env.mod.nolimit.keeps fun b o e => (env.bs b o e).1
  have kinds : ∀ y ∈ [p1].zip [Value.ref a], scope.names.lookup y.1 = some .local ∨ (scope.names.lookup y.1 = some .cell ∧ ((cellsFrom (s.heap.objs.size + 1) scope.names []).lookup y.1).isSome = true) := by
    rintro ⟨n, v⟩ hy
    rcases S.par n (List.of_mem_zip hy).1 with q | q
    · exact .inl q
    · exact .inr ⟨q, PySem.W.cellsFrom_some _ _ _ (.inl q)⟩
  refine codeAny_call_function room.depth (kin _ _ lk) rfl S.co S.gen rfl (PySem.W.codeRec_of kin hcd) (bnd _ _ _ _ ?_)
  refine wpAny_newFunctionEnv_cells S.kind kinds ?_
  rintro env1 rfl s1 x1
  refine ⟨lim.keeps x1.toInCall.keep, codeAny_func ?_⟩
  obtain ⟨t, ht, hq⟩ := bd cdv A outer s H a oe Q (room.deeper _) hz hd back
  have start1 := L2H.inv_startH (CX := fun _ _ _ _ _ _ => False) (E := fun _ _ _ => False) S pin env (vs := [.ref a]) rfl (.cons rfl .nil) x1
  refine wpAny_mono (ht.run [] s1 (start N [.ref a]) H _ start1 hq) ?_ (fun e s' hx => hx)
  intro fl s' sp
  cases fl with
  | next =>
    obtain ⟨σ', H', J, q⟩ := sp
    exact ⟨V.non, H', J.os, J.bare, J.base, J.hok, rfl, q⟩
  | brk =>
    obtain ⟨_, _, _, q⟩ := sp
    exact q.elim
  | cont =>
    obtain ⟨_, _, _, q⟩ := sp
    exact q.elim
  | ret u =>
    obtain ⟨v, σ', H', J, rv, q⟩ := sp
    exact ⟨v, H', J.os, J.bare, J.base, J.hok, rv, q⟩
end
/-- kind(e) in the suite: e stands in slot i -/
theorem pe_callE {X : Cx} {a : Addr} {oe : Obj} {pn : List (Addr × Obj)} {k : Nat} {f D : Addr} {fd : FuncData} {ps : List Str} {z : V} {x : Str} {p pos : Pos} {e : Expr} (F : FnE X.prog X.w X.K X.mg X.base k f fd ps D z) (hr : L2H.RoomH k X.A) (hg : Gl X x) (hm : X.mg x = some (.ref f)) (hk : PySem.W.keepIn X.K (.ref f) = true)
    (hb : Binds X.K fd ps []) (hz : Zc (.ref D) none oe) (hd : ∃ vs, oe.data = .fields vs) {t : TA} (he : PA (X.suite a ((a, oe) :: pn)) [e] t)
    (hdb : (x == ("__debug__" : Str)) = false := by decide) (hst : starEach [e] X.env = (false, eval e X.env) :: starEach [] X.env := by rfl) (hpl : (backTo pos (starEach [] X.env)).any (·.1) = false := by rfl) :
    PE (X.suite a ((a, oe) :: pn)) (.Call (.Name x p) [e] [] pos) (fun σ H Q => t σ H fun vs H1 => vs = [.ref a] ∧ ∀ H', (∀ b o, H1 b = some o → H' b = some o) → Q z H') := by
  constructor
  intro pins s σ H Q I h
  refine wpAny_Call_Name_kw (ld_glob I hg hm ?_ hdb)
  refine PySem.W.callWith_K (h₀ := X.base) I.ok.mod.kin hk ?_ hst hpl
  refine thn (he.run pos pins s σ H _ I h) ?_
  rintro us s1 ⟨vs, H1, I1, r, rfl, q⟩
  refine ⟨I1.kIn, ?_⟩
  obtain ⟨u, rfl, ru⟩ := vals1 r
  cases ru
  have one : [Value.ref a].length = ps.length := F.one.symm
  have bnd := hb s1 [.ref a] I1.kIn (by rw [List.append_nil]; exact one)
  rw [List.append_nil] at bnd
  have pin1 := I1.pin (a, oe) (List.mem_append_left _ List.mem_cons_self)
  have pinned : L2H.PinOk X.stack H1 s1 (a, oe) := ⟨pin1.1, pin1.2.1, fun hm => (List.mem_cons.mp (I1.stkSub a hm)).elim pin1.2.2.1 pin1.2.2.2.1, pin1.2.2.2.2⟩
  refine wpAny_call (codeAny_mono (F.go _ X.stack s1 H1 ⟨[.ref a], []⟩ a oe Q ⟨hr.dp, hr.un⟩ pinned hz hd I1.env0 bnd q) ?_)
  rintro (er | fl) s' hq
  · exact hq.elim
  · cases fl with
    | ret u => exact I1.after hq
    | next => exact hq.elim
    | brk => exact hq.elim
    | cont => exact hq.elim
end Bb
set_option Elab.async false
set_option linter.all false
set_option maxRecDepth 100000
set_option maxHeartbeats 2000000
namespace Bb
open PySem PySem.Spec PyProof.Rows L2

/-! isinstance of the exception that the caller's suite holds -/
theorem call_isP {X : Cx} {a D : Addr} {oe : Obj} (hp : (a, oe) ∈ X.pn) (C : ExcC X.K D) (hz : Zc (.ref D) none oe) (hf : ∃ vs, oe.data = .fields vs) : CallR X (.builtin "isinstance") (rIsE X.K D a) := by
  intro pins s σ H xs us Q I r h
  obtain ⟨c, cv, b, rfl, hcv, e, q⟩ := h
  obtain ⟨u1, u2, rfl, r1, r2⟩ := vals2 r
  cases r1
  have ec := hcv _ r2
  subst ec
  have there := (I.pin (a, oe) (List.mem_append_left _ hp)).1
  obtain ⟨vs, hv⟩ := hf
  have J : PySem.W.InstAt s.heap a oe D none := by
    obtain ⟨oc, od, oda, osl⟩ := oe
    obtain ⟨h1, h2⟩ := hz
    dsimp only at h1 h2 hv
    subst h1 h2 hv
    exact ⟨there, rfl, rfl, trivial⟩
  refine PySem.W.kia_one (PySem.W.handS_kitx_exc C.hg C.hk C.hs C.hd C.ha C.hn C.ht C.hm) I.kIn J e (fun z => nomatch z) ?_
  intro tk
  exact ⟨.bl b, H, I.kept (t' := tk) (fun _ _ z => z), rfl, q⟩

/-! list.count of flat items -/
def rCntF (K : PySem.W.Frag) : V → List V → Hp → VK → Prop := fun x xs H Q => ∃ (p : Addr) (ys : List V) (y : V), x = .ref p ∧ xs = [y] ∧ SqL K H p ys ∧ flatV y = true ∧ ys.all flatV = true ∧ Q (.int ((ys.countP fun z => eqV z y : Nat) : Int)) H
theorem count_eqU {x : V} : ∀ {xs : List V} {us : List Value}, Vals xs us → xs.all flatV = true → us.countP (eqU x) = xs.countP fun y => eqV y x
  | _, _, .nil, _ => rfl
  | y :: xs, u :: us, .cons r t, f => by
    rw [List.all_cons, Bool.and_eq_true] at f
    rw [List.countP_cons, List.countP_cons, eqU_of r f.1, count_eqU t f.2]
theorem mt_countF {X : Cx} : MtR X "list.count" (rCntF X.K) := by
  intro pins s σ H x xs v us Q I rx rxs h
  obtain ⟨p, ys, y, rfl, rfl, hs, fy, fys, q⟩ := h
  cases rx
  obtain ⟨u, rfl, ru⟩ := vals1 rxs
  obtain ⟨its, rv, ⟨⟨cls, dd, data, sl⟩, n, ho, hc, hdn, hd⟩, hlen⟩ := I.list hs
  dsimp only at hc hd
  subst hc hd
  refine call_meets PySem.F.slot_list_count ⟨_, ho, rfl⟩ PySem.F.entry_list_count (PySem.F.args_list_count_2 _ _) (SeqAt.list_countAt p its.toArray n dd sl u (eqU y)) ⟨ho, ?_, ?_⟩
  · intro z hz
    exact mem_eqAt ru fy rv fys z (by simpa using hz)
  · refine ⟨.int ((ys.countP fun z => eqV z y : Nat) : Int), H, I.tok _, ⟨s.toks, ?_⟩, q⟩
    have e := count_eqU (x := y) rv fys
    show Value.int ((its.toArray.toList.countP (eqU y) : Nat) : Int) s.toks = _
    rw [show its.toArray.toList = its from rfl, e]

/-! len of an own instance; != by an own == -/
section
variable {X : Cx}
theorem call_lenOwn {CX : CXT} {C f : Addr} {fd : FuncData} {ps : List Str} {sp : Sp} {k : Nat} {E : XK} (F : FnOk X.prog X.w X.K X.mg X.base CX k f fd ps sp) (hr : Room (k + 1) X.A) (hs : PySem.W.findIn X.K (.ref C) "__len__" = some (some (.ref f))) (hf : PySem.W.isFn X.K (.ref f) = true)
    (hb : Binds X.K fd ps []) (hx : Passes CX X E) :
    CallR X (.builtin "len") (fun xs H Q => ∃ a dx fs, xs = [.ref a] ∧ H a = some (.ins C dx fs) ∧ sp [.ref a] H (fun v H' => ∃ n : Int, v = .int n ∧ (0 ≤ n ∧ n < 2 ^ 63) ∧ Q (.int n) H') E) := by
  intro pins s σ H xs us Q I r h
  obtain ⟨a, dx, fs, rfl, ha, hsp⟩ := h
  obtain ⟨u, rfl, ru⟩ := vals1 r
  cases ru
  obtain ⟨mA, J, _⟩ := ins_get I.hok ha
  obtain ⟨od, J, _⟩ := J.look
  obtain ⟨m, hF⟩ := I.fr
  refine PySem.W.len_K hF I.ok.mod.kin J hs hf ?_
  have hl := F.len _ _ _ _ hsp
  have bnd := hb s [.ref a] I.kIn (by simpa using hl)
  rw [List.append_nil] at bnd
  refine wpAny_call (codeAny_mono (F.run X.A.in1 X.stack s H ⟨[.ref a], []⟩ [.ref a] [.ref a] _ E hr.in1 I.env0.in1 bnd (.cons rfl .nil) hsp) ?_)
  rintro (er | fl) s' hq
  · exact hx pins σ H s er s' I hq
  · cases fl with
    | ret w' =>
      obtain ⟨z, H', I', rz, n, rfl, hn, q⟩ := I.after hq
      obtain ⟨t, rfl⟩ := rz
      exact ⟨hn, .int n, H', I'.tok _, ⟨_, rfl⟩, q⟩
    | next => exact hq.elim
    | brk => exact hq.elim
    | cont => exact hq.elim
end
namespace Ne
open PySem.W PySem.Calls
section
variable {prog : Program} {w : World} {A : Around} {E : Value → Shared → Prop} {s : Shared} {K : Frag} {x y C f : Addr} {ox oy : Obj} {od od' : Option Obj}
theorem wrap_ty : typeOf (.builtin "object.__ne__") = pure (.type "wrapper_descriptor") := by
  first
    | rfl
    | kernel_rfl
theorem obj_ne {Q : Value → Shared → Prop} (X : K.In s.heap) (I : InstAt s.heap x ox C od) (J : InstAt s.heap y oy C od') (hu : A.units + 1 < cLine) (he : findIn K (.ref C) "__eq__" = some (some (.ref f))) (hf : isFn K (.ref f) = true)
    (hn : findIn K (.ref C) "__ne__" = some (some (.builtin "object.__ne__"))) (hsub : subIn K (.ref C) (.type "object") = some true)
    (h : wpAny (model prog w) A.in1 (call (.ref f) [.ref x, .ref y]) (fun v s' => ∃ b, v = .bool b ∧ Q (.bool (!b)) s') E s) : wpAny (model prog w) A (compareOp .NotEq (.ref x) (.ref y)) Q E s := by
  obtain ⟨hp, g, d, tk, os⟩ := s
  have isO : Looks (model prog w) hp (isInstance (.ref x) (.type "object")) true := I.type.andThen (looks_subIn X hsub)
  -- object.__ne__(x, y)
  have slot : wpAny (model prog w) A (call (.builtin "object.__ne__") [.ref x, .ref y]) (fun v s' => ∃ b, v = .bool b ∧ Q (.bool b) s') E ⟨hp, g, d, tk, os⟩ := by
    refine wpAny_call (codeAny_call_builtin (by decide +kernel) F.cmpEntry_ne ?_)
    refine @check_slot (model prog w) _ _ ⟨hp, g, d, tk, os⟩ "object.__ne__" "object" "__ne__" (.ref x) [.ref y] [] _ F.cmpKind_ne F.cmpSplit_ne isO (F.cmpArgs_ne _ _) ?_
    unfold Builtin.«object.__ne__»
    have eqc : ∀ {R : Option Value → Shared → Prop} {E' : Value → Shared → Prop}, wpAny (model prog w) A.in1 (call (.ref f) [.ref x, .ref y]) (fun v => R (some v)) E' ⟨hp, g, d, tk, os⟩ →
        wpAny (model prog w) A.in1 (callSpecialIfBound? (.ref x) (Str.ofString "__eq__") [.ref y]) R E' ⟨hp, g, d, tk, os⟩ := fun z => ifBound_K X I he hf z
    have rest : ∀ (v : Value) (s' : Shared), (∃ b, v = .bool b ∧ Q (.bool (!b)) s') → wpAny (model prog w) A.in1 (match some v with | some Value.notImplemented => ret .notImplemented | none => ret .notImplemented | some r => do ret (.bool (!(← truthy r))))
        (fun fin s' => match fin with
          | .done f => wants (fun v s' => ∃ b, v = Value.bool b ∧ Q (Value.bool b) s') E (.ok f) s'
          | .again c' => c'.quiet = true ∧ codeAny (model prog w) A c' (wants (fun v s' => ∃ b, v = Value.bool b ∧ Q (Value.bool b) s') E) s') (fun e s' => wants (fun v s' => ∃ b, v = Value.bool b ∧ Q (Value.bool b) s') E (.error e) s') s' := by
      rintro v s' ⟨b, rfl, hq⟩
      refine wpAny_bind (wpAny_truthy_bool (wpAny_pure ?_))
      exact ⟨!b, rfl, hq⟩
    repeat (first
      | with_reducible refine wpAny_cRoomFor hu ?_
      | exact wpAny_bind (m := callSpecialIfBound? (.ref x) (Str.ofString "__eq__") [.ref y]) (eqc (wpAny_mono h (fun v s' hv => rest v s' hv) fun _ _ e => e))
      | wp_step)
  have bs : bindSpecial (.builtin "object.__ne__") (.ref x) = pure (.builtin "object.__ne__", [.ref x]) := by
    unfold bindSpecial
    rw [wrap_ty]
    rfl
  have two : wpAny (model prog w) A (callSpecialIfBound? (.ref x) (Str.ofString "__ne__") [.ref y]) (fun r s' => ∃ b, r = some (Value.bool b) ∧ Q (Value.bool b) s') E ⟨hp, g, d, tk, os⟩ := by
    simp only [callSpecialIfBound?, bindSpecialIfBound?]
    refine wpAny_holding (wpAny_bind (wpAny_bind (wpAny_bind (I.type.here ((looks_findIn X hn).here ?_)))))
    refine wpAny_bind (wpAny_askSetting (wpAny_ite ?_))
    have fin : wpAny (model prog w) A (call (.builtin "object.__ne__") ([.ref x] ++ [.ref y]) >>= fun v => pure (some v)) (fun r s' => ∃ b, r = some (Value.bool b) ∧ Q (Value.bool b) s') E ⟨hp, g, d, tk, os⟩ := by
      refine wpAny_bind (wpAny_mono slot ?_ fun _ _ e => e)
      rintro v s' ⟨b, rfl, hq⟩
      exact wpAny_pure ⟨b, rfl, hq⟩
    split
    · rw [bs]
      exact wpAny_bind (wpAny_pure (wpAny_pure (by exact fin)))
    · rw [bs]
      exact wpAny_tryCatch (wpAny_bind (wpAny_pure (wpAny_pure (by exact fin))))
  have one : wpAny (model prog w) A (tryCompare (.ref x) (Str.ofString "__ne__") (.ref y)) (fun r s' => ∃ v, r = some v ∧ Q v s') E ⟨hp, g, d, tk, os⟩ := by
    unfold tryCompare
    refine wpAny_bind (wpAny_mono two ?_ fun _ _ e => e)
    rintro r s' ⟨b, rfl, hq⟩
    exact wpAny_pure ⟨_, rfl, hq⟩
  show wpAny (model prog w) A (richCompare .NotEq (.ref x) (.ref y)) Q E _
  unfold richCompare
  simp only [oneThing_ref]
  refine wpAny_holding (wpAny_bind (wpAny_cRoomFor (Nat.lt_of_succ_lt hu) ?_))
  refine wpAny_bind (I.type.here (wpAny_bind (J.type.here ?_)))
  rw [show (Value.ref C != Value.ref C) = false from by simp]
  simp only [Bool.false_eq_true, if_false]
  refine wpAny_bind (wpAny_pure ?_)
  simp only [Bool.false_eq_true, if_false]
  refine wpAny_bind (wpAny_mono one ?_ fun _ _ e => e)
  rintro r s' ⟨v, rfl, hq⟩
  exact wpAny_pure hq
end
end Ne
end Bb
set_option Elab.async false
set_option linter.all false
set_option maxRecDepth 100000
set_option maxHeartbeats 2000000
namespace Bb
open PySem PySem.Spec PyProof.Rows L2
open Builtin

/-! ==, != by an own ==: what it answers is told -/
section
variable {X : Cx} {CX : CXT} {C f : Addr} {fd : FuncData} {ps : List Str} {sp : Sp} {k : Nat} {E : XK}
theorem op_neOwn (F : FnOk X.prog X.w X.K X.mg X.base CX k f fd ps sp) (hr : Room (k + 1) X.A) (he : PySem.W.findIn X.K (.ref C) "__eq__" = some (some (.ref f))) (hf : PySem.W.isFn X.K (.ref f) = true)
    (hn : PySem.W.findIn X.K (.ref C) "__ne__" = some (some (.builtin "object.__ne__"))) (hsub : PySem.W.subIn X.K (.ref C) (.type "object") = some true) (hb : Binds X.K fd ps []) (hx : Passes CX X E) :
    OpR X (compareOp .NotEq) (fun x y H Q => ∃ a b dx dy fs gs, x = .ref a ∧ y = .ref b ∧ H a = some (.ins C dx fs) ∧ H b = some (.ins C dy gs) ∧ sp [.ref a, .ref b] H (fun v H' => ∃ t, v = .bl t ∧ Q (.bl (!t)) H') E) := by
  intro pins s σ H x y v u Q I rx ry h
  obtain ⟨a, b, dx, dy, fs, gs, rfl, rfl, ha, hb', hsp⟩ := h
  cases rx
  cases ry
  obtain ⟨mA, J, _⟩ := ins_get I.hok ha
  obtain ⟨od, J, _⟩ := J.look
  obtain ⟨mB, J', _⟩ := ins_get I.hok hb'
  obtain ⟨od', J', _⟩ := J'.look
  have un := hr.units
  refine Ne.obj_ne I.kIn J J' (by omega) he hf hn hsub ?_
  have hl := F.len _ _ _ _ hsp
  have bnd := hb s [.ref a, .ref b] I.kIn (by simpa using hl)
  rw [List.append_nil] at bnd
  refine wpAny_call (codeAny_mono (F.run X.A.in1 X.stack s H ⟨[.ref a, .ref b], []⟩ [.ref a, .ref b] [.ref a, .ref b] _ E hr.in1 I.env0.in1 bnd (.cons rfl (.cons rfl .nil)) hsp) ?_)
  rintro (er | fl) s' hq
  · exact hx pins σ H s er s' I hq
  · cases fl with
    | ret w' =>
      obtain ⟨z, H', I', rz, t, rfl, q⟩ := I.after hq
      cases rz
      exact ⟨t, rfl, .bl (!t), H', I', rfl, q⟩
    | next => exact hq.elim
    | brk => exact hq.elim
    | cont => exact hq.elim
theorem op_eqOwn (F : FnOk X.prog X.w X.K X.mg X.base CX k f fd ps sp) (hr : Room k X.A) (he : PySem.W.findIn X.K (.ref C) "__eq__" = some (some (.ref f))) (hf : PySem.W.isFn X.K (.ref f) = true)
    (hb : Binds X.K fd ps []) (hx : Passes CX X E) :
    OpR X (compareOp .Eq) (fun x y H Q => ∃ a b dx dy fs gs, x = .ref a ∧ y = .ref b ∧ H a = some (.ins C dx fs) ∧ H b = some (.ins C dy gs) ∧ sp [.ref a, .ref b] H (fun v H' => ∃ t, v = .bl t ∧ Q (.bl t) H') E) := by
  intro pins s σ H x y v u Q I rx ry h
  obtain ⟨a, b, dx, dy, fs, gs, rfl, rfl, ha, hb', hsp⟩ := h
  cases rx
  cases ry
  obtain ⟨mA, J, _⟩ := ins_get I.hok ha
  obtain ⟨od, J, _⟩ := J.look
  obtain ⟨mB, J', _⟩ := ins_get I.hok hb'
  obtain ⟨od', J', _⟩ := J'.look
  obtain ⟨m, hF⟩ := I.fr
  show wpAny (model X.prog X.w) X.A (richCompare .Eq (.ref a) (.ref b)) _ _ _
  refine PySem.W.cmp_K (op := .Eq) (tb := .ref C) hr.units0 hF I.ok.mod.kin J J'.type (by simp [PySem.W.notFirst]) he hf ?_
  have hl := F.len _ _ _ _ hsp
  have bnd := hb s [.ref a, .ref b] I.kIn (by simpa using hl)
  rw [List.append_nil] at bnd
  refine wpAny_call (codeAny_mono (F.run X.A X.stack s H ⟨[.ref a, .ref b], []⟩ [.ref a, .ref b] [.ref a, .ref b] _ E hr I.env0 bnd (.cons rfl (.cons rfl .nil)) hsp) ?_)
  rintro (er | fl) s' hq
  · exact hx pins σ H s er s' I hq
  · cases fl with
    | ret w' =>
      obtain ⟨z, H', I', rz, t, rfl, q⟩ := I.after hq
      cases rz
      exact ⟨.bl t, H', I', rfl, q⟩
    | next => exact hq.elim
    | brk => exact hq.elim
    | cont => exact hq.elim
end

/-! enumerate over a tuple -/
def IteT (K : PySem.W.Frag) (a : Addr) : It :=
  ⟨fun i H => ∃ (xs : List V) (x : V), SqT K H a xs ∧ xs[i]? = some x, fun i H v H' => ∃ T x, v = .ref T ∧ H T = none ∧ H' = upd H T (.tup [.int (i : Nat), x]) ∧ ∀ xs, SqT K H a xs → xs[i]? = some x, fun i H => ∃ xs : List V, SqT K H a xs ∧ xs.length ≤ i⟩
theorem tup_ne_iter {h : Heap} {a it : Addr} {items : Array Value} {i : Nat} (t : h.IsTuple a items) (x : h.IsTupleIter it a i) : a ≠ it := by
  rintro rfl
  obtain ⟨o, e, c, _⟩ := t
  obtain ⟨o', e', c', _⟩ := x
  rw [e] at e'
  injection e' with e'
  subst e'
  rw [c] at c'
  exact absurd c' (by decide)
theorem tup_ne_enum {h : Heap} {a e it : Addr} {items : Array Value} {i : Int} {old : Value} (t : h.IsTuple a items) (x : IsEnum h e it i old) : e ≠ a := by
  rintro rfl
  obtain ⟨o, g, c, _⟩ := t
  have g' : h.get? e = _ := x
  rw [g] at g'
  injection g' with g'
  subst g'
  have c' : Value.type "enumerate" = Value.type "tuple" := c
  exact absurd c' (by decide)
theorem turn_enumT {P : Program} {w : World} {K : PySem.W.Frag} {elts : List Expr} {kk : Nat} {tpos : Pos} (a e it : Addr) :
    Turn P w K (.Tuple elts kk tpos) (IteT K a) [e, it] e (fun i h => (∃ old, IsEnum h e it ((i : Nat) : Int) old) ∧ h.IsTupleIter it a i ∧ e ≠ it) where
  mem := by simp
  obj := by
    rintro i h ⟨⟨old, he⟩, ⟨o, ho, hc, hd⟩, _⟩ b hb
    have two : b = e ∨ b = it := by simpa using hb
    rcases two with rfl | rfl
    · exact ⟨_, he, fun v q => nomatch q⟩
    · refine ⟨o, ho, fun v q => ?_⟩
      rw [hd] at q
      cases q
  keep := by
    rintro i h h' ⟨⟨old, he⟩, hi, ne⟩ k
    exact ⟨⟨old, k e (by simp) _ he⟩, hi.at (fun o q => k it (by simp) o q), ne⟩
  item := by
    intro X hP hw hK hc i pins s σ H E I hf st hg
    subst hP hw hK
    obtain ⟨⟨old, he⟩, hit, ne⟩ := st
    obtain ⟨xs, x, hq, hx⟩ := hg
    obtain ⟨its, rv, p, hz⟩ := I.tuple hq
    have pt : s.heap.IsTuple a its.toArray := p
    obtain ⟨u, hu, ru⟩ := rv.get hx
    have szE : e < s.heap.objs.size := Heap.lt_size he
    have szI : it < s.heap.objs.size := by
      obtain ⟨_, q, _⟩ := hit
      exact Heap.lt_size q
    have lt : i < its.toArray.size := by
      have z := (List.getElem?_eq_some_iff.mp hu).1
      simpa using z
    have D : Draws X.prog X.w X.A.in1 it [it, a] its.toArray.size (fun i v => its.toArray[i]? = some v) (fun i h => h.IsTupleIter it a i ∧ h.IsTuple a its.toArray) := Draws.tuple (show X.A.in1.handled = none from I.ok.hd hc) it a (tup_ne_iter pt hit) its.toArray
    refine wpAny_pyNext_enum_itemD D he ⟨hit, pt⟩ lt ne (by simp [ne, tup_ne_enum pt he]) ?_
    intro x' h' tk hx' ho st' hT hsz hk
    have ex : x' = u := by
      have z : its.toArray[i]? = some u := by simpa using hu
      rw [z] at hx'
      exact (Option.some.inj hx').symm
    subst ex
    refine ⟨_, rfl, wpAny_letOwnedTupleGo_enum (s := { s with heap := h', toks := tk + 1 }) ho ?_⟩
    intro h'' he' sb
    have hT2 : h''.get? s.heap.objs.size = some { cls := .type "tuple", data := .seq #[.int i tk, x'] } := (sb.2 _ (Nat.ne_of_gt szE)).trans hT
    have fresh : ObjOk X.prog X.w (upd H s.heap.objs.size (.tup [.int (i : Nat), x])) h'' s.heap.objs.size (.tup [.int (i : Nat), x]) :=
      ⟨(by show 2 ≤ sizeLine; decide), [.int i tk, x'], .cons ⟨_, rfl⟩ (.cons ru .nil), ⟨_, hT2, rfl, _, rfl⟩⟩
    have I1 : Inv X pins σ (upd H s.heap.objs.size (.tup [.int (i : Nat), x])) { s with heap := h'', toks := tk + 1 } := by
      refine I.turnedNew (ch := [e, it]) ?_ hf (Nat.le_refl _) fresh
      intro b ob hb q
      have n1 : b ≠ e := fun z => hb (by simp [z])
      have n2 : b ≠ it := fun z => hb (by simp [z])
      exact (sb.2 b n1).trans (hk b ob n1 n2 q)
    refine ⟨.ref s.heap.objs.size, _, I1, rfl, ⟨_, x, rfl, I.hok.fresh (Nat.le_refl _), rfl, ?_⟩, ⟨⟨x', ?_⟩, st'.1.at (fun o q => (sb.2 it (Ne.symm ne)).trans q), ne⟩, ?_⟩
    · intro ys hy
      rw [I.tuple_inj hy hq]
      exact hx
    · have e1 : ((i + 1 : Nat) : Int) = (i : Int) + 1 := by omega
      rw [e1]
      exact he'
    · intro b hb
      have two : b = e ∨ b = it := by simpa using hb
      have low : b < s.heap.objs.size := by
        rcases two with rfl | rfl
        · exact szE
        · exact szI
      rw [upd_ne (Nat.ne_of_lt low)]
      exact (hf b hb).1
  done := by
    intro X hP hw hK hc i pins s σ H E I hf st hg
    subst hP hw hK
    obtain ⟨⟨old, he⟩, hit, ne⟩ := st
    obtain ⟨xs, hq, hx⟩ := hg
    obtain ⟨its, rv, p, hz⟩ := I.tuple hq
    have pt : s.heap.IsTuple a its.toArray := p
    obtain ⟨f0, f1, f2, f3, f4, f5⟩ := hf it (by simp)
    have hl := rv.length
    have end_ : ∀ {Q : Option Value → Shared → Prop}, (∀ h', Heap.ExtBut it s.heap h' → Q none { s with heap := h' }) → wpAny (model X.prog X.w) X.A (pyNext (.ref e)) Q E s := by
      intro Q hQ
      unfold pyNext
      refine wpAny_bind (wpAny_attempt (wpAny_callSpecial?_slot (name := Str.ofString "__next__") ⟨_, he, rfl⟩ F.slot_enumerate_next (wpAny_call_entry F.slot_enumerate_next ⟨_, he, rfl⟩ F.entry_enumerate_next ?_ (F.args_enumerate_next_1 _))))
      show wpAny _ _ (field (.ref e) 2 >>= _) _ _ _
      refine wpAny_bind (wpAny_field he rfl (x := .ref it) rfl ?_)
      refine wpAny_bind (wpAny_nextOf_tuple_end (I.ok.hd hc) hit pt (by simp; omega) ?_)
      rintro h' x eb ⟨o, ho, hc'⟩
      refine wpAny_bind (wpAny_isInstance (T := "StopIteration") (b := true) ⟨o, ho, hc'⟩ isSubtype_stop ?_)
      exact wpAny_pure (hQ h' eb)
    exact end_ (fun h' eb => ⟨rfl, I.turned (t' := s.toks) (fun b o hb q => eb b o hb q) f0 f1 f3 f4 f5⟩)
  self := by
    rintro A i s Q E ⟨⟨_, he⟩, _⟩ h
    exact wpAny_pyIter_enum he h
theorem walk_enumT {K : PySem.W.Frag} {a : Addr} {xs : List V} : Walk (IteT K a) xs.length (fun H => SqT K H a xs) (YPair (fun i => some (.int (i : Nat))) (fun i => xs[i]?)) := by
  refine ⟨fun i _ hi q => ⟨xs, xs[i], q, by simp [hi]⟩, fun _ q => ⟨xs, q, Nat.le_refl _⟩, ?_⟩
  rintro i H v H' _ q ⟨T, x, h1, h2, h3, h4⟩
  exact ⟨T, .int (i : Nat), x, h1, h2, h3, rfl, h4 xs q⟩
theorem walk_zipT {K : PySem.W.Frag} {a b : Addr} {xs ys : List V} {n : Nat} (hn : n = min xs.length ys.length) : Walk (RZ.ItzT K a b) n (fun H => SqT K H a xs ∧ SqT K H b ys) (YPair (fun i => xs[i]?) (fun i => ys[i]?)) := by
  subst hn
  refine ⟨?_, fun _ q => ⟨xs, ys, q.1, q.2, by omega⟩, ?_⟩
  · intro i _ hi q
    have h1 : i < xs.length := by omega
    have h2 : i < ys.length := by omega
    exact ⟨xs, ys, xs[i], ys[i], q.1, q.2, by simp [h1], by simp [h2]⟩
  · rintro i H v H' _ q ⟨T, x, z, h1, h2, h3, h4, h5⟩
    exact ⟨T, x, z, h1, h2, h3, h4 xs q.1, h5 ys q.2⟩

/-! enumerate(t) is made -/
theorem meets_enumT (l : Addr) (items : Array Value) (n : Nat) (dct : Option Addr) (sl : Array (Option Value)) :
    Meets (Builtin.«enumerate.__new__» ⟨[.type "enumerate", .ref l], []⟩) (fun _ R s => s.heap.get? l = some { cls := .type "tuple", dict := dct, data := .seq items n, slots := sl } ∧
      R (.ok (.ret (.ref (s.heap.push { cls := .type "tuple_iterator", data := .fields #[.ref l, .int 0 0] }).objs.size)))
        { s with heap := (s.heap.push { cls := .type "tuple_iterator", data := .fields #[.ref l, .int 0 0] }).push { cls := .type "enumerate", data := .fields #[.none, .bool false, .ref s.heap.objs.size, rawInt 0, .none, .none] } }) :=
  .of_wp fun prog w A R s h => by
    obtain ⟨hp, g, d, tk, os⟩ := s
    obtain ⟨hl, h⟩ := h
    have hsub := sub_enumerate
    have tup : Heap.IsTuple (Shared.heap ⟨hp, g, d, tk, os⟩) l items := ⟨_, hl, rfl, n, rfl⟩
    wp_walk using AutoSeq1.wpAny_loadPart' hl
    refine wpAny_stack_any fun st => wpAny_pure ?_
    split
    · rename_i c _ _ _ _ _
      cases (c == Value.type "enumerate")
      · wp_walk using AutoSeq1.wpAny_loadPart' hl, wpAny_pyIter_tuple tup
        exact ⟨_, rfl, h⟩
      · wp_walk using AutoSeq1.wpAny_loadPart' hl, wpAny_pyIter_tuple tup
        exact ⟨_, rfl, h⟩
    · wp_walk using AutoSeq1.wpAny_loadPart' hl, wpAny_pyIter_tuple tup
      exact ⟨_, rfl, h⟩
theorem call_enumT {prog : Program} {w : World} {A : Around} {E : Value → Shared → Prop} {s : Shared} {l : Addr} {items : Array Value} {Q : Value → Shared → Prop} (hL : s.heap.IsTuple l items)
    (h : ∀ h', IsEnum h' (s.heap.objs.size + 1) s.heap.objs.size 0 .none → h'.IsTupleIter s.heap.objs.size l 0 → (∀ b o, s.heap.get? b = some o → h'.get? b = some o) → Q (.ref (s.heap.objs.size + 1)) { s with heap := h' }) :
    wpAny (model prog w) A (call (.type "enumerate") [.ref l]) Q E s := by
  obtain ⟨⟨c, dct, dt, sl⟩, hl, hc, n, hd⟩ := hL
  dsimp only at hc hd
  subst hc hd
  refine callType_new F.called_enumerate (by decide) (F.typeCall_enumerate_1 _) (F.newCall_enumerate_1 _) (fun obj => F.args_object_init_2 obj _) F.entry_enumerate_new (meets_enumT l items n dct sl) ⟨hl, ?_⟩
  have hz : (s.heap.push { cls := .type "tuple_iterator", data := .fields #[.ref l, .int 0 0] }).objs.size = s.heap.objs.size + 1 := Heap.size_push ..
  show _ ∧ _
  rw [hz]
  have he : IsEnum ((s.heap.push { cls := .type "tuple_iterator", data := .fields #[.ref l, .int 0 0] }).push { cls := .type "enumerate", data := .fields #[.none, .bool false, .ref s.heap.objs.size, rawInt 0, .none, .none] }) (s.heap.objs.size + 1) s.heap.objs.size 0 .none := by
    have q := Heap.get?_push_size (s.heap.push { cls := .type "tuple_iterator", data := .fields #[.ref l, .int 0 0] }) (o := { cls := .type "enumerate", data := .fields #[.none, .bool false, .ref s.heap.objs.size, rawInt 0, .none, .none] }) rfl
    rw [hz] at q
    exact q
  exact ⟨⟨_, he, rfl⟩, h _ he ⟨_, Heap.get?_push_of_some _ (Heap.get?_push_size _ rfl), rfl, rfl⟩ (fun b o x => Heap.get?_push_of_some _ (Heap.get?_push_of_some _ x))⟩
def iEnumT (K : PySem.W.Frag) (ta : TA) : TI := fun σ H R => ta σ H fun vs H1 => ∃ a xs, vs = [.ref a] ∧ SqT K H1 a xs ∧ R (IteT K a) H1
theorem pi_enumT {X : Cx} {e : Expr} {ta : TA} {p pos tpos : Pos} {elts : List Expr} {kk : Nat} (hg : Gl X "enumerate") (hm : X.mg "enumerate" = none) (ha : PA X [e] ta) (hs : starEach [e] X.env = [(false, eval e X.env)] := by rfl) :
    PI X (.Tuple elts kk tpos) (.Call (.Name "enumerate" p) [e] [] pos) (iEnumT X.K ta) := by
  constructor
  intro pins s σ H R I h
  refine Call_ (ld_blt I hg hm boot_enumerate (PyProof.Rows.callWith_type1 (thn (ha.run pos pins s σ H _ I h) ?_) hs rfl))
  rintro us s1 ⟨vs, H1, I1, r1, a, xs, rfl, hq, q⟩
  obtain ⟨u, rfl, ru⟩ := vals1 r1
  cases ru
  obtain ⟨its, rv, p', hz⟩ := I1.tuple hq
  refine call_enumT (show s1.heap.IsTuple a its.toArray from p') ?_
  intro h' he hit hk
  refine wpAny_pyIter_enum he ?_
  have I2 : Inv X pins σ H1 { s1 with heap := h' } := I1.kept (t' := s1.toks) hk
  refine ⟨s1.heap.objs.size + 1, [s1.heap.objs.size + 1, s1.heap.objs.size], _, _, H1, rfl, I2, turn_enumT a (s1.heap.objs.size + 1) s1.heap.objs.size, ⟨⟨.none, he⟩, hit, Nat.succ_ne_self _⟩, ?_, q⟩
  intro b hb
  have two : b = s1.heap.objs.size + 1 ∨ b = s1.heap.objs.size := by simpa using hb
  have hle : s1.heap.objs.size ≤ b := by
    rcases two with rfl | rfl
    · exact Nat.le_succ _
    · exact Nat.le_refl _
  exact I1.fpOk hle (I1.hok.fresh hle)
end Bb
set_option Elab.async false
set_option linter.all false
set_option maxRecDepth 100000
set_option maxHeartbeats 2000000
namespace Bb
open PySem PySem.Spec PyProof.Rows L2
/-! lists of ints as data -/
theorem dp_ints {K : PySem.W.Frag} {H : Hp} : ∀ ns : List Int, DpAll K H (ns.map V.int) (ns.map PyData.int)
  | [] => .nil
  | n :: ns => .cons (.int n) (dp_ints ns)
theorem eqv_ints : ∀ ns ms : List Int, PyData.eqvAll (ns.map PyData.int) (ms.map PyData.int) = decide (ns = ms)
  | [], [] => rfl
  | [], m :: ms => by simp [PyData.eqvAll]
  | n :: ns, [] => by simp [PyData.eqvAll]
  | n :: ns, m :: ms => by
    have ih := eqv_ints ns ms
    simp only [List.map_cons, PyData.eqvAll, PyData.eqv, ih]
    by_cases h : n = m
    · subst h
      simp
    · simp [h]
theorem lay_ints : ∀ ns : List Int, PyData.canLayAll0 (ns.map PyData.int) = true
  | [] => rfl
  | n :: ns => by
    have ih := lay_ints ns
    simp [PyData.canLayAll0, PyData.canLay0, ih]
theorem depth_ints : ∀ ns : List Int, PyData.depthAll (ns.map PyData.int) = 0
  | [] => rfl
  | n :: ns => by
    have ih := depth_ints ns
    simp [PyData.depthAll, PyData.depth, ih]
theorem shaped_list (ns : List Int) : SeqAt.shaped (.list (ns.map PyData.int)) = true := by
  unfold SeqAt.shaped
  simp [PyData.canLay0, lay_ints, PyData.depth, depth_ints]
theorem shaped_tup (ns : List Int) : SeqAt.shaped (.tuple (ns.map PyData.int)) = true := by
  unfold SeqAt.shaped
  simp [PyData.canLay0, lay_ints, PyData.depth, depth_ints]
theorem show_ints : ∀ ns : List Int, (∀ n ∈ ns, n.natAbs < 10 ^ 18) → PyData.showableAll (ns.map PyData.int) = true
  | [], _ => rfl
  | n :: ns, h => by
    have ih := show_ints ns fun x hx => h x (List.mem_cons_of_mem _ hx)
    have h1 := h n List.mem_cons_self
    have h2 : n.natAbs.log2 < 1920 := by
      by_cases z : n.natAbs = 0
      · rw [z]
        decide
      · exact (Nat.log2_lt z).mpr (Nat.lt_of_lt_of_le h1 (by decide +kernel))
    simp [PyData.showableAll, PyData.showable, ih, h2]
theorem textFrom_le : ∀ (ts : List Str) (k : Nat) (acc : Str), (textFrom k acc ts).length ≤ acc.length + piled ts
  | [], k, acc => Nat.le_add_right _ _
  | t :: r, k, acc => by
    have ih := textFrom_le r (k + 1) (acc ++ (if k > 0 then ", " else "" : String) ++ t)
    show (textFrom (k + 1) (acc ++ (if k > 0 then ", " else "" : String) ++ t) r).length ≤ _
    rw [strLen_append, strLen_append] at ih
    rw [piled_cons]
    have e : (((if k > 0 then ", " else "" : String) : Str)).length ≤ 2 := by
      split <;> decide +kernel
    omega
theorem listText_le (ts : List Str) : (listText ts).length ≤ piled ts + 2 := by
  unfold listText
  rw [strLen_append]
  have h := textFrom_le ts 0 "["
  have e1 : (("[" : String) : Str).length = 1 := by decide +kernel
  have e2 : (("]" : String) : Str).length = 1 := by decide +kernel
  rw [e1] at h
  rw [e2]
  omega
theorem int_shown {i : Int} (h : i.natAbs < 10 ^ 18) : (PyData.int i).shown.length ≤ 19 := by
  have e := int_text_length_le10 (k := 18) (by decide) h
  show (Str.ofString (toString i)).length ≤ 19
  rw [PySem.ofString_length]
  exact e
theorem piled_ints : ∀ ns : List Int, (∀ n ∈ ns, n.natAbs < 10 ^ 18) → piled (PyData.shownAll (ns.map PyData.int)) ≤ 21 * ns.length
  | [], _ => Nat.le_refl _
  | n :: ns, h => by
    have ih := piled_ints ns fun x hx => h x (List.mem_cons_of_mem _ hx)
    have h1 := int_shown (h n List.mem_cons_self)
    rw [List.map_cons]
    show piled ((PyData.int n).shown :: PyData.shownAll (ns.map PyData.int)) ≤ _
    rw [piled_cons, List.length_cons]
    omega
/-- what repr asks of a list of ints -/
theorem repr_ints {K : PySem.W.Frag} {H : Hp} {a : Addr} {ns : List Int} {Q : VK} (h : SqL K H a (ns.map V.int)) (hr : ∀ n ∈ ns, n.natAbs < 10 ^ 18) (hl : ns.length ≤ 1000) (q : Q (.str (PyData.list (ns.map PyData.int)).shown) H) : rRepr K [.ref a] H Q := by
  refine ⟨_, .list (ns.map PyData.int), rfl, .lst h (dp_ints ns), show_ints ns hr, ?_, ?_, q⟩
  · show PyData.depthAll (ns.map PyData.int) + 1 ≤ 60
    rw [depth_ints]
    decide
  · have h1 := listText_le (PyData.shownAll (ns.map PyData.int))
    have h2 := piled_ints ns hr
    show (listText (PyData.shownAll (ns.map PyData.int))).length ≤ sizeLine
    rw [sizeLine_eq]
    omega
theorem repr_txt {K : PySem.W.Frag} {H : Hp} {z : Str} {Q : VK} (hz : (reprText z).length ≤ sizeLine) (q : Q (.str (PyData.str z).shown) H) : rRepr K [.str z] H Q :=
  ⟨_, .str z, rfl, .str z, rfl, Nat.zero_le _, hz, q⟩
/-! t + u, t[lo:hi] of tuples: some tuple, new or not -/
def rCatB (K : PySem.W.Frag) : R2 := fun x y H Q => ∃ a b xs ys, x = .ref a ∧ y = .ref b ∧ SqT K H a xs ∧ SqT K H b ys ∧ xs.length + ys.length ≤ sizeLine ∧ ∀ p H', Same H H' → SqT K H' p (xs ++ ys) → Q (.ref p) H'
theorem op_catB {X : Cx} : OpR X (binaryOp .Add) (rCatB X.K) := by
  intro pins s σ H x y v u Q I rx ry h
  obtain ⟨a, b, xs, ys, rfl, rfl, ha, hb, hz, q⟩ := h
  refine op_catA pins s σ H _ _ v u Q I rx ry ⟨a, b, xs, ys, rfl, rfl, ha, hb, hz, ?_, ?_, ?_⟩
  · rintro rfl
    exact q b H (Same.refl H) hb
  · rintro _ rfl
    exact q a H (Same.refl H) (by rw [List.append_nil]; exact ha)
  · intro _ _ p hp
    refine q p _ (fun c o e => ?_) (SqT.of upd_same)
    rw [upd_ne (ne_of_none e hp)]
    exact e
end Bb
set_option Elab.async false
set_option linter.all false
set_option maxRecDepth 100000
set_option maxHeartbeats 2000000
namespace Bb
open PySem PySem.Spec PyProof.Rows L2
/-! things of any kind as data, dicts with int keys too; Z: the addresses that may change -/
mutual
inductive Da (Z : Addr → Prop) (H : Hp) : V → PyData → Prop
  | non : Da Z H .non .none
  | bl (b : Bool) : Da Z H (.bl b) (.bool b)
  | int (i : Int) : Da Z H (.int i) (.int i)
  | str (x : Str) : Da Z H (.str x) (.str x)
  | lst {a : Addr} {xs : List V} {ds : List PyData} : H a = some (.lst xs) → ¬ Z a → DaAll Z H xs ds → Da Z H (.ref a) (.list ds)
  | tup {a : Addr} {xs : List V} {ds : List PyData} : H a = some (.tup xs) → ¬ Z a → DaAll Z H xs ds → Da Z H (.ref a) (.tuple ds)
  | d0 {a : Addr} : H a = some (.dK []) → ¬ Z a → Da Z H (.ref a) (.dict [])
  | d1 {a : Addr} {i j : Int} : H a = some (.dK [(Sum.inl i, .int j)]) → ¬ Z a → Da Z H (.ref a) (.dict [(.int i, .int j)])
inductive DaAll (Z : Addr → Prop) (H : Hp) : List V → List PyData → Prop
  | nil : DaAll Z H [] []
  | cons {v : V} {vs : List V} {d : PyData} {ds : List PyData} : Da Z H v d → DaAll Z H vs ds → DaAll Z H (v :: vs) (d :: ds)
end
/-- all stays but what Z names -/
def Keeps (Z : Addr → Prop) (H H' : Hp) : Prop := ∀ b o, H b = some o → (∀ xs, o ≠ .tbl xs) → ¬ Z b → H' b = some o
theorem Keeps.refl {Z : Addr → Prop} {H : Hp} : Keeps Z H H := fun _ _ e _ _ => e
theorem Keeps.trans {Z : Addr → Prop} {H H1 H2 : Hp} (a : Keeps Z H H1) (b : Keeps Z H1 H2) : Keeps Z H H2 := fun c o e t n => b c o (a c o e t n) t n
theorem Keeps.of {Z : Addr → Prop} {H H' : Hp} (s : Same H H') : Keeps Z H H' := fun b o e _ _ => s b o e
theorem Keeps.ext {Z : Addr → Prop} {H H' : Hp} (x : LamX.ExtN H H') : Keeps Z H H' := fun b o e n _ => x b o e n
section
variable {Z Z' : Addr → Prop} {H H' : Hp}
mutual
theorem Da.keep (k : Keeps Z H H') : ∀ (d : PyData) (v : V), Da Z H v d → Da Z H' v d
  | .none, _, h => by
    cases h
    exact .non
  | .bool b, _, h => by
    cases h
    exact .bl b
  | .int i, _, h => by
    cases h
    exact .int i
  | .str x, _, h => by
    cases h
    exact .str x
  | .list ds, _, h => by
    cases h with
    | lst e n a => exact .lst (k _ _ e (fun _ z => by cases z) n) n (DaAll.keep k ds _ a)
  | .tuple ds, _, h => by
    cases h with
    | tup e n a => exact .tup (k _ _ e (fun _ z => by cases z) n) n (DaAll.keep k ds _ a)
  | .dict _, _, h => by
    cases h with
    | d0 e n => exact .d0 (k _ _ e (fun _ z => by cases z) n) n
    | d1 e n => exact .d1 (k _ _ e (fun _ z => by cases z) n) n
theorem DaAll.keep (k : Keeps Z H H') : ∀ (ds : List PyData) (vs : List V), DaAll Z H vs ds → DaAll Z H' vs ds
  | [], _, h => by
    cases h
    exact .nil
  | d :: ds, _, h => by
    cases h with
    | cons a b => exact .cons (Da.keep k d _ a) (DaAll.keep k ds _ b)
end
mutual
/-- other addresses that may change: none of the data's -/
theorem Da.zed (n : ∀ b o, H b = some o → ¬ Z b → ¬ Z' b) : ∀ (d : PyData) (v : V), Da Z H v d → Da Z' H v d
  | .none, _, h => by
    cases h
    exact .non
  | .bool b, _, h => by
    cases h
    exact .bl b
  | .int i, _, h => by
    cases h
    exact .int i
  | .str x, _, h => by
    cases h
    exact .str x
  | .list ds, _, h => by
    cases h with
    | lst e z a => exact .lst e (n _ _ e z) (DaAll.zed n ds _ a)
  | .tuple ds, _, h => by
    cases h with
    | tup e z a => exact .tup e (n _ _ e z) (DaAll.zed n ds _ a)
  | .dict _, _, h => by
    cases h with
    | d0 e z => exact .d0 e (n _ _ e z)
    | d1 e z => exact .d1 e (n _ _ e z)
theorem DaAll.zed (n : ∀ b o, H b = some o → ¬ Z b → ¬ Z' b) : ∀ (ds : List PyData) (vs : List V), DaAll Z H vs ds → DaAll Z' H vs ds
  | [], _, h => by
    cases h
    exact .nil
  | d :: ds, _, h => by
    cases h with
    | cons a b => exact .cons (Da.zed n d _ a) (DaAll.zed n ds _ b)
end
theorem DaAll.len : ∀ {ds : List PyData} {vs : List V}, DaAll Z H vs ds → vs.length = ds.length
  | [], _, h => by
    cases h
    rfl
  | d :: ds, _, h => by
    cases h with
    | cons a b =>
      rw [List.length_cons, List.length_cons, b.len]
theorem DaAll.get : ∀ {ds : List PyData} {vs : List V}, DaAll Z H vs ds → ∀ {i : Nat} {v : V}, vs[i]? = some v → ∃ d, ds[i]? = some d ∧ Da Z H v d
  | [], _, h, i, v, e => by
    cases h
    simp at e
  | d :: ds, _, h, i, v, e => by
    cases h with
    | cons a b =>
      cases i with
      | zero =>
        have e' := Option.some.inj e
        subst e'
        exact ⟨d, rfl, a⟩
      | succ i =>
        obtain ⟨d', h1, h2⟩ := b.get (i := i) (v := v) (by simpa using e)
        exact ⟨d', by simpa using h1, h2⟩
theorem DaAll.app : ∀ {ds es : List PyData} {vs us : List V}, DaAll Z H vs ds → DaAll Z H us es → DaAll Z H (vs ++ us) (ds ++ es)
  | [], _, _, _, h, g => by
    cases h
    exact g
  | d :: ds, _, _, _, h, g => by
    cases h with
    | cons a b => exact .cons a (b.app g)
theorem DaAll.take : ∀ {ds : List PyData} {vs : List V}, DaAll Z H vs ds → ∀ n : Nat, DaAll Z H (vs.take n) (ds.take n)
  | [], _, h, n => by
    cases h
    simp
    exact .nil
  | d :: ds, _, h, n => by
    cases h with
    | cons a b =>
      cases n with
      | zero => exact .nil
      | succ n => exact .cons a (b.take n)
theorem DaAll.drop : ∀ {ds : List PyData} {vs : List V}, DaAll Z H vs ds → ∀ n : Nat, DaAll Z H (vs.drop n) (ds.drop n)
  | [], _, h, n => by
    cases h
    simp
    exact .nil
  | d :: ds, _, h, n => by
    cases h with
    | cons a b =>
      cases n with
      | zero => exact .cons a b
      | succ n => exact b.drop n
theorem DaAll.ints : ∀ ns : List Int, DaAll Z H (ns.map V.int) (ns.map PyData.int)
  | [] => .nil
  | n :: ns => .cons (.int n) (DaAll.ints ns)
end
/-! no list within -/
mutual
def noList : PyData → Bool
  | .list _ => false
  | .tuple ds => noLists ds
  | _ => true
def noLists : List PyData → Bool
  | [] => true
  | d :: ds => noList d && noLists ds
end
section
variable {Z : Addr → Prop} {X : Cx} {pins : List (Addr × Obj)} {σ : L2.St} {H : Hp} {s : Shared}
theorem dict_reads {a : Addr} {kvs : List (Int × Int)} (I : Inv X pins σ H s) (h : H a = some (.dK (kvs.map fun p => (Sum.inl p.1, V.int p.2)))) : ∃ as, Reads s.heap (.ref a) (.dict (kvs.map fun p => (PyData.int p.1, PyData.int p.2))) (a :: as) ∧ as = [] ∧ (a == sysModules) = false := by
  obtain ⟨_, hs, vs, kv, o, es, ep, ho, ex, hd, _, pr, _⟩ := dk_of I.hok h
  have key : ∀ (kvs : List (Int × Int)) (vs : List (Key × Value)) (es : List DictEntry), KV (kvs.map fun p => ((Sum.inl p.1 : Key), V.int p.2)) vs → Pairs (mixKind X.prog X.w) es vs →
      ReadsAll s.heap (es.map (·.key)) ((kvs.map fun p => (PyData.int p.1, PyData.int p.2)).map (·.1)) [] ∧ ReadsAll s.heap (es.map (·.val)) ((kvs.map fun p => (PyData.int p.1, PyData.int p.2)).map (·.2)) [] := by
    intro kvs
    induction kvs with
    | nil =>
      intro vs es h1 h2
      cases h1
      cases h2
      exact ⟨.nil, .nil⟩
    | cons p kvs ih =>
      intro vs es h1 h2
      cases h1 with
      | cons e r =>
        cases h2 with
        | cons k v t =>
          obtain ⟨i1, i2⟩ := ih _ _ r t
          obtain ⟨e1, tk, e2⟩ := e
          dsimp only at e1 e2
          rw [← e1] at k
          have k' : keyIs (Sum.inl p.1) _ = true := k
          rcases keyIs_shape k' with ⟨i, t', q1, q2⟩ | ⟨x, t', q1, q2⟩
          · injection q1 with q1
            subst q1
            refine ⟨?_, ?_⟩
            · rw [List.map_cons, q2]
              exact ReadsAll.cons (as := []) (Reads.int _ _) i1
            · rw [List.map_cons, v, e2]
              exact ReadsAll.cons (as := []) (Reads.int _ _) i2
          · cases q1
  obtain ⟨r1, r2⟩ := key kvs vs es.toList kv pr
  exact ⟨[], Reads.dict ho ex.1 hd r1 r2, rfl, hs⟩
mutual
theorem Da.reads (I : Inv X pins σ H s) : ∀ (d : PyData) (v : V) (u : Value), Da Z H v d → RelV v u → ∃ as, Reads s.heap u d as ∧ (noList d = true → ∀ b ∈ as, (b == sysModules) = false)
  | .none, _, _, h, r => by
    cases h
    cases r
    exact ⟨_, Reads.none, fun _ b hb => by cases hb⟩
  | .bool b, _, _, h, r => by
    cases h
    cases r
    exact ⟨_, Reads.bool b, fun _ b hb => by cases hb⟩
  | .int i, _, _, h, r => by
    cases h
    obtain ⟨t, rfl⟩ := r
    exact ⟨_, Reads.int i t, fun _ b hb => by cases hb⟩
  | .str x, _, _, h, r => by
    cases h
    obtain ⟨t, rfl⟩ := r
    exact ⟨_, Reads.str x t, fun _ b hb => by cases hb⟩
  | .list ds, _, _, h, r => by
    cases h with
    | lst hs _ ha =>
      cases r
      obtain ⟨its, rv, ⟨o, n, ho, hc, _, hd⟩, _⟩ := I.list (SqL.of hs)
      obtain ⟨as, hr, _⟩ := DaAll.reads I ds _ its ha rv
      exact ⟨_, Reads.list ho hc hd hr, fun z => by
        unfold noList at z
        cases z⟩
  | .tuple ds, _, _, h, r => by
    cases h with
    | tup hs _ ha =>
      cases r
      obtain ⟨its, rv, ⟨o, ho, hc, n, hd⟩, _⟩ := I.tuple (SqT.of hs)
      obtain ⟨as, hr, q⟩ := DaAll.reads I ds _ its ha rv
      exact ⟨_, Reads.tuple ho hc hd hr, fun z => q (by unfold noList at z; exact z)⟩
  | .dict _, _, _, h, r => by
    cases h with
    | d0 e _ =>
      cases r
      obtain ⟨as, h1, h2, h3⟩ := dict_reads (kvs := []) I e
      subst h2
      exact ⟨_, h1, fun _ b hb => by
        rw [List.mem_singleton.mp hb]
        exact h3⟩
    | @d1 _ i j e _ =>
      cases r
      obtain ⟨as, h1, h2, h3⟩ := dict_reads (kvs := [(i, j)]) I e
      subst h2
      exact ⟨_, h1, fun _ b hb => by
        rw [List.mem_singleton.mp hb]
        exact h3⟩
theorem DaAll.reads (I : Inv X pins σ H s) : ∀ (ds : List PyData) (vs : List V) (us : List Value), DaAll Z H vs ds → Vals vs us → ∃ as, ReadsAll s.heap us ds as ∧ (noLists ds = true → ∀ b ∈ as, (b == sysModules) = false)
  | [], _, _, h, r => by
    cases h
    cases r
    exact ⟨_, ReadsAll.nil, fun _ b hb => by cases hb⟩
  | d :: ds, _, _, h, r => by
    cases h with
    | cons h1 h2 =>
      cases r with
      | cons r1 r2 =>
        obtain ⟨as, q1, n1⟩ := Da.reads I d _ _ h1 r1
        obtain ⟨bs, q2, n2⟩ := DaAll.reads I ds _ _ h2 r2
        refine ⟨_, ReadsAll.cons q1 q2, fun z b hb => ?_⟩
        unfold noLists at z
        rw [Bool.and_eq_true] at z
        rcases List.mem_append.mp hb with m | m
        · exact n1 z.1 b m
        · exact n2 z.2 b m
end
end
mutual
theorem Da.dp {K : PySem.W.Frag} {Z : Addr → Prop} {H : Hp} : ∀ (d : PyData) (v : V), Da Z H v d → d.hasDict = false → Dp K H v d
  | .none, _, h, _ => by
    cases h
    exact .non
  | .bool b, _, h, _ => by
    cases h
    exact .bl b
  | .int i, _, h, _ => by
    cases h
    exact .int i
  | .str x, _, h, _ => by
    cases h
    exact .str x
  | .list ds, _, h, n => by
    cases h with
    | lst e _ a =>
      unfold PyData.hasDict at n
      exact .lst (SqL.of e) (DaAll.dp ds _ a n)
  | .tuple ds, _, h, n => by
    cases h with
    | tup e _ a =>
      unfold PyData.hasDict at n
      exact .tup (SqT.of e) (DaAll.dp ds _ a n)
  | .dict _, _, _, n => by
    unfold PyData.hasDict at n
    cases n
theorem DaAll.dp {K : PySem.W.Frag} {Z : Addr → Prop} {H : Hp} : ∀ (ds : List PyData) (vs : List V), DaAll Z H vs ds → PyData.hasDictAll ds = false → DpAll K H vs ds
  | [], _, h, _ => by
    cases h
    exact .nil
  | d :: ds, _, h, n => by
    cases h with
    | cons a b =>
      unfold PyData.hasDictAll at n
      rw [Bool.or_eq_false_iff] at n
      exact .cons (Da.dp d _ a n.1) (DaAll.dp ds _ b n.2)
end
/-! repr of any such thing, where no repr is under way -/
def rReprA : List V → Hp → VK → Prop := fun xs H Q => ∃ (Z : Addr → Prop) (x : V) (d : PyData), xs = [x] ∧ Da Z H x d ∧ (d.hasDict = true → noList d = true) ∧ d.showable = true ∧ d.depth ≤ 60 ∧ d.shown.length ≤ sizeLine ∧ Q (.str d.shown) H
theorem call_reprA {X : Cx} (hg : X.A.guards = some []) (hu : X.A.units + 64 < cLine) : CallR X (.builtin "repr") rReprA := by
  intro pins s σ H xs us Q I r h
  obtain ⟨Z, x, d, rfl, hd, hn, hs, hde, hz, q⟩ := h
  obtain ⟨u, rfl, ru⟩ := vals1 r
  obtain ⟨as, rd, no⟩ := Da.reads I d x u hd ru
  have hsm : d.hasDict = true → sysModules ∉ as := fun z m => by
    have q := no (hn z) _ m
    simp at q
  cases hd with
  | non =>
    cases ru
    exact PySem.P.repr_of_none ⟨.str _, H, I.tok _, ⟨_, rfl⟩, q⟩
  | bl b =>
    cases ru
    exact PySem.P.repr_of_bool ⟨.str _, H, I.tok _, ⟨_, rfl⟩, q⟩
  | int i =>
    obtain ⟨t, rfl⟩ := ru
    exact PySem.P.repr_of_int (of_decide_eq_true hs) ⟨.str _, H, I.tok _, ⟨_, rfl⟩, q⟩
  | str z =>
    obtain ⟨t, rfl⟩ := ru
    exact PySem.P.repr_of_str ⟨.str _, H, I.tok _, ⟨_, rfl⟩, q⟩ hz
  | lst h1 _ h2 =>
    cases ru
    exact repr_of_reads' rd hs hsm hg (by omega) (fun _ _ e => e) (fun h' u' tk k => ⟨.str _, H, I.kept k, ⟨_, rfl⟩, q⟩) hz
  | tup h1 _ h2 =>
    cases ru
    exact repr_of_reads' rd hs hsm hg (by omega) (fun _ _ e => e) (fun h' u' tk k => ⟨.str _, H, I.kept k, ⟨_, rfl⟩, q⟩) hz
  | d0 h1 _ =>
    cases ru
    exact repr_of_reads' rd hs hsm hg (by omega) (fun _ _ e => e) (fun h' u' tk k => ⟨.str _, H, I.kept k, ⟨_, rfl⟩, q⟩) hz
  | d1 h1 _ =>
    cases ru
    exact repr_of_reads' rd hs hsm hg (by omega) (fun _ _ e => e) (fun h' u' tk k => ⟨.str _, H, I.kept k, ⟨_, rfl⟩, q⟩) hz
end Bb
set_option Elab.async false
set_option linter.all false
set_option maxRecDepth 100000
set_option maxHeartbeats 2000000
namespace Bb
open PySem PySem.Spec PyProof.Rows L2
open Builtin
/-! {x!r} of any such thing -/
section
variable {X : Cx}
def tFmtA (te : TE) : TE := fun σ H Q => te σ H fun x H1 => ∃ (Z : Addr → Prop) (d : PyData), Da Z H1 x d ∧ (d.hasDict = true → noList d = true) ∧ d.showable = true ∧ d.depth ≤ 60 ∧ d.shown.length ≤ sizeLine ∧ Q (.str d.shown) H1
theorem pe_fmtA {e : Expr} {te : TE} {pos : Pos} (hg : X.A.guards = some []) (hu : X.A.units + 64 < cLine) (he : PE X e te) : PE X (.FormattedValue e 114 none pos) (tFmtA te) := by
  refine ⟨fun pins s σ H Q I h => ?_⟩
  refine wpAny_FormattedValue_repr (thn (he.run pins s σ H _ I h) fun v s1 hv => ?_)
  obtain ⟨x, H1, I1, r1, Z, d, hd, hn, hs, hde, hz, q⟩ := hv
  obtain ⟨as, rd, no⟩ := Da.reads I1 d x v hd r1
  have hsm : d.hasDict = true → sysModules ∉ as := fun z m => by
    have q := no (hn z) _ m
    simp at q
  have fin : ∀ {s2 : Shared} {u : Tok}, Inv X pins σ H1 s2 → Inv X pins σ H1 { s2 with toks := s2.toks + 1 } → wpAny (model X.prog X.w) X.A (formatField (.str d.shown u) Str.empty) (EP X pins σ Q) X.xe s2 := fun {s2 u} I2 I3 =>
    wpAny_formatField_str ⟨.str d.shown, H1, I2, ⟨_, rfl⟩, q⟩ ⟨.str d.shown, H1, I3, ⟨_, rfl⟩, q⟩ hz
  cases hd with
  | non =>
    cases r1
    exact pyReprObj_none (fin (I1.tok _) (I1.tok _))
  | bl b =>
    cases r1
    exact pyReprObj_bool (fin (I1.tok _) (I1.tok _))
  | int i =>
    obtain ⟨t, rfl⟩ := r1
    exact pyReprObj_int (of_decide_eq_true hs) (fin (I1.tok _) (I1.tok _))
  | str z =>
    obtain ⟨t, rfl⟩ := r1
    exact pyReprObj_str (fin (I1.tok _) (I1.tok _)) hz
  | lst h1 _ h2 =>
    cases r1
    exact pyReprObj_of_reads rd hs hsm hg (by omega) (fun _ _ e => e) (fun h' u tk k => fin (I1.kept k) ((I1.kept (t' := tk) k).tok _)) hz
  | tup h1 _ h2 =>
    cases r1
    exact pyReprObj_of_reads rd hs hsm hg (by omega) (fun _ _ e => e) (fun h' u tk k => fin (I1.kept k) ((I1.kept (t' := tk) k).tok _)) hz
  | d0 h1 _ =>
    cases r1
    exact pyReprObj_of_reads rd hs hsm hg (by omega) (fun _ _ e => e) (fun h' u tk k => fin (I1.kept k) ((I1.kept (t' := tk) k).tok _)) hz
  | d1 h1 _ =>
    cases r1
    exact pyReprObj_of_reads rd hs hsm hg (by omega) (fun _ _ e => e) (fun h' u tk k => fin (I1.kept k) ((I1.kept (t' := tk) k).tok _)) hz
/-! a context in which no repr is under way, one level within -/
theorem in1_guards {A : Around} (h : A.guards = some []) : A.in1.guards = some [] := h
/-! repr of an own instance, by its own __repr__ -/
theorem call_reprOwn {CX : CXT} {C f : Addr} {fd : FuncData} {ps : List Str} {sp : Sp} {k : Nat} {E : XK} (F : FnG X.prog X.w X.K X.mg X.base CX k f fd ps sp) (gd : X.A.guards = some []) (hr : Room (k + 1) X.A) (hs : PySem.W.findIn X.K (.ref C) "__repr__" = some (some (.ref f))) (hf : PySem.W.isFn X.K (.ref f) = true)
    (hb : Binds X.K fd ps []) (hx : Passes CX X E) :
    CallR X (.builtin "repr") (fun xs H Q => ∃ a dx fs, xs = [.ref a] ∧ H a = some (.ins C dx fs) ∧ sp [.ref a] H (fun v H' => ∃ z : Str, v = .str z ∧ Q (.str z) H') E) := by
  intro pins s σ H xs us Q I r h
  obtain ⟨a, dx, fs, rfl, ha, hsp⟩ := h
  obtain ⟨u, rfl, ru⟩ := vals1 r
  cases ru
  obtain ⟨mA, J, _⟩ := ins_get I.hok ha
  obtain ⟨od, J, _⟩ := J.look
  have un := hr.units
  refine Calls.call_function_entry PySem.F.kind_repr PySem.F.plain_repr PySem.F.entry_repr (PySem.F.args_repr1 _) ?_
  unfold Builtin.«repr»
  refine wpAny_bind (m := oneArg "repr" _) (wpAny_pure ?_)
  refine wpAny_bind (m := cRoomFor _ _) (wpAny_cRoomFor (by show X.A.units + 1 < cLine; omega) ?_)
  refine wpAny_bind (wpAny_bind (J.type.here ((PySem.W.looks_findIn I.kIn hs).here ?_)))
  refine wpAny_bind (m := callSpecialIfBound? (.ref a) (Str.ofString "__repr__")) (PySem.W.ifBound_K (args := []) I.kIn J hs hf ?_)
  have hl := F.args _ _ _ _ hsp
  have bnd := hb s [.ref a] I.kIn (by simpa using hl)
  rw [List.append_nil] at bnd
  refine wpAny_call (codeAny_mono (F.go X.A.in1 X.stack s H ⟨[.ref a], []⟩ [.ref a] [.ref a] _ E (in1_guards gd) hr.in1 I.env0.in1 bnd (.cons rfl .nil) hsp) ?_)
  rintro (er | fl) s' hq
  · exact hx pins σ H s er s' I hq
  · cases fl with
    | ret w' =>
      obtain ⟨z, H', I', rz, n, rfl, q⟩ := I.after hq
      obtain ⟨t, rfl⟩ := rz
      refine wpAny_bind (wpAny_isInstance (T := "str") (b := true) rfl isSubtype_str_str ?_)
      exact wpAny_pure ⟨_, rfl, .str n, H', I', ⟨_, rfl⟩, q⟩
    | next => exact hq.elim
    | brk => exact hq.elim
    | cont => exact hq.elim
end
end Bb
set_option Elab.async false
set_option linter.all false
set_option maxRecDepth 100000
set_option maxHeartbeats 2000000
namespace Bb
open PySem PySem.Spec PyProof.Rows L2
open Builtin
/-! ==, != of an own instance and any such thing -/
def tyNames : List String := ["NoneType", "bool", "int", "str", "list", "tuple", "dict"]
theorem da_looks {M : Model} {X : Cx} {pins : List (Addr × Obj)} {σ : L2.St} {H : Hp} {s : Shared} {Z : Addr → Prop} {x : V} {d : PyData} {u : Value} (I : Inv X pins σ H s) (h : Da Z H x d) (r : RelV x u) : ∃ n, PySem.W.Looks M s.heap (typeOf u) (.type n) ∧ n ∈ tyNames := by
  have ref : ∀ {a : Addr} {o : Obj} {n : String}, s.heap.get? a = some o → o.cls = .type n → PySem.W.Looks M s.heap (typeOf (.ref a)) (.type n) := fun {a o n} e c A Q E s' k q => wpAny_typeOf (v := .ref a) ⟨o, k _ _ e, c⟩ q
  cases h with
  | non =>
    cases r
    exact ⟨_, PySem.W.Looks.of_pure rfl, by decide⟩
  | bl b =>
    cases r
    exact ⟨_, PySem.W.Looks.of_pure rfl, by decide⟩
  | int i =>
    obtain ⟨t, rfl⟩ := r
    exact ⟨_, PySem.W.Looks.of_pure rfl, by decide⟩
  | str z =>
    obtain ⟨t, rfl⟩ := r
    exact ⟨_, PySem.W.Looks.of_pure rfl, by decide⟩
  | lst e _ _ =>
    cases r
    obtain ⟨its, rv, ⟨o, n, ho, hc, _, hd⟩, _⟩ := I.list (SqL.of e)
    exact ⟨_, ref ho hc, by decide⟩
  | tup e _ _ =>
    cases r
    obtain ⟨its, rv, ⟨o, ho, hc, n, hd⟩, _⟩ := I.tuple (SqT.of e)
    exact ⟨_, ref ho hc, by decide⟩
  | d0 e _ =>
    cases r
    obtain ⟨_, hs, vs, kv, o, es, ep, ho, ex, _⟩ := dk_of I.hok e
    exact ⟨_, ref ho ex.1, by decide⟩
  | d1 e _ =>
    cases r
    obtain ⟨_, hs, vs, kv, o, es, ep, ho, ex, _⟩ := dk_of I.hok e
    exact ⟨_, ref ho ex.1, by decide⟩
/-- a value of a built-in type: data, or a list of anything -/
def Bt (H : Hp) (v : V) : Prop := (∃ (Z : Addr → Prop) (d : PyData), Da Z H v d) ∨ ∃ (a : Addr) (xs : List V), v = .ref a ∧ H a = some (.lst xs)
theorem bt_looks {M : Model} {X : Cx} {pins : List (Addr × Obj)} {σ : L2.St} {H : Hp} {s : Shared} {x : V} {u : Value} (I : Inv X pins σ H s) (h : Bt H x) (r : RelV x u) : ∃ n, PySem.W.Looks M s.heap (typeOf u) (.type n) ∧ n ∈ tyNames := by
  rcases h with ⟨Z, d, h⟩ | ⟨a, xs, rfl, e⟩
  · exact da_looks I h r
  · cases r
    obtain ⟨its, rv, ⟨o, n, ho, hc, _, hd⟩, _⟩ := I.list (SqL.of e)
    exact ⟨_, fun A Q E s' k q => wpAny_typeOf (v := .ref a) ⟨o, k _ _ ho, hc⟩ q, by decide⟩
theorem not_sub {K : PySem.W.Frag} {C : Addr} {n : String} (h : n ∈ tyNames) : PySem.W.subIn K (.type n) (.ref C) = some false := by
  simp only [tyNames, List.mem_cons, List.not_mem_nil, or_false] at h
  rcases h with rfl | rfl | rfl | rfl | rfl | rfl | rfl <;> rfl
theorem not_first {K : PySem.W.Frag} {C : Addr} {n : String} (h : n ∈ tyNames) : PySem.W.notFirst K C (.type n) = true := by
  unfold PySem.W.notFirst
  rw [not_sub h]
  simp
section
variable {X : Cx} {CX : CXT} {C f : Addr} {fd : FuncData} {ps : List Str} {sp : Sp} {k : Nat} {E : XK}
theorem op_eqOwnX (F : FnOk X.prog X.w X.K X.mg X.base CX k f fd ps sp) (hr : Room k X.A) (he : PySem.W.findIn X.K (.ref C) "__eq__" = some (some (.ref f))) (hf : PySem.W.isFn X.K (.ref f) = true)
    (hb : Binds X.K fd ps []) (hx : Passes CX X E) :
    OpR X (compareOp .Eq) (fun x y H Q => ∃ (a dx : Addr) (fs : List (Str × V)), x = .ref a ∧ H a = some (.ins C dx fs) ∧ Bt H y ∧ sp [.ref a, y] H (fun v H' => ∃ t, v = .bl t ∧ Q (.bl t) H') E) := by
  intro pins s σ H x y v u Q I rx ry h
  obtain ⟨a, dx, fs, rfl, ha, hd, hsp⟩ := h
  cases rx
  obtain ⟨mA, J, _⟩ := ins_get I.hok ha
  obtain ⟨od, J, _⟩ := J.look
  obtain ⟨n, lk, hn⟩ := bt_looks (M := model X.prog X.w) I hd ry
  obtain ⟨m, hF⟩ := I.fr
  show wpAny (model X.prog X.w) X.A (richCompare .Eq (.ref a) u) _ _ _
  refine PySem.W.cmp_K (op := .Eq) (tb := .type n) hr.units0 hF I.ok.mod.kin J lk (not_first hn) he hf ?_
  have hl := F.len _ _ _ _ hsp
  have bnd := hb s [.ref a, u] I.kIn (by simpa using hl)
  rw [List.append_nil] at bnd
  refine wpAny_call (codeAny_mono (F.run X.A X.stack s H ⟨[.ref a, u], []⟩ [.ref a, u] [.ref a, y] _ E hr I.env0 bnd (.cons rfl (.cons ry .nil)) hsp) ?_)
  rintro (er | fl) s' hq
  · exact hx pins σ H s er s' I hq
  · cases fl with
    | ret w' =>
      obtain ⟨z, H', I', rz, t, rfl, q⟩ := I.after hq
      cases rz
      exact ⟨.bl t, H', I', rfl, q⟩
    | next => exact hq.elim
    | brk => exact hq.elim
    | cont => exact hq.elim
end
namespace Ne
open PySem.W PySem.Calls
section
variable {prog : Program} {w : World} {A : Around} {E : Value → Shared → Prop} {s : Shared} {K : Frag} {x C f : Addr} {ox : Obj} {od : Option Obj}
theorem obj_neX {v : Value} {tb : Value} {Q : Value → Shared → Prop} (X : K.In s.heap) (I : InstAt s.heap x ox C od) (J : Looks (model prog w) s.heap (typeOf v) tb) (htb : tb ≠ .ref C) (hn1 : subIn K tb (.ref C) = some false) (hu : A.units + 1 < cLine) (he : findIn K (.ref C) "__eq__" = some (some (.ref f))) (hf : isFn K (.ref f) = true)
    (hn : findIn K (.ref C) "__ne__" = some (some (.builtin "object.__ne__"))) (hsub : subIn K (.ref C) (.type "object") = some true)
    (h : wpAny (model prog w) A.in1 (call (.ref f) [.ref x, v]) (fun r s' => ∃ b, r = .bool b ∧ Q (.bool (!b)) s') E s) : wpAny (model prog w) A (compareOp .NotEq (.ref x) v) Q E s := by
  obtain ⟨hp, g, d, tk, os⟩ := s
  have isO : Looks (model prog w) hp (isInstance (.ref x) (.type "object")) true := I.type.andThen (looks_subIn X hsub)
  -- object.__ne__(x, y)
  have slot : wpAny (model prog w) A (call (.builtin "object.__ne__") [.ref x, v]) (fun r s' => ∃ b, r = .bool b ∧ Q (.bool b) s') E ⟨hp, g, d, tk, os⟩ := by
    refine wpAny_call (codeAny_call_builtin (by decide +kernel) F.cmpEntry_ne ?_)
    refine @check_slot (model prog w) _ _ ⟨hp, g, d, tk, os⟩ "object.__ne__" "object" "__ne__" (.ref x) [v] [] _ F.cmpKind_ne F.cmpSplit_ne isO (F.cmpArgs_ne _ _) ?_
    unfold Builtin.«object.__ne__»
    have eqc : ∀ {R : Option Value → Shared → Prop} {E' : Value → Shared → Prop}, wpAny (model prog w) A.in1 (call (.ref f) [.ref x, v]) (fun v => R (some v)) E' ⟨hp, g, d, tk, os⟩ →
        wpAny (model prog w) A.in1 (callSpecialIfBound? (.ref x) (Str.ofString "__eq__") [v]) R E' ⟨hp, g, d, tk, os⟩ := fun z => ifBound_K X I he hf z
    have rest : ∀ (r0 : Value) (s' : Shared), (∃ b, r0 = .bool b ∧ Q (.bool (!b)) s') → wpAny (model prog w) A.in1 (match some r0 with | some Value.notImplemented => ret .notImplemented | none => ret .notImplemented | some r => do ret (.bool (!(← truthy r))))
        (fun fin s' => match fin with
          | .done f => wants (fun v s' => ∃ b, v = Value.bool b ∧ Q (Value.bool b) s') E (.ok f) s'
          | .again c' => c'.quiet = true ∧ codeAny (model prog w) A c' (wants (fun v s' => ∃ b, v = Value.bool b ∧ Q (Value.bool b) s') E) s') (fun e s' => wants (fun v s' => ∃ b, v = Value.bool b ∧ Q (Value.bool b) s') E (.error e) s') s' := by
      rintro v s' ⟨b, rfl, hq⟩
      refine wpAny_bind (wpAny_truthy_bool (wpAny_pure ?_))
      exact ⟨!b, rfl, hq⟩
    repeat (first
      | with_reducible refine wpAny_cRoomFor hu ?_
      | exact wpAny_bind (m := callSpecialIfBound? (.ref x) (Str.ofString "__eq__") [v]) (eqc (wpAny_mono h (fun v s' hv => rest v s' hv) fun _ _ e => e))
      | wp_step)
  have bs : bindSpecial (.builtin "object.__ne__") (.ref x) = pure (.builtin "object.__ne__", [.ref x]) := by
    unfold bindSpecial
    rw [wrap_ty]
    rfl
  have two : wpAny (model prog w) A (callSpecialIfBound? (.ref x) (Str.ofString "__ne__") [v]) (fun r s' => ∃ b, r = some (Value.bool b) ∧ Q (Value.bool b) s') E ⟨hp, g, d, tk, os⟩ := by
    simp only [callSpecialIfBound?, bindSpecialIfBound?]
    refine wpAny_holding (wpAny_bind (wpAny_bind (wpAny_bind (I.type.here ((looks_findIn X hn).here ?_)))))
    refine wpAny_bind (wpAny_askSetting (wpAny_ite ?_))
    have fin : wpAny (model prog w) A (call (.builtin "object.__ne__") ([.ref x] ++ [v]) >>= fun v => pure (some v)) (fun r s' => ∃ b, r = some (Value.bool b) ∧ Q (Value.bool b) s') E ⟨hp, g, d, tk, os⟩ := by
      refine wpAny_bind (wpAny_mono slot ?_ fun _ _ e => e)
      rintro v s' ⟨b, rfl, hq⟩
      exact wpAny_pure ⟨b, rfl, hq⟩
    split
    · rw [bs]
      exact wpAny_bind (wpAny_pure (wpAny_pure (by exact fin)))
    · rw [bs]
      exact wpAny_tryCatch (wpAny_bind (wpAny_pure (wpAny_pure (by exact fin))))
  have one : wpAny (model prog w) A (tryCompare (.ref x) (Str.ofString "__ne__") v) (fun r s' => ∃ v, r = some v ∧ Q v s') E ⟨hp, g, d, tk, os⟩ := by
    unfold tryCompare
    refine wpAny_bind (wpAny_mono two ?_ fun _ _ e => e)
    rintro r s' ⟨b, rfl, hq⟩
    exact wpAny_pure ⟨_, rfl, hq⟩
  show wpAny (model prog w) A (richCompare .NotEq (.ref x) v) Q E _
  unfold richCompare
  simp only [oneThing_ref]
  refine wpAny_holding (wpAny_bind (wpAny_cRoomFor (Nat.lt_of_succ_lt hu) ?_))
  refine wpAny_bind (I.type.here (wpAny_bind (J.here ?_)))
  rw [show (Value.ref C != tb) = true from bne_iff_ne.mpr (Ne.symm htb)]
  simp only [if_true]
  refine wpAny_bind ((looks_subIn X hn1).here ?_)
  simp only [Bool.false_eq_true, if_false]
  refine wpAny_bind (wpAny_mono one ?_ fun _ _ e => e)
  rintro r s' ⟨v, rfl, hq⟩
  exact wpAny_pure hq
end
end Ne
section
variable {X : Cx} {CX : CXT} {C f : Addr} {fd : FuncData} {ps : List Str} {sp : Sp} {k : Nat} {E : XK}
theorem op_neOwnX (F : FnOk X.prog X.w X.K X.mg X.base CX k f fd ps sp) (hr : Room (k + 1) X.A) (he : PySem.W.findIn X.K (.ref C) "__eq__" = some (some (.ref f))) (hf : PySem.W.isFn X.K (.ref f) = true)
    (hn : PySem.W.findIn X.K (.ref C) "__ne__" = some (some (.builtin "object.__ne__"))) (hsub : PySem.W.subIn X.K (.ref C) (.type "object") = some true) (hb : Binds X.K fd ps []) (hx : Passes CX X E) :
    OpR X (compareOp .NotEq) (fun x y H Q => ∃ (a dx : Addr) (fs : List (Str × V)), x = .ref a ∧ H a = some (.ins C dx fs) ∧ Bt H y ∧ sp [.ref a, y] H (fun v H' => ∃ t, v = .bl t ∧ Q (.bl (!t)) H') E) := by
  intro pins s σ H x y v u Q I rx ry h
  obtain ⟨a, dx, fs, rfl, ha, hd, hsp⟩ := h
  cases rx
  obtain ⟨mA, J, _⟩ := ins_get I.hok ha
  obtain ⟨od, J, _⟩ := J.look
  obtain ⟨n, lk, hin⟩ := bt_looks (M := model X.prog X.w) I hd ry
  have un := hr.units
  refine Ne.obj_neX I.kIn J lk (fun z => by cases z) (not_sub hin) (by omega) he hf hn hsub ?_
  have hl := F.len _ _ _ _ hsp
  have bnd := hb s [.ref a, u] I.kIn (by simpa using hl)
  rw [List.append_nil] at bnd
  refine wpAny_call (codeAny_mono (F.run X.A.in1 X.stack s H ⟨[.ref a, u], []⟩ [.ref a, u] [.ref a, y] _ E hr.in1 I.env0.in1 bnd (.cons rfl (.cons ry .nil)) hsp) ?_)
  rintro (er | fl) s' hq
  · exact hx pins σ H s er s' I hq
  · cases fl with
    | ret w' =>
      obtain ⟨z, H', I', rz, t, rfl, q⟩ := I.after hq
      cases rz
      exact ⟨t, rfl, .bl (!t), H', I', rfl, q⟩
    | next => exact hq.elim
    | brk => exact hq.elim
    | cont => exact hq.elim
end
end Bb
set_option Elab.async false
set_option linter.all false
set_option maxRecDepth 100000
set_option maxHeartbeats 2000000
namespace Bb
namespace Co
open PySem PySem.SeqAt
open AutoSeq1 (wpAny_loadPart')
open MeetsSeq MeetsSeq2 MeetsSeq3 SeqRoads2
section
variable {prog : Program} {w : World} {A : Around} {R : Result → Shared → Prop}
/-- list.__contains__ where == may be a def's -/
theorem contains_loopG (l : Addr) (items : Array Value) (x : Value) (I : Nat → Shared → Prop) (hl : ∀ i s, I i s → ∃ n, s.heap.get? l = some { cls := .type "list", data := .seq items n })
    (turn : ∀ i (h : i < items.size) s, I i s → wpAny (model prog w) A.in1 (eqBool items[i] x) (fun r s' => (r = true → R (.ok (.ret (.bool true))) s') ∧ (r = false → I (i + 1) s')) (fun e s' => R (.error e) s') s)
    (fin : ∀ s, I items.size s → R (.ok (.ret (.bool false))) s) (k : Nat) :
    ∀ i : Nat, items.size - i = k → i ≤ items.size → ∀ s, I i s →
      wpAny (model prog w) A.in1 (Builtin.«list.__contains__.loop» ⟨[.ref l, x, rawInt i], []⟩) (GQ.FinOf prog w A R) (fun e s' => R (.error e) s') s := by
  induction k with
  | zero =>
    intro i hk hi s h
    obtain ⟨n, hl1⟩ := hl _ _ h
    have hi' : i = items.size := by omega
    have hR : R (.ok (.ret (.bool false))) s := fin s (hi' ▸ h)
    obtain ⟨hp, g, d, tk, os⟩ := s
    wp_walk using wpAny_loadPart' hl1
    have hi1 : items[((i : Nat) : Int).toNat]? = none := by simp; omega
    rw [hi1]
    wp_walk using wpAny_loadPart' hl1
    exact hR
  | succ k ih =>
    intro i hk hi s h
    obtain ⟨n, hl1⟩ := hl _ _ h
    have hlt : i < items.size := by omega
    have ht := turn i hlt s h
    obtain ⟨hp, g, d, tk, os⟩ := s
    wp_walk using wpAny_loadPart' hl1
    have hi1 : items[((i : Nat) : Int).toNat]? = some items[i] := by simp [hlt]
    have hc : ((i : Int) + 1) = ((i + 1 : Nat) : Int) := by omega
    rw [hi1]
    refine wpAny_bind (wpAny_mono ht (fun r s2 h2 => ?_) fun _ _ x => x)
    cases r with
    | true =>
      have h3 := h2.1 rfl
      obtain ⟨hp2, g2, d2, tk2, os2⟩ := s2
      wp_walk
      exact h3
    | false =>
      have hrec := ih (i + 1) (by omega) (by omega) s2 (h2.2 rfl)
      obtain ⟨hp2, g2, d2, tk2, os2⟩ := s2
      wp_walk
      rw [hc]
      exact ⟨plainId_quiet plain_contains_loop _, codeAny_builtin entry_contains_loop (by
        rw [Around.under_plainId plain_contains_loop _]
        exact hrec)⟩
theorem list_containsG (l : Addr) (items : Array Value) (x : Value) (I : Nat → Shared → Prop) (hl : ∀ i s, I i s → ∃ n, s.heap.get? l = some { cls := .type "list", data := .seq items n })
    (turn : ∀ i (h : i < items.size) s, I i s → wpAny (model prog w) A.in1 (eqBool items[i] x) (fun r s' => (r = true → R (.ok (.ret (.bool true))) s') ∧ (r = false → I (i + 1) s')) (fun e s' => R (.error e) s') s)
    (fin : ∀ s, I items.size s → R (.ok (.ret (.bool false))) s) {s : Shared} (h : I 0 s) :
    wpAny (model prog w) A.in1 (Builtin.«list.__contains__» ⟨[.ref l, x], []⟩) (GQ.FinOf prog w A R) (fun e s' => R (.error e) s') s := by
  obtain ⟨n, hl1⟩ := hl _ _ h
  have hrec := contains_loopG (A := A) (R := R) l items x I hl turn fin _ 0 rfl (Nat.zero_le _) s h
  obtain ⟨hp, g, d, tk, os⟩ := s
  wp_walk using wpAny_loadPart' hl1
  exact ⟨plainId_quiet plain_contains_loop _, codeAny_builtin entry_contains_loop (by
    rw [Around.under_plainId plain_contains_loop _]
    exact hrec)⟩
end
section
variable {prog : Program} {w : World} {A : Around} {E : Value → Shared → Prop} {s : Shared}
theorem in_listG {l : Addr} {items : Array Value} {x : Value} {Q : Value → Shared → Prop} (I : Nat → Shared → Prop) (hl : ∀ i s, I i s → ∃ n, s.heap.get? l = some { cls := .type "list", data := .seq items n })
    (turn : ∀ i (h : i < items.size) s, I i s → wpAny (model prog w) A.in1 (eqBool items[i] x) (fun r s' => (r = true → Q (.bool true) s') ∧ (r = false → I (i + 1) s')) E s)
    (fin : ∀ s, I items.size s → Q (.bool false) s) (h : I 0 s) : wpAny (model prog w) A (compareOp .In x (.ref l)) Q E s := by
  obtain ⟨n, hl1⟩ := hl _ _ h
  show wpAny _ A (do return .bool (← contains (.ref l) x)) Q E s
  refine wpAny_bind (wpAny_contains_slot ⟨_, hl1, rfl⟩ F.slot_list_contains (wpAny_mono (GQ.call_here (Q := fun v s' => ∃ b, v = .bool b ∧ Q (.bool b) s') F.slot_list_contains ⟨_, hl1, rfl⟩ F.entry_list_contains (F.args_list_contains_2 _ _) ?_) (fun v s' hv => ?_) fun _ _ e => e))
  · exact list_containsG (R := wants (fun v s' => ∃ b, v = .bool b ∧ Q (.bool b) s') E) l items x I hl (fun i h s hi => wpAny_mono (turn i h s hi) (fun r s' q => ⟨fun e => ⟨_, rfl, q.1 e⟩, q.2⟩) fun _ _ e => e) (fun s hs => ⟨_, rfl, fin s hs⟩) h
  · obtain ⟨b, rfl, hq⟩ := hv
    exact wpAny_truthy_bool (wpAny_pure hq)
end
end Co
open PySem PySem.Spec PyProof.Rows L2
open Builtin
namespace Ne
open PySem.W PySem.Calls
section
variable {prog : Program} {w : World} {A : Around} {E : Value → Shared → Prop} {s : Shared} {K : Frag} {x C f : Addr} {ox : Obj} {od : Option Obj}
/-- None == an own instance: its own == answers -/
theorem none_eq {Q : Value → Shared → Prop} (X : K.In s.heap) (I : InstAt s.heap x ox C od) (hu : A.units < cLine) (he : findIn K (.ref C) "__eq__" = some (some (.ref f))) (hf : isFn K (.ref f) = true) (hsub : subIn K (.ref C) (.type "NoneType") = some false)
    (h : wpAny (model prog w) A (call (.ref f) [.ref x, .none]) (fun r s' => ∃ b, r = .bool b ∧ Q (.bool b) s') E s) : wpAny (model prog w) A (richCompare .Eq .none (.ref x)) Q E s := by
  have hT : s.TypeIs .none "NoneType" := rfl
  unfold richCompare
  simp only [hT.oneThing_none]
  refine wpAny_holding (wpAny_bind (wpAny_cRoomFor hu ?_))
  refine wpAny_bind (wpAny_typeOf hT (wpAny_bind (I.type.here ?_)))
  rw [show (Value.type "NoneType" != Value.ref C) = true from rfl]
  simp only [if_true]
  refine wpAny_bind ((looks_subIn X hsub).here ?_)
  simp only [Bool.false_eq_true, if_false, Bool.not_false, if_true]
  refine wpAny_bind (m := tryCompare .none _ (.ref x)) (wpAny_tryCompare_declines hT PySem.F.slot_NoneType_eq (call_gives PySem.F.slot_NoneType_eq hT PySem.F.entry_NoneType_eq (PySem.F.args_NoneType_eq_2 _ _) (PySem.SeqAt.NoneType___eq___none_ref_0 x) ?_))
  refine ⟨rfl, ?_⟩
  have one : wpAny (model prog w) A (tryCompare (.ref x) (cmpInfo .Eq).2.2 .none) (fun r s' => ∃ v, r = some v ∧ Q v s') E s := by
    unfold tryCompare
    refine wpAny_bind (ifBound_K X I he hf (wpAny_mono h ?_ fun _ _ e => e))
    rintro v s' ⟨b, rfl, hq⟩
    exact wpAny_pure ⟨_, rfl, hq⟩
  refine wpAny_bind (wpAny_mono one ?_ fun _ _ e => e)
  rintro r s' ⟨v, rfl, hq⟩
  exact wpAny_pure hq
end
end Ne
section
variable {X : Cx} {CX : CXT} {C f : Addr} {fd : FuncData} {ps : List Str} {sp : Sp} {k : Nat} {E : XK}
/-- x in [None, y], x and y own instances -/
theorem op_inOwn (F : FnOk X.prog X.w X.K X.mg X.base CX k f fd ps sp) (hr : Room (k + 1) X.A) (he : PySem.W.findIn X.K (.ref C) "__eq__" = some (some (.ref f))) (hf : PySem.W.isFn X.K (.ref f) = true)
    (hno : PySem.W.subIn X.K (.ref C) (.type "NoneType") = some false) (hb : Binds X.K fd ps []) (hx : Passes CX X E) :
    OpR X (compareOp .In) (fun x y H Q => ∃ (a b l dx dy : Addr) (fs gs : List (Str × V)), x = .ref a ∧ y = .ref l ∧ H l = some (.lst [.non, .ref b]) ∧ a ≠ b ∧ H a = some (.ins C dx fs) ∧ H b = some (.ins C dy gs) ∧
      sp [.ref a, .non] H (fun v H' => v = .bl false ∧ H' = H) E ∧ sp [.ref b, .ref a] H (fun v H' => v = .bl true ∧ Q (.bl true) H') E) := by
  intro pins s σ H x y v u Q I rx ry h
  obtain ⟨a, b, l, dx, dy, fs, gs, rfl, rfl, hl, hab, ha, hbb, h1, h2⟩ := h
  cases rx
  cases ry
  have its : ∀ s' : Shared, Inv X pins σ H s' → ∃ n, s'.heap.get? l = some { cls := .type "list", data := .seq #[.none, .ref b] n } := by
    intro s' I'
    obtain ⟨_, it, n, r, _, e⟩ := I'.lstM hl
    cases r with
    | cons r1 r2 =>
      cases r2 with
      | cons r3 r4 =>
        cases r4
        cases r1
        cases r3
        exact ⟨n, e⟩
  have un := hr.units0
  have un2 := hr.units
  refine Co.in_listG (items := #[.none, .ref b]) (fun i s' => i < 2 ∧ Inv X pins σ H s') (fun i s' q => its s' q.2) ?_ (fun s' q => absurd q.1 (Nat.lt_irrefl 2)) ⟨by decide, I⟩
  intro i hi s' hs'
  have I' := hs'.2
  obtain ⟨mA, J, _⟩ := ins_get I'.hok ha
  obtain ⟨od, J, _⟩ := J.look
  obtain ⟨mB, J2, _⟩ := ins_get I'.hok hbb
  obtain ⟨od2, J2, _⟩ := J2.look
  have two : i = 0 ∨ i = 1 := by
    have := hs'.1
    omega
  rcases two with rfl | rfl
  · show wpAny (model X.prog X.w) X.A.in1 (eqBool .none (.ref a)) _ _ s'
    unfold eqBool
    refine wpAny_holding ?_
    refine wpAny_ite_split (fun q => by cases q) (fun _ => ?_)
    refine wpAny_bind (wpAny_mono (Ne.none_eq (Q := fun v s2 => v = .bool false ∧ Inv X pins σ H s2) I'.kIn J (by show X.A.units + 1 < cLine; omega) he hf hno ?_) ?_ fun _ _ e => e)
    · have hl1 := F.len _ _ _ _ h1
      have bnd := hb s' [.ref a, .none] I'.kIn (by simpa using hl1)
      rw [List.append_nil] at bnd
      refine wpAny_call (codeAny_mono (F.run X.A.in1 X.stack s' H ⟨[.ref a, .none], []⟩ [.ref a, .none] [.ref a, .non] _ E hr.in1 I'.env0.in1 bnd (.cons rfl (.cons rfl .nil)) h1) ?_)
      rintro (er | fl) s2 hq
      · exact hx pins σ H s' er s2 I' hq
      · cases fl with
        | ret w' =>
          obtain ⟨z, H2, I2, rz, rfl, rfl⟩ := I'.after hq
          cases rz
          exact ⟨false, rfl, rfl, I2⟩
        | next => exact hq.elim
        | brk => exact hq.elim
        | cont => exact hq.elim
    · rintro v s2 ⟨rfl, I2⟩
      exact wpAny_truthy_bool ⟨fun e => (by cases e), fun _ => ⟨by decide, I2⟩⟩
  · show wpAny (model X.prog X.w) X.A.in1 (eqBool (.ref b) (.ref a)) _ _ s'
    refine GQ.eqBool_refG (Ne.symm hab) ?_
    obtain ⟨m, hF⟩ := I'.fr
    refine PySem.W.cmp_K (op := .Eq) (tb := .ref C) (by show X.A.units + 1 < cLine; omega) hF I'.ok.mod.kin J2 J.type (by simp [PySem.W.notFirst]) he hf ?_
    have hl1 := F.len _ _ _ _ h2
    have bnd := hb s' [.ref b, .ref a] I'.kIn (by simpa using hl1)
    rw [List.append_nil] at bnd
    refine wpAny_call (codeAny_mono (F.run X.A.in1 X.stack s' H ⟨[.ref b, .ref a], []⟩ [.ref b, .ref a] [.ref b, .ref a] _ E hr.in1 I'.env0.in1 bnd (.cons rfl (.cons rfl .nil)) h2) ?_)
    rintro (er | fl) s2 hq
    · exact hx pins σ H s' er s2 I' hq
    · cases fl with
      | ret w' =>
        obtain ⟨z, H2, I2, rz, rfl, q⟩ := I'.after hq
        cases rz
        exact ⟨true, rfl, fun _ => ⟨.bl true, H2, I2, rfl, q⟩, fun e => by cases e⟩
      | next => exact hq.elim
      | brk => exact hq.elim
      | cont => exact hq.elim
end
end Bb
set_option Elab.async false
set_option linter.all false
set_option maxRecDepth 100000
set_option maxHeartbeats 2000000
namespace L2
open PySem PySem.Spec PyProof.Rows
open HT
section
variable {prog : Program} {w : World} {A : Around} {E : Value → Shared → Prop} {s : Shared}
theorem sliceApplied_rev {sl : Addr} {vl vu vs : Value} {n : Nat} {Q : Int × Int × Nat → Shared → Prop} (hs : s.heap.IsSliceOf sl vl vu vs) (pl : IsPart vl none) (pu : IsPart vu none) (ps : IsPart vs (some (-1)))
    (h : Q ((n : Int) - 1, -1, n) s) : wpAny (model prog w) A (Builtin.Slice.sliceApplied (.ref sl) (pure (n : Int))) Q E s := by
  obtain ⟨os, hos, hcs, hds⟩ := id hs
  unfold Builtin.Slice.sliceApplied Builtin.Slice.sliceFields
  refine wpAny_bind (wpAny_bind (wpAny_field hos hds (x := vl) rfl (wpAny_bind (wpAny_field hos hds (x := vu) rfl (wpAny_bind (wpAny_field hos hds (x := vs) rfl (wpAny_pure ?_)))))))
  refine wpAny_bind (slicePart_ ps ?_)
  show wpAny _ _ (if ((-1 : Int) == 0) = true then _ else _) _ _ s
  rw [if_neg (by decide)]
  refine wpAny_bind (slicePart_ pl (wpAny_bind (slicePart_ pu (wpAny_bind (wpAny_pure ?_)))))
  have e1 : Builtin.Slice.sliceAdjust none none (-1) (n : Int) = ((n : Int) - 1, -1) := by
    unfold Builtin.Slice.sliceAdjust
    simp
  show wpAny _ _ (match Builtin.Slice.sliceAdjust none none (-1) (n : Int) with | (lo, hi) => pure (lo, (-1 : Int), Builtin.Slice.slicePlaces lo hi (-1))) _ _ s
  rw [e1]
  have e2 : Builtin.Slice.slicePlaces ((n : Int) - 1) (-1) (-1) = n := by
    unfold Builtin.Slice.slicePlaces
    have h1 : ¬ ((-1 : Int) > 0) := by decide
    simp only [h1, if_false]
    split
    · rw [show (- -1 : Int) = 1 by decide, Int.ediv_one]
      omega
    · omega
  show wpAny _ _ (pure ((n : Int) - 1, (-1 : Int), Builtin.Slice.slicePlaces ((n : Int) - 1) (-1) (-1))) _ _ s
  rw [e2]
  exact wpAny_pure h
theorem pick_rev (xs : Array Value) : ((List.range xs.size).filterMap fun (m : Nat) => xs[((xs.size : Int) - 1 + (m : Int) * (-1)).toNat]?).toArray = xs.toList.reverse.toArray := by
  have e : (fun (m : Nat) => xs[((xs.size : Int) - 1 + (m : Int) * (-1)).toNat]?) = fun m => xs[xs.size - 1 - m]? := by
    funext m
    have : ((xs.size : Int) - 1 + (m : Int) * (-1)).toNat = xs.size - 1 - m := by omega
    rw [this]
  rw [e]
  have h2 : (List.range xs.size).filterMap (fun m => xs[xs.size - 1 - m]?) = ((List.range xs.size).map (fun k => xs.size - 1 - k)).filterMap (xs[·]?) := by
    rw [List.filterMap_map]
    rfl
  rw [h2, PySem.W.krv_range, List.filterMap_reverse, PySem.W.krv_all]
theorem getItem_tuple_rev {t sl : Addr} {items : Array Value} {vl vu vs : Value} {Q : Value → Shared → Prop} (ht : IsTup s.heap t items) (hs : s.heap.IsSliceOf sl vl vu vs) (pl : IsPart vl none) (pu : IsPart vu none) (ps : IsPart vs (some (-1)))
    (h : Q (.ref s.heap.objs.size) { s with heap := s.heap.push { cls := .type "tuple", data := .seq items.toList.reverse.toArray } })
    (hsz : items.size ≤ sizeLine) : wpAny (model prog w) A (getItem (.ref t) (.ref sl)) Q E s := by
  have htake : sizeOk (.seq items.toList.reverse.toArray) := by
    show items.toList.reverse.toArray.size ≤ sizeLine
    rw [List.size_toArray, List.length_reverse, Array.length_toList]
    exact hsz
  obtain ⟨os, hos, hcs, hds⟩ := id hs
  have hTs : s.TypeIs (.ref sl) "slice" := ⟨os, hos, hcs⟩
  unfold getItem
  try with_reducible refine wpAny_holding ?_
  first | refine wpAny_bind (wpAny_pure ?_) | skip
  refine wpAny_bind (wpAny_sequenceKey ht.typeIs (by decide) ?_)
  refine wpAny_bind (wpAny_callSpecial?_slot (name := Str.ofString "__getitem__") ht.typeIs PyProof.Rows.slot_tuple_getitem
    (wpAny_call_entry PyProof.Rows.slot_tuple_getitem ht.typeIs entry_tuple_getitem ?_ (args_tuple_getitem _ _)))
  show wpAny _ _ (Builtin.Tuple.tupleItemsOf (.ref t) >>= _) _ _ s
  refine wpAny_bind (tupleItemsOf_ ht ?_)
  refine wpAny_bind (wpAny_typeOf hTs ?_)
  rw [if_pos (by decide)]
  refine wpAny_bind (sliceApplied_rev hs pl pu ps ?_)
  have hno : ¬ (((items.size : Int) - 1 == 0 && (-1 : Int) == 1 && (items.size) == items.size) = true) := by
    intro q
    rw [Bool.and_eq_true, Bool.and_eq_true] at q
    have q1 := q.1.2
    exact absurd q1 (by decide)
  show wpAny _ _ (if ((items.size : Int) - 1 == 0 && (-1 : Int) == 1 && (items.size) == items.size) = true then _ else _) _ _ s
  rw [if_neg hno, pick_rev]
  first
    | exact wpAny_bind (m := Builtin.Tuple.tupleExact _) (wpAny_newObj_type (wpAny_pure ⟨_, rfl, wpAny_pure h⟩) htake)
    | exact wpAny_bind (m := Builtin.Tuple.tupleExact _) (wpAny_newObj_type (wpAny_bind (wpAny_pure (wpAny_pure ⟨_, rfl, wpAny_pure h⟩))) htake)
    | exact wpAny_bind (wpAny_bind (m := Builtin.Tuple.tupleExact _) (wpAny_newObj_type (wpAny_pure (wpAny_pure ⟨_, rfl, wpAny_pure h⟩)) htake))
    | exact wpAny_bind (wpAny_bind (m := Builtin.Tuple.tupleExact _) (wpAny_newObj_type (wpAny_pure ⟨_, rfl, wpAny_pure h⟩) htake))
end
end L2
namespace Bb
open PySem PySem.Spec PyProof.Rows L2
section
variable {X : Cx}
/-! t[::-1] of a tuple -/
def tRevT (te : TE) : TE := fun σ H Q => te σ H fun x H1 => ∃ a xs, x = .ref a ∧ H1 a = some (.tup xs) ∧ ∀ p, H1 p = none → Q (.ref p) (upd H1 p (.tup xs.reverse))
theorem pe_revT {e : Expr} {te : TE} {k : Nat} {p1 p2 p3 pos : Pos} (he : PE X e te) : PE X (.Subscript e (.Slice none none (some (.UnaryOp .USub (.Constant (.int 1) k p1) p2)) p3) pos) (tRevT te) := by
  refine ⟨fun pins s σ H Q I h => ?_⟩
  refine Subscript_ (thn (he.run pins s σ H _ I h) fun v s1 ⟨x, H1, I1, r1, q1⟩ => ?_)
  obtain ⟨a, xs, ex, hx, q⟩ := q1
  subst ex
  cases r1
  have hst : PO X (some (.UnaryOp .USub (.Constant (.int 1) k p1) p2)) (tPart (tUn (rU fun i => .int (-i)) (tC (.int 1)))) := po_some (pe_un un_neg pe_int)
  refine wpAny_Slice (thn (po_none.run pins s1 σ H1 (fun o H2 => o = none ∧ H2 = H1) I1 ⟨rfl, rfl⟩) fun vl s2 ⟨l, H2, I2, pl, el, e2⟩ => ?_)
  subst el e2
  refine thn (po_none.run pins s2 σ H2 (fun o H3 => o = none ∧ H3 = H2) I2 ⟨rfl, rfl⟩) fun vu s3 ⟨u, H3, I3, pu, eu, e3⟩ => ?_
  subst eu e3
  refine thn (hst.run pins s3 σ H3 (fun o H4 => o = some (-1) ∧ H4 = H3) I3 ⟨1, rfl, -1, rfl, rfl, rfl⟩) fun vs s4 ⟨o, H4, I4, ps, eo, e4⟩ => ?_
  subst eo e4
  have I5 : Inv X pins σ H4 { s4 with heap := s4.heap.push { cls := .type "slice", data := .fields #[vl, vu, vs] } } := I4.kept (t' := s4.toks) fun b ob q => Heap.get?_push_of_some _ q
  obtain ⟨its, r, ht, hz⟩ := I5.tuple (SqT.of hx)
  have hlen := r.length
  show wpAny (model X.prog X.w) X.A (subscriptTail e (.Slice none none (some (.UnaryOp .USub (.Constant (.int 1) k p1) p2)) p3) (.ref a) (.ref s4.heap.objs.size)) (EP X pins σ Q) X.xe { s4 with heap := s4.heap.push { cls := .type "slice", data := .fields #[vl, vu, vs] } }
  refine tail_any (ops := [.ref a, .ref s4.heap.objs.size]) ht.typeIs (PyProof.Rows.slot_tuple_getitem.lookup) ?_ (by with_unfolding_all rfl)
  refine getItem_tuple_rev ht (Heap.IsSliceOf.new _ vl vu vs) pl pu ps ?_ (by rw [List.size_toArray]; omega)
  refine ⟨.ref _, _, I5.laid (t' := s4.toks) (o := .tup xs.reverse) (fun b ob q => Heap.get?_push_of_some _ q) (Nat.le_refl _) ?_, rfl, q _ (I5.hok.fresh (Nat.le_refl _))⟩
  exact ⟨by rw [List.length_reverse]; exact hz, its.reverse, r.reverse, ⟨_, Heap.get?_push_size _ rfl, rfl, 0, by rfl⟩⟩
/-! set(t) of a tuple of ints -/
theorem call_setT (hc : X.calm = true) : CallR X (.type "set") (fun xs H Q => ∃ (l : Addr) (ns : List Int), xs = [.ref l] ∧ SqT X.K H l (ns.map V.int) ∧ ns.length ≤ 60 ∧ ∀ p n, H p = none → n ≤ ns.length → Q (.ref p) (upd H p (SetO X.w p (fun k => decide (k ∈ ns)) n))) := by
  intro pins s σ H xs us Q I r h
  obtain ⟨l, ns, rfl, hq, hn, q⟩ := h
  obtain ⟨u, rfl, ru⟩ := vals1 r
  cases ru
  obtain ⟨its, rv, pt, hz⟩ := I.tuple hq
  have hi : IntsAre its.toArray.toList ns := ints_of_vals rv
  refine call_set_tupI ns (I.ok.hd hc) (show s.heap.IsTuple l its.toArray from pt) hi (by unfold scanBound; omega) fun h' tk c R1 hcn k => ?_
  exact ⟨.ref s.heap.objs.size, _, I.laid (t' := tk) k (Nat.le_refl _) (setO_new R1), rfl, q _ c (I.hok.fresh (Nat.le_refl _)) hcn⟩
end
end Bb
set_option Elab.async false
set_option linter.all false
set_option maxRecDepth 100000
set_option maxHeartbeats 2000000
namespace Bb
open PySem PySem.Spec PyProof.Rows L2
/-! kinds of data -/
def dInt : PyData → Bool
  | .int _ => true
  | .bool _ => true
  | _ => false
def dBool : PyData → Bool
  | .bool _ => true
  | _ => false
def dTup : PyData → Bool
  | .tuple _ => true
  | _ => false
def dStr : PyData → Bool
  | .str _ => true
  | _ => false
def dList : PyData → Bool
  | .list _ => true
  | _ => false
theorem kitE {a b : String} {r r' : Bool} (h : kitB a b = some r) (e : r = r') : kitB a b = some r' := by
  rw [← e]
  exact h
structure TyD (K : PySem.W.Frag) (H : Hp) (x : V) (d : PyData) (n : String) : Prop where
  ty : TyX K H x (.type n)
  i : kitB n "int" = some (dInt d)
  b : kitB n "bool" = some (dBool d)
  t : kitB n "tuple" = some (dTup d)
  s : kitB n "str" = some (dStr d)
  l : kitB n "list" = some (dList d)
theorem Da.ty {K : PySem.W.Frag} {Z : Addr → Prop} {H : Hp} {x : V} {d : PyData} (h : Da Z H x d) : ∃ n, TyD K H x d n := by
  cases h with
  | non => exact ⟨_, .base .non, kitE (r := false) (by decide +kernel) rfl, kitE (r := false) (by decide +kernel) rfl, kitE (r := false) (by decide +kernel) rfl, kitE (r := false) (by decide +kernel) rfl, kitE (r := false) (by decide +kernel) rfl⟩
  | bl b => exact ⟨_, .base (.bl b), kitE (r := true) (by decide +kernel) rfl, kitE (r := true) (by decide +kernel) rfl, kitE (r := false) (by decide +kernel) rfl, kitE (r := false) (by decide +kernel) rfl, kitE (r := false) (by decide +kernel) rfl⟩
  | int i => exact ⟨_, .base (.int i), kitE (r := true) (by decide +kernel) rfl, kitE (r := false) (by decide +kernel) rfl, kitE (r := false) (by decide +kernel) rfl, kitE (r := false) (by decide +kernel) rfl, kitE (r := false) (by decide +kernel) rfl⟩
  | str z => exact ⟨_, .base (.str z), kitE (r := false) (by decide +kernel) rfl, kitE (r := false) (by decide +kernel) rfl, kitE (r := false) (by decide +kernel) rfl, kitE (r := true) (by decide +kernel) rfl, kitE (r := false) (by decide +kernel) rfl⟩
  | lst h _ _ => exact ⟨_, .base (.lst h), kitE (r := false) (by decide +kernel) rfl, kitE (r := false) (by decide +kernel) rfl, kitE (r := false) (by decide +kernel) rfl, kitE (r := false) (by decide +kernel) rfl, kitE (r := true) (by decide +kernel) rfl⟩
  | tup h _ _ => exact ⟨_, .base (.tup h), kitE (r := false) (by decide +kernel) rfl, kitE (r := false) (by decide +kernel) rfl, kitE (r := true) (by decide +kernel) rfl, kitE (r := false) (by decide +kernel) rfl, kitE (r := false) (by decide +kernel) rfl⟩
  | d0 h _ => exact ⟨_, .base (.dK h), kitE (r := false) (by decide +kernel) rfl, kitE (r := false) (by decide +kernel) rfl, kitE (r := false) (by decide +kernel) rfl, kitE (r := false) (by decide +kernel) rfl, kitE (r := false) (by decide +kernel) rfl⟩
  | d1 h _ => exact ⟨_, .base (.dK h), kitE (r := false) (by decide +kernel) rfl, kitE (r := false) (by decide +kernel) rfl, kitE (r := false) (by decide +kernel) rfl, kitE (r := false) (by decide +kernel) rfl, kitE (r := false) (by decide +kernel) rfl⟩
/-! slices and sums of tuples: where they are new, where not -/
theorem same_up {H : Hp} {p : Addr} {o : HO} (h : H p = none) : Same H (upd H p o) := fun b u e => by
  rw [upd_ne (ne_of_none e h)]
  exact e
section
variable {X : Cx}
def rSlC : V → Option Int → Option Int → Hp → VK → Prop := fun x lo hi H Q => ∃ a xs, x = .ref a ∧ H a = some (.tup xs) ∧ ∀ p H', Same H H' → H' p = some (.tup (cutV xs lo hi)) → (p = a ∨ H p = none) → Q (.ref p) H'
theorem cut_whole {xs : List V} {lo hi : Option Int} (h : HT.sIx xs.length 0 lo = 0 ∧ HT.sIx xs.length xs.length hi = xs.length) : cutV xs lo hi = xs := by
  unfold cutV
  rw [h.1, h.2]
  simp
theorem sl_tupC : SlR X rSlC := by
  intro pins s σ H x v vl vu lo hi sl Q I rx hs pl pu h
  obtain ⟨a, xs, rfl, hx, q⟩ := h
  refine sl_tupA pins s σ H _ v vl vu lo hi sl Q I rx hs pl pu ⟨a, xs, rfl, SqT.of hx, fun wh => ?_, fun _ p hp => ?_⟩
  · exact q a H (Same.refl H) (by rw [cut_whole wh]; exact hx) (.inl rfl)
  · exact q p _ (same_up hp) upd_same (.inr hp)
def rCatC : R2 := fun x y H Q => ∃ a b xs ys, x = .ref a ∧ y = .ref b ∧ H a = some (.tup xs) ∧ H b = some (.tup ys) ∧ xs.length + ys.length ≤ sizeLine ∧ ∀ p H', Same H H' → H' p = some (.tup (xs ++ ys)) → (p = a ∨ p = b ∨ H p = none) → Q (.ref p) H'
theorem op_catC : OpR X (binaryOp .Add) rCatC := by
  intro pins s σ H x y v u Q I rx ry h
  obtain ⟨a, b, xs, ys, rfl, rfl, ha, hb, hz, q⟩ := h
  refine op_catA pins s σ H _ _ v u Q I rx ry ⟨a, b, xs, ys, rfl, rfl, SqT.of ha, SqT.of hb, hz, ?_, ?_, ?_⟩
  · rintro rfl
    exact q b H (Same.refl H) hb (.inr (.inl rfl))
  · rintro _ rfl
    exact q a H (Same.refl H) (by rw [List.append_nil]; exact ha) (.inl rfl)
  · intro _ _ p hp
    exact q p _ (same_up hp) upd_same (.inr (.inr hp))
end
theorem cut_from (xs : List V) (k : Nat) : cutV xs (some (k : Int)) none = xs.drop k := by
  unfold cutV
  rw [HT.sIx_nat, HT.sIx_none]
  by_cases h : k ≤ xs.length
  · rw [Nat.min_eq_left h, List.take_of_length_le (by simp)]
  · rw [Nat.min_eq_right (by omega), List.drop_of_length_le (Nat.le_refl _), List.drop_of_length_le (by omega)]
    simp
theorem cut_to (xs : List V) (k : Nat) : cutV xs none (some (k : Int)) = xs.take k := by
  unfold cutV
  rw [HT.sIx_nat, HT.sIx_none]
  by_cases h : k ≤ xs.length
  · rw [Nat.min_eq_left h]
    simp
  · rw [Nat.min_eq_right (by omega), List.take_of_length_le (show xs.length ≤ k by omega)]
    simp
/-- what the laws' things are: small enough to be shown -/
structure Sm (d : PyData) : Prop where
  sh : d.showable = true
  dp : d.depth ≤ 4
  ln : d.shown.length ≤ 200
  nl : d.hasDict = true → noList d = true
  ly : ∀ ds, d = .tuple ds → PyData.canLayAll0 ds = true
theorem Sm.int {i : Int} (h : i.natAbs < 10 ^ 40) : Sm (.int i) := by
  refine ⟨?_, Nat.zero_le _, ?_, fun z => (by cases z), fun ds z => (by cases z)⟩
  · show decide (i.natAbs.log2 < 1920) = true
    apply decide_eq_true
    by_cases z : i.natAbs = 0
    · rw [z]
      decide
    · exact (Nat.log2_lt z).mpr (Nat.lt_of_lt_of_le h (by decide +kernel))
  · have e := int_text_length_le10 (k := 40) (by decide) h
    show (Str.ofString (toString i)).length ≤ 200
    rw [PySem.ofString_length]
    omega
theorem Sm.bl (b : Bool) : Sm (.bool b) := by
  refine ⟨rfl, Nat.zero_le _, ?_, fun z => (by cases z), fun ds z => (by cases z)⟩
  cases b <;> decide +kernel
theorem Sm.non : Sm .none := ⟨rfl, Nat.zero_le _, by decide +kernel, fun z => (by cases z), fun ds z => (by cases z)⟩
theorem tupleText_le (ts : List Str) : (tupleText ts).length ≤ piled ts + 3 := by
  unfold tupleText
  rw [strLen_append, strLen_append]
  have e1 : (("(" : String) : Str).length = 1 := by decide +kernel
  have e2 : (((if ts.length == 1 then ",)" else ")" : String) : Str)).length ≤ 2 := by
    split <;> decide +kernel
  rw [e1]
  by_cases h : ts = []
  · subst h
    have e3 : (Str.join ", " []).length = 0 := by decide +kernel
    omega
  · have := join_length_add ts h
    omega
theorem Sm.ints {ns : List Int} (hr : ∀ n ∈ ns, n.natAbs < 10 ^ 18) (hl : ns.length ≤ 8) : Sm (.tuple (ns.map PyData.int)) := by
  have nd : ∀ ns : List Int, PyData.hasDictAll (ns.map PyData.int) = false := by
    intro ns
    induction ns with
    | nil => rfl
    | cons n ns ih =>
      show (PyData.hasDict (.int n) || PyData.hasDictAll (ns.map PyData.int)) = false
      rw [ih]
      rfl
  refine ⟨show_ints ns hr, ?_, ?_, fun z => ?_, fun ds z => ?_⟩
  · show PyData.depthAll (ns.map PyData.int) + 1 ≤ 4
    rw [depth_ints]
    decide
  · have h1 := tupleText_le (PyData.shownAll (ns.map PyData.int))
    have h2 := piled_ints ns hr
    show (tupleText (PyData.shownAll (ns.map PyData.int))).length ≤ 200
    omega
  · have z2 : PyData.hasDictAll (ns.map PyData.int) = true := z
    rw [nd] at z2
    cases z2
  · injection z with z
    rw [← z]
    exact lay_ints ns
end Bb
set_option Elab.async false
set_option linter.all false
set_option maxRecDepth 100000
set_option maxHeartbeats 2000000
namespace Bb
open PySem PySem.Spec PyProof.Rows L2
/-! min, max of a tuple of ints -/
section
variable {prog : Program} {w : World} {A : Around} {E : Value → Shared → Prop} {s : Shared} {l : Addr} {its : List Value} {ns : List Int} {Q : Value → Shared → Prop} {xs : Array (Int × Tok)}
theorem iter_intTup {Q : Value → Shared → Prop} (hl : s.heap.IsTuple l (intItems xs))
    (h : ∀ s₂ : Shared, s₂ = { s with heap := s.heap.push { cls := .type "tuple_iterator", data := .fields #[.ref l, .int 0 0] } } →
      (s₂.heap.IsTupleIter s.heap.objs.size l 0 ∧ s₂.heap.IsTuple l (intItems xs)) → (∀ b ∈ [s.heap.objs.size, l], b < s₂.heap.objs.size) → l ≠ s.heap.objs.size → Q (.ref s.heap.objs.size) s₂) :
    wpAny (model prog w) A (pyIter (.ref l)) Q E s := by
  have hlt : l < s.heap.objs.size := by
    obtain ⟨_, e, _⟩ := hl
    exact Heap.lt_size e
  refine wpAny_pyIter_tuple hl (h _ rfl ⟨⟨_, Heap.get?_push_size _ rfl, rfl, rfl⟩, hl.push _⟩ (fun b hb => ?_) (Nat.ne_of_lt hlt))
  show b < (s.heap.push _).objs.size
  rw [Heap.size_push]
  rcases List.mem_cons.mp hb with rfl | hb
  · exact Nat.lt_succ_self _
  · rcases List.mem_cons.mp hb with rfl | hb
    · exact Nat.lt_succ_of_lt hlt
    · cases hb
theorem old_keptT {h' : Heap} (hk : ∀ b o, b ∉ [s.heap.objs.size] → (s.heap.push { cls := .type "tuple_iterator", data := .fields #[.ref l, .int 0 0] }).get? b = some o → h'.get? b = some o) :
    ∀ b o, s.heap.get? b = some o → h'.get? b = some o := fun b o e => by
  refine hk b o (fun hm => ?_) (Heap.get?_push_of_some _ e)
  have := Heap.lt_size e
  have z : b = s.heap.objs.size := by simpa using hm
  exact absurd z (Nat.ne_of_lt this)
theorem min_intTup (hh : A.handled = none) (hl : s.heap.IsTuple l (intItems xs)) (hne : 0 < xs.size)
    (h : ∀ v h' tk, (intItems xs)[argBest (fun i j => decide (numAt xs i < numAt xs j)) (xs.size - 1)]? = some v → (∀ b o, s.heap.get? b = some o → h'.get? b = some o) → Q v { s with heap := h', toks := tk }) :
    wpAny (model prog w) A (call (.builtin "min") [.ref l]) Q E s := by
  refine call_min_walk (iter_intTup hl fun s₂ e st hfp hlI => ?_)
  subst e
  refine ⟨_, _, _, _, _, _, _, rfl, Walks.tuple (A := A.in1) hh _ l hlI (intItems xs), st, hfp, by simpa [intItems] using hne, CmpOf.ints_lt (numAt xs) (fun _ _ => intItems_at), fun v h' tk hP hk => ?_⟩
  exact h v h' tk (by simpa [intItems] using hP) (old_keptT hk)
theorem max_intTup (hh : A.handled = none) (hl : s.heap.IsTuple l (intItems xs)) (hne : 0 < xs.size)
    (h : ∀ v h' tk, (intItems xs)[argBest (fun i j => decide (numAt xs i > numAt xs j)) (xs.size - 1)]? = some v → (∀ b o, s.heap.get? b = some o → h'.get? b = some o) → Q v { s with heap := h', toks := tk }) :
    wpAny (model prog w) A (call (.builtin "max") [.ref l]) Q E s := by
  refine call_max_walk (iter_intTup hl fun s₂ e st hfp hlI => ?_)
  subst e
  refine ⟨_, _, _, _, _, _, _, rfl, Walks.tuple (A := A.in1) hh _ l hlI (intItems xs), st, hfp, by simpa [intItems] using hne, CmpOf.ints_gt (numAt xs) (fun _ _ => intItems_at), fun v h' tk hP hk => ?_⟩
  exact h v h' tk (by simpa [intItems] using hP) (old_keptT hk)
theorem min_rawT (hh : A.handled = none) (hl : s.heap.IsTuple l its.toArray) (hi : IntsAre its ns) (hne : 0 < ns.length)
    (h : ∀ h' tk M t', (∀ b o, s.heap.get? b = some o → h'.get? b = some o) → M ∈ ns → (∀ a, a ∈ ns → M ≤ a) → Q (.int M t') { s with heap := h', toks := tk }) : wpAny (model prog w) A (call (.builtin "min") [.ref l]) Q E s := by
  obtain ⟨xs, e⟩ := hi.allInts.items
  have hn : numsOf (intItems xs).toList = ns := by rw [← e]; exact hi.numsOf
  rw [nums_intItems] at hn
  subst hn
  rw [e] at hl
  have hsz : 0 < xs.size := by simpa using hne
  refine min_intTup hh hl hsz fun v h' tk hv hk => ?_
  obtain ⟨t, rfl⟩ := intItems_at hv
  obtain ⟨h1, h2⟩ := argBest_lt (numAt xs) (xs.size - 1)
  refine h h' tk _ t hk ?_ fun a ha => ?_
  · rw [numAt_eq]; exact PySem.getD_mem (by rw [List.length_map, Array.length_toList]; omega)
  · obtain ⟨j, hj, rfl⟩ := mem_getD ha
    rw [List.length_map, Array.length_toList] at hj
    rw [← numAt_eq]; exact h2 j (by omega)
theorem max_rawT (hh : A.handled = none) (hl : s.heap.IsTuple l its.toArray) (hi : IntsAre its ns) (hne : 0 < ns.length)
    (h : ∀ h' tk M t', (∀ b o, s.heap.get? b = some o → h'.get? b = some o) → M ∈ ns → (∀ a, a ∈ ns → a ≤ M) → Q (.int M t') { s with heap := h', toks := tk }) : wpAny (model prog w) A (call (.builtin "max") [.ref l]) Q E s := by
  obtain ⟨xs, e⟩ := hi.allInts.items
  have hn : numsOf (intItems xs).toList = ns := by rw [← e]; exact hi.numsOf
  rw [nums_intItems] at hn
  subst hn
  rw [e] at hl
  have hsz : 0 < xs.size := by simpa using hne
  refine max_intTup hh hl hsz fun v h' tk hv hk => ?_
  obtain ⟨t, rfl⟩ := intItems_at hv
  obtain ⟨h1, h2⟩ := argBest_gt (numAt xs) (xs.size - 1)
  refine h h' tk _ t hk ?_ fun a ha => ?_
  · rw [numAt_eq]; exact PySem.getD_mem (by rw [List.length_map, Array.length_toList]; omega)
  · obtain ⟨j, hj, rfl⟩ := mem_getD ha
    rw [List.length_map, Array.length_toList] at hj
    rw [← numAt_eq]; exact h2 j (by omega)
end
section
variable {X : Cx}
/-- min(xs), max(xs), xs a list or a tuple of ints -/
def rMinS (K : PySem.W.Frag) : List V → Hp → VK → Prop := fun vs H Q => ∃ (a : Addr) (ns : List Int), vs = [V.ref a] ∧ (SqL K H a (ns.map V.int) ∨ SqT K H a (ns.map V.int)) ∧ 0 < ns.length ∧ ∀ m, m ∈ ns → (∀ y, y ∈ ns → m ≤ y) → Q (.int m) H
def rMaxS (K : PySem.W.Frag) : List V → Hp → VK → Prop := fun vs H Q => ∃ (a : Addr) (ns : List Int), vs = [V.ref a] ∧ (SqL K H a (ns.map V.int) ∨ SqT K H a (ns.map V.int)) ∧ 0 < ns.length ∧ ∀ m, m ∈ ns → (∀ y, y ∈ ns → y ≤ m) → Q (.int m) H
theorem cr_minS (hc : X.calm = true) : CallR X (.builtin "min") (rMinS X.K) := by
  intro pins s σ H vs us Q I r h
  obtain ⟨a, ns, rfl, hs, hne, q⟩ := h
  rcases hs with hs | hs
  · exact cr_min hc pins s σ H _ us Q I r ⟨a, ns, rfl, hs, hne, q⟩
  · obtain ⟨its, rv, hl, _⟩ := I.tuple hs
    rw [Vals.ref1 r]
    exact min_rawT (I.ok.hd hc) (show s.heap.IsTuple a its.toArray from hl) rv.ints hne fun h' tk m t' hk h1 h2 => ⟨.int _, H, I.kept hk, ⟨_, rfl⟩, q m h1 h2⟩
theorem cr_maxS (hc : X.calm = true) : CallR X (.builtin "max") (rMaxS X.K) := by
  intro pins s σ H vs us Q I r h
  obtain ⟨a, ns, rfl, hs, hne, q⟩ := h
  rcases hs with hs | hs
  · exact cr_max hc pins s σ H _ us Q I r ⟨a, ns, rfl, hs, hne, q⟩
  · obtain ⟨its, rv, hl, _⟩ := I.tuple hs
    rw [Vals.ref1 r]
    exact max_rawT (I.ok.hd hc) (show s.heap.IsTuple a its.toArray from hl) rv.ints hne fun h' tk m t' hk h1 h2 => ⟨.int _, H, I.kept hk, ⟨_, rfl⟩, q m h1 h2⟩
end
end Bb
set_option linter.all false
namespace K2
/-! limits that are in order; the classes of an age, reckoned twice -/
structure OkL (ns : List Int) : Prop where
  len : ns.length ≤ 4
  rng : ∀ n ∈ ns, 1 ≤ n ∧ n ≤ 99
  up : ns.Pairwise (· < ·)
def fst (ns : List Int) (age : Int) : Nat := (ns.filter fun n => decide (n ≤ age)).length
/-- the program's way -/
def clsP (ns : List Int) (up : Bool) (age : Int) : List Int :=
  if up = true then (List.range ((ns.length + 1 : Int) - (fst ns age : Int)).toNat).map fun i => (fst ns age : Int) + (i : Nat) else [(fst ns age : Int)]
/-- the law's way -/
def stepC (up : Bool) (age : Int) (f : List Int) (p : Int × Nat) : List Int := if age < p.1 ∧ (up = true ∨ f = []) then f ++ [(p.2 : Int)] else f
def clsL (bars : List Int) (up : Bool) (age : Int) : List Int := bars.zipIdx.foldl (stepC up age) []
theorem low_part {up : Bool} {age : Int} : ∀ (l : List Int) (k : Nat) (f : List Int), (∀ b ∈ l, b ≤ age) → (l.zipIdx k).foldl (stepC up age) f = f
  | [], _, _, _ => rfl
  | b :: l, k, f, h => by
    have h1 := h b List.mem_cons_self
    rw [List.zipIdx_cons, List.foldl_cons]
    have e : stepC up age f (b, k) = f := by
      unfold stepC
      rw [if_neg]
      intro z
      have := z.1
      dsimp only at this
      omega
    rw [e]
    exact low_part l (k + 1) f fun x hx => h x (List.mem_cons_of_mem _ hx)
theorem high_up {age : Int} : ∀ (l : List Int) (k : Nat) (f : List Int), (∀ b ∈ l, age < b) → (l.zipIdx k).foldl (stepC true age) f = f ++ (List.range l.length).map fun i => (k : Int) + (i : Nat)
  | [], k, f, _ => by simp
  | b :: l, k, f, h => by
    have h1 := h b List.mem_cons_self
    rw [List.zipIdx_cons, List.foldl_cons]
    have e : stepC true age f (b, k) = f ++ [(k : Int)] := by
      unfold stepC
      rw [if_pos ⟨h1, .inl rfl⟩]
    rw [e, high_up l (k + 1) _ fun x hx => h x (List.mem_cons_of_mem _ hx)]
    rw [List.length_cons, List.range_succ_eq_map, List.map_cons, List.map_map, List.append_assoc]
    congr 1
    rw [List.singleton_append]
    congr 1
    simp
    intro a _
    omega
theorem high_one {age : Int} : ∀ (l : List Int) (k : Nat) (f : List Int), f ≠ [] → (l.zipIdx k).foldl (stepC false age) f = f
  | [], _, _, _ => rfl
  | b :: l, k, f, h => by
    rw [List.zipIdx_cons, List.foldl_cons]
    have e : stepC false age f (b, k) = f := by
      unfold stepC
      rw [if_neg]
      intro z
      rcases z.2 with q | q
      · cases q
      · exact h q
    rw [e]
    exact high_one l (k + 1) f h
theorem split_at {age : Int} : ∀ (ns : List Int), ns.Pairwise (· < ·) → ns = (ns.take (fst ns age)) ++ (ns.drop (fst ns age)) ∧ (∀ b ∈ ns.take (fst ns age), b ≤ age) ∧ ∀ b ∈ ns.drop (fst ns age), age < b
  | [], _ => ⟨rfl, fun _ h => by simp at h, fun _ h => by simp at h⟩
  | b :: l, h => by
    refine ⟨(List.take_append_drop _ _).symm, ?_⟩
    obtain ⟨h1, h2⟩ := List.pairwise_cons.mp h
    by_cases c : b ≤ age
    · have e : fst (b :: l) age = fst l age + 1 := by
        unfold fst
        rw [List.filter_cons, if_pos (decide_eq_true c), List.length_cons]
      obtain ⟨_, i1, i2⟩ := split_at (age := age) l h2
      rw [e]
      refine ⟨?_, ?_⟩
      · intro x hx
        rw [List.take_succ_cons] at hx
        rcases List.mem_cons.mp hx with q | q
        · omega
        · exact i1 x q
      · intro x hx
        rw [List.drop_succ_cons] at hx
        exact i2 x hx
    · have all : ∀ x ∈ b :: l, age < x := by
        intro x hx
        rcases List.mem_cons.mp hx with q | q
        · omega
        · have := h1 x q
          omega
      have e : fst (b :: l) age = 0 := by
        unfold fst
        rw [List.length_eq_zero_iff, List.filter_eq_nil_iff]
        intro x hx
        have := all x hx
        simp
        omega
      rw [e]
      exact ⟨fun x hx => by simp at hx, fun x hx => all x (by simpa using hx)⟩
theorem fst_le (ns : List Int) (age : Int) : fst ns age ≤ ns.length := List.length_filter_le _ _
theorem cls_eq {ns : List Int} (ok : OkL ns) (up : Bool) {age : Int} (ha : age ≤ 300) : clsL (ns ++ [1000]) up age = clsP ns up age := by
  obtain ⟨e, lo, hi⟩ := split_at (age := age) ns ok.up
  have fl := fst_le ns age
  unfold clsL
  have e2 : ns ++ [1000] = ns.take (fst ns age) ++ (ns.drop (fst ns age) ++ [1000]) := by
    rw [← List.append_assoc, ← e]
  have hi2 : ∀ b ∈ ns.drop (fst ns age) ++ [1000], age < b := by
    intro b hb
    rcases List.mem_append.mp hb with q | q
    · exact hi b q
    · have : b = 1000 := by simpa using q
      omega
  rw [e2, List.zipIdx_append, List.foldl_append, low_part _ _ _ lo]
  have lt : (ns.take (fst ns age)).length = fst ns age := by
    rw [List.length_take]
    omega
  rw [lt]
  unfold clsP
  cases up with
  | true =>
    rw [if_pos rfl, high_up _ _ _ hi2]
    have l2 : (ns.drop (fst ns age) ++ [1000]).length = ((ns.length + 1 : Int) - (fst ns age : Int)).toNat := by
      rw [List.length_append, List.length_drop, List.length_singleton]
      omega
    rw [l2]
    simp
  | false =>
    rw [if_neg Bool.false_ne_true]
    generalize ns.drop (fst ns age) = d at hi2 ⊢
    cases d with
    | nil =>
      have h1 := hi2 1000 (by simp)
      simp [stepC, h1]
    | cons x d =>
      have h1 := hi2 x (by simp)
      rw [List.cons_append, List.zipIdx_cons, List.foldl_cons]
      have e3 : stepC false age [] (x, 0 + fst ns age) = [((0 + fst ns age : Nat) : Int)] := by
        unfold stepC
        rw [if_pos ⟨h1, .inr rfl⟩]
        rfl
      rw [e3, high_one _ _ _ (by simp)]
      simp
theorem clsP_len {ns : List Int} (ok : OkL ns) (up : Bool) (age : Int) : (clsP ns up age).length ≤ 5 := by
  have := ok.len
  unfold clsP
  split
  · rw [List.length_map, List.length_range]
    omega
  · simp
theorem clsP_rng {ns : List Int} (ok : OkL ns) (up : Bool) (age : Int) : ∀ z ∈ clsP ns up age, 0 ≤ z ∧ z ≤ 4 := by
  have h1 := ok.len
  have h2 := fst_le ns age
  intro z hz
  unfold clsP at hz
  split at hz
  · obtain ⟨i, hi, rfl⟩ := List.mem_map.mp hz
    have := List.mem_range.mp hi
    omega
  · have : z = (fst ns age : Int) := by simpa using hz
    omega
end K2
set_option Elab.async false
set_option linter.all false
set_option maxRecDepth 100000
set_option maxHeartbeats 4000000
namespace K2
open PySem PySem.Spec PyProof.Rows L2 Bb

/-! the text by places -/
def top (i : Nat) : Stmt := PySem.Challenge.pw_bestsbook_k02_rules_made_and_shown.main.body.getD i (.Pass ⟨0, 0, 0, 0⟩)
abbrev sIsNum : Stmt := top 18
abbrev sFrom : Stmt := top 19
abbrev sIsWind : Stmt := top 20
abbrev sAre : Stmt := top 25
abbrev sCell : Stmt := top 28
abbrev sPen : Stmt := top 29
abbrev sDraw : Stmt := top 30
abbrev sPick : Stmt := top 31
abbrev sKind : Stmt := top 32
abbrev sCame : Stmt := top 33
abbrev sAny : Stmt := top 34
abbrev sOdd : Stmt := top 35
abbrev sNum : Stmt := top 36
abbrev sTerms : Stmt := top 37
abbrev sMade : Stmt := top 39
abbrev sBent : Stmt := top 41
abbrev sRight : Stmt := top 42
abbrev sLaw : Stmt := top 44
abbrev sInit : Stmt := inClass (top 26) 0
abbrev sEq : Stmt := inClass (top 26) 1
abbrev sLen : Stmt := inClass (top 26) 2
abbrev sRepr : Stmt := inClass (top 26) 3
abbrev sCls : Stmt := inClass (top 26) 4
abbrev sAreT : Stmt := top 38
abbrev sText : Stmt := top 40
abbrev sAlike : Stmt := top 43
abbrev Fn (K : PySem.W.Frag) (x q : Str) (st : Stmt) (f : Addr) (fd : FuncData) : Prop := FunD K x q (defArgs st) (defBody st) (defScope st) [] [] f fd

/-! things of any kind, as the law makes them -/
inductive Th (H : Hp) : V → Prop where
  | non : Th H .non
  | bl (b : Bool) : Th H (.bl b)
  | int (i : Int) : Th H (.int i)
  | str (z : Str) : Th H (.str z)
  | lst {a : Addr} {xs : List V} (h : H a = some (.lst xs)) : Th H (.ref a)
  | tup {a : Addr} {xs : List V} (h : H a = some (.tup xs)) : Th H (.ref a)
  | dic {a : Addr} {kvs : List (Key × V)} (h : H a = some (.dK kvs)) : Th H (.ref a)
def isNum : V → Bool
  | .int _ => true
  | _ => false
def numIn (lo hi : Int) : V → Bool
  | .int i => decide (lo ≤ i) && decide (i ≤ hi)
  | _ => false
def anInt : V → Bool
  | .int _ => true
  | .bl _ => true
  | _ => false
def aBool : V → Bool
  | .bl _ => true
  | _ => false
theorem kt {a b : String} {r r' : Bool} (h : kitB a b = some r) (e : r = r') : kitB a b = some r' := by
  rw [← e]
  exact h
theorem Th.ty {K : PySem.W.Frag} {H : Hp} {x : V} (h : Th H x) : ∃ n, TyX K H x (.type n) ∧ kitB n "int" = some (anInt x) ∧ kitB n "bool" = some (aBool x) := by
  cases h with
  | non => exact ⟨_, .base .non, kt (r := false) (by decide +kernel) rfl, kt (r := false) (by decide +kernel) rfl⟩
  | bl b => exact ⟨_, .base (.bl b), kt (r := true) (by decide +kernel) rfl, kt (r := true) (by decide +kernel) rfl⟩
  | int i => exact ⟨_, .base (.int i), kt (r := true) (by decide +kernel) rfl, kt (r := false) (by decide +kernel) rfl⟩
  | str z => exact ⟨_, .base (.str z), kt (r := false) (by decide +kernel) rfl, kt (r := false) (by decide +kernel) rfl⟩
  | lst h => exact ⟨_, .base (.lst h), kt (r := false) (by decide +kernel) rfl, kt (r := false) (by decide +kernel) rfl⟩
  | tup h => exact ⟨_, .base (.tup h), kt (r := false) (by decide +kernel) rfl, kt (r := false) (by decide +kernel) rfl⟩
  | dic h => exact ⟨_, .base (.dK h), kt (r := false) (by decide +kernel) rfl, kt (r := false) (by decide +kernel) rfl⟩
/-- the built-in names are nobody else's -/
structure Free (mg : Str → Option Value) : Prop where
  isi : mg "isinstance" = none
  int_ : mg "int" = none
  bool_ : mg "bool" = none
  tup_ : mg "tuple" = none
  list_ : mg "list" = none
  len_ : mg "len" = none
  all_ : mg "all" = none
  zip_ : mg "zip" = none
  rng_ : mg "range" = none
  enu_ : mg "enumerate" = none
  srt_ : mg "sorted" = none
  rep_ : mg "repr" = none
  ve_ : mg "ValueError" = none
  le_ : mg "LookupError" = none

/-! is_number, is_number_from, _law_number -/
def spIsNum : Sp := fun vs H Q _ => ∃ x, vs = [x] ∧ Th H x ∧ Q (.bl (isNum x)) H
def spFrom : Sp := fun vs H Q _ => ∃ x lo hi, vs = [x, .int lo, .int hi] ∧ Th H x ∧ Q (.bl (numIn lo hi x)) H
section
variable {P : Program} {w : World} {K : PySem.W.Frag} {mg : Str → Option Value} {base : Heap} {f : Addr} {fd : FuncData}
theorem scIsNum : FnScope ["thing"] ["thing"] (defScope sIsNum) := ⟨rfl, rfl, rfl, by decide +kernel, rfl, by decide +kernel, by decide +kernel⟩
theorem ok_isnum (F : Fn K "is_number" "is_number" sIsNum f fd) (T : Free mg) : FnOk P w K mg base L2.CX0 1 f fd ["thing"] spIsNum := by
  refine F.ok scIsNum (fun vs H Q E h => ?_) (fun cdv A outer s H vs Q E hr h => ?_)
  · obtain ⟨x, rfl, _⟩ := h
    rfl
  · obtain ⟨x, rfl, hx, q⟩ := h
    obtain ⟨n, ty, k1, k2⟩ := hx.ty (K := K)
    refine ⟨_, PSs.nox (pss_one (ps_ret (pe_and (pe_callB call_isi rfl T.isi boot_isinstance (pa_cons (pv 0) (pa_cons (pe_bltn rfl T.int_ (by decide +kernel) (v := .ty "int") rfl) pa_nil)))
      (pe_one (pe_not (pe_callB call_isi rfl T.isi boot_isinstance (pa_cons (pv 0) (pa_cons (pe_bltn rfl T.bool_ (by decide +kernel) (v := .ty "bool") rfl) pa_nil)))))))), ?_⟩
    refine ⟨x, rfl, _, _, _, _, _, rfl, .ty "int", ty, kit_ty k1, _, rfl, ?_⟩
    cases x with
    | int i => exact ⟨_, rfl, _, _, _, _, _, rfl, .ty "bool", ty, kit_ty k2, _, rfl, q⟩
    | bl b => exact ⟨_, rfl, _, _, _, _, _, rfl, .ty "bool", ty, kit_ty k2, _, rfl, q⟩
    | _ => exact q
theorem scFrom : FnScope ["thing", "least", "most"] ["thing", "least", "most"] (defScope sFrom) := ⟨rfl, rfl, rfl, by decide +kernel, rfl, by decide +kernel, by decide +kernel⟩
theorem ok_from {fN : Addr} {fdN : FuncData} (F : Fn K "is_number_from" "is_number_from" sFrom f fd) (FN : Fn K "is_number" "is_number" sIsNum fN fdN) (gN : mg "is_number" = some (.ref fN)) (T : Free mg) : FnOk P w K mg base L2.CX0 2 f fd ["thing", "least", "most"] spFrom := by
  have GN : FnOk P w K mg base L2.CX0 1 fN fdN ["thing"] spIsNum := ok_isnum FN T
  have bN : Binds K fdN ["thing"] [] := FN.bindsN fun _ _ _ _ _ _ us hl => match us, hl with | [_], _ => rfl
  refine F.ok scFrom (fun vs H Q E h => ?_) (fun cdv A outer s H vs Q E hr h => ?_)
  · obtain ⟨x, lo, hi, rfl, _⟩ := h
    rfl
  · obtain ⟨x, lo, hi, rfl, hx, q⟩ := h
    refine ⟨_, PSs.nox (pss_one (ps_ret (pe_and (pe_call GN hr rfl gN FN.kp bN .nil pass0 (pa_cons (pv 0) pa_nil)) (pe_one (pe_chain op_le op_le (pv 1) (pv 0) (pv 2)))))), ?_⟩
    refine ⟨x, rfl, x, rfl, hx, _, rfl, ?_⟩
    cases x with
    | int i =>
      refine ⟨_, rfl, _, rfl, _, _, rfl, rfl, _, rfl, ?_⟩
      refine ite2 (fun c => ?_) (fun c => ?_)
      · refine ⟨_, rfl, _, _, rfl, rfl, ?_⟩
        have e : numIn lo hi (.int i) = decide (i ≤ hi) := by
          show (decide (lo ≤ i) && decide (i ≤ hi)) = _
          rw [c, Bool.true_and]
        rw [e] at q
        exact q
      · have e : numIn lo hi (.int i) = false := by
          show (decide (lo ≤ i) && decide (i ≤ hi)) = _
          rw [Bool.eq_false_iff.mpr c, Bool.false_and]
        rw [e] at q
        exact q
    | _ => exact q
end
end K2
set_option Elab.async false
set_option linter.all false
set_option maxRecDepth 100000
set_option maxHeartbeats 4000000
namespace K2
open PySem PySem.Spec PyProof.Rows L2 Bb
theorem same_upd {H H' : Hp} {D : Addr} {o : HO} (s : Same H H') (hD : H D = none) : Same H (upd H' D o) := fun b u e => by
  rw [upd_ne (ne_of_none e hD)]
  exact s b u e
theorem sqt_same {K : PySem.W.Frag} {H H' : Hp} {a : Addr} {xs : List V} (h : SqT K H a xs) (s : Same H H') : SqT K H' a xs := h.ext s
theorem sql_same {K : PySem.W.Frag} {H H' : Hp} {a : Addr} {xs : List V} (h : SqL K H a xs) (s : Same H H') : SqL K H' a xs := h.ext s
theorem get_map {ns : List Int} {i : Nat} {x : V} (h : (ns.map V.int)[i]? = some x) : ∃ n, ns[i]? = some n ∧ x = .int n := by
  rw [List.getElem?_map] at h
  cases e : ns[i]? with
  | none =>
    rw [e] at h
    cases h
  | some n =>
    rw [e] at h
    exact ⟨n, rfl, (Option.some.inj h).symm⟩
/-- a constant of the module -/
def IsI (mg : Str → Option Value) (x : Str) (i : Int) : Prop := ∃ t, mg x = some (.int i t)
theorem pe_k {X : Cx} {x : Str} {i : Int} {pos : Pos} (h : IsI X.mg x i) (hg : Gl X x) (hd : (x == ("__debug__" : Str)) = false := by decide) : PE X (.Name x pos) (tC (.int i)) := by
  obtain ⟨t, e⟩ := h
  exact pe_glob hg e ⟨t, rfl⟩ hd
structure Cons (mg : Str → Option Value) : Prop where
  mostL : IsI mg "MOST_LIMITS" 4
  least : IsI mg "LEAST_LIMIT" 1
  most : IsI mg "MOST_LIMIT" 99
  wind : IsI mg "MOST_WIND" 99
end K2
set_option Elab.async false
set_option linter.all false
set_option maxRecDepth 100000
set_option maxHeartbeats 4000000
namespace K2
open PySem PySem.Spec PyProof.Rows L2 Bb
/-! the class Rules: its attributes in the order of their stores -/
def flds (l : Addr) (up : Bool) (wd : Int) (sh : Bool) : List (Str × V) := putF "shares" (.bl sh) (putF "wind" (.int wd) (putF "up" (.bl up) (putF "limits" (.ref l) [])))
theorem k1 : ¬ (("limits" : Str) = "up") := by decide +kernel
theorem k2 : ¬ (("limits" : Str) = "wind") := by decide +kernel
theorem k3 : ¬ (("limits" : Str) = "shares") := by decide +kernel
theorem k4 : ¬ (("up" : Str) = "wind") := by decide +kernel
theorem k5 : ¬ (("up" : Str) = "shares") := by decide +kernel
theorem k6 : ¬ (("wind" : Str) = "shares") := by decide +kernel
section
variable (l : Addr) (up : Bool) (wd : Int) (sh : Bool)
theorem f_limits : (flds l up wd sh).lookup ("limits" : Str) = some (.ref l) := by
  unfold flds
  rw [lookup_putF, if_neg k3, lookup_putF, if_neg k2, lookup_putF, if_neg k1, lookup_putF, if_pos rfl]
theorem f_up : (flds l up wd sh).lookup ("up" : Str) = some (.bl up) := by
  unfold flds
  rw [lookup_putF, if_neg k5, lookup_putF, if_neg k4, lookup_putF, if_pos rfl]
theorem f_wind : (flds l up wd sh).lookup ("wind" : Str) = some (.int wd) := by
  unfold flds
  rw [lookup_putF, if_neg k6, lookup_putF, if_pos rfl]
theorem f_shares : (flds l up wd sh).lookup ("shares" : Str) = some (.bl sh) := by
  unfold flds
  rw [lookup_putF, if_pos rfl]
theorem f_no {m : Str} (h1 : ¬ m = "shares") (h2 : ¬ m = "wind") (h3 : ¬ m = "up") (h4 : ¬ m = "limits") : (flds l up wd sh).lookup m = none := by
  unfold flds
  rw [lookup_putF, if_neg h1, lookup_putF, if_neg h2, lookup_putF, if_neg h3, lookup_putF, if_neg h4]
  rfl
theorem f_len : (flds l up wd sh).length ≤ 4 := by
  unfold flds
  have a1 := length_putF "limits" (.ref l) []
  have a2 := length_putF "up" (.bl up) (putF "limits" (.ref l) [])
  have a3 := length_putF "wind" (.int wd) (putF "up" (.bl up) (putF "limits" (.ref l) []))
  have a4 := length_putF "shares" (.bl sh) (putF "wind" (.int wd) (putF "up" (.bl up) (putF "limits" (.ref l) [])))
  simp only [List.length_nil] at a1
  omega
end
structure RulesT (K : PySem.W.Frag) (mg : Str → Option Value) (C : Addr) : Prop where
  cl : Cls K C
  nL : NoAttr K C "limits"
  nU : NoAttr K C "up"
  nW : NoAttr K C "wind"
  nS : NoAttr K C "shares"
  gC : mg "Rules" = some (.ref C)
  ha : PySem.W.findIn K (.ref C) "__class__" = some (some (.builtin "object.__class__"))
  hn : PySem.W.specialIn K (.builtin "object.__class__") "__get__" = some (some (.builtin "getset_descriptor.__get__"))
  ht : PySem.W.takesIn K (.builtin "object.__class__") = some true
  hm : PySem.W.mroIn K C (.type "object") = some true
  kit : PySem.W.kitOne K (.ref C) (.ref C) = some true
/-- rules at p: the instance, its tuple of limits -/
structure At (C : Addr) (H : Hp) (p l : Addr) (ns : List Int) (up : Bool) (wd : Int) (sh : Bool) : Prop where
  ob : ∃ dx, H p = some (.ins C dx (flds l up wd sh))
  li : H l = some (.tup (ns.map V.int))
  ok : OkL ns
theorem At.same {C : Addr} {H H' : Hp} {p l : Addr} {ns : List Int} {up : Bool} {wd : Int} {sh : Bool} (a : At C H p l ns up wd sh) (s : Same H H') : At C H' p l ns up wd sh := by
  obtain ⟨⟨dx, h1⟩, h2, h3⟩ := a
  exact ⟨⟨dx, s _ _ h1⟩, s _ _ h2, h3⟩
def spLen (C : Addr) : Sp := fun vs H Q _ => ∃ (p l : Addr) (ns : List Int) (up : Bool) (wd : Int) (sh : Bool), vs = [.ref p] ∧ At C H p l ns up wd sh ∧ ∀ H', Same H H' → Q (.int (((ns.length + 1 : Nat) : Int))) H'
def spEq (C : Addr) : Sp := fun vs H Q _ => ∃ (p q l m : Addr) (ns ms : List Int) (up up' : Bool) (wd wd' : Int) (sh sh' : Bool), vs = [.ref p, .ref q] ∧ At C H p l ns up wd sh ∧ At C H q m ms up' wd' sh' ∧
  (ns = ms → up = up' → wd = wd' → sh = sh' → Q (.bl true) H) ∧ (¬ (ns = ms ∧ up = up' ∧ wd = wd' ∧ sh = sh') → Q (.bl false) H)
/-- an own class of errors without an __init__ -/
structure ErrT (K : PySem.W.Frag) (mg : Str → Option Value) (x : Str) (C : Addr) : Prop where
  g : mg x = some (.ref C)
  ex : PySem.W.excIn K C He.veBase "ValueError.__new__" = true
  kp : PySem.W.keepIn K (.ref C) = true
  sb : PySem.W.subIn K (.ref C) (.type "BaseException") = some true
  ty : PySem.W.typeIn K (.ref C) = some (.type "type")
end K2
set_option Elab.async false
set_option linter.all false
set_option maxRecDepth 100000
set_option maxHeartbeats 4000000
namespace K2
open PySem PySem.Spec PyProof.Rows L2 Bb
section
variable {P : Program} {w : World} {K : PySem.W.Frag} {mg : Str → Option Value} {base : Heap} {f : Addr} {fd : FuncData}
theorem scLen : FnScope ["self"] ["self"] (defScope sLen) := ⟨rfl, rfl, rfl, by decide +kernel, rfl, by decide +kernel, by decide +kernel⟩
theorem ok_len {C : Addr} (F : Fn K "__len__" "Rules.__len__" sLen f fd) (T : Free mg) (R : RulesT K mg C) : FnOk P w K mg base L2.CX0 1 f fd ["self"] (spLen C) := by
  refine F.ok scLen (fun vs H Q E h => ?_) (fun cdv A outer s H vs Q E hr hh => ?_)
  · obtain ⟨p, l, ns, up, wd, sh, rfl, _⟩ := h
    rfl
  · obtain ⟨p, l, ns, up, wd, sh, rfl, ⟨⟨dx, hp⟩, hl, ok⟩, q⟩ := hh
    refine ⟨_, PSs.nox (pss_one (ps_ret (pe_callB call_len_seq rfl T.len_ boot_len (pa_cons (pe_op op_catA (pe_fld (pv 0) rfl) (pe_tup (pa_cons pe_str pa_nil))) pa_nil)))), ?_⟩
    have hlen := ok.len
    refine ⟨_, rfl, p, C, dx, _, _, rfl, hp, R.cl, R.nL, f_limits _ _ _ _, (by show 1 ≤ sizeLine; decide), fun t ht => ?_⟩
    have hl' : (upd H t (.tup [.str "above"])) l = some (.tup (ns.map V.int)) := by
      rw [upd_ne (ne_of_none hl ht)]
      exact hl
    have sm : Same H (upd H t (.tup [.str "above"])) := same_upd (Same.refl H) ht
    refine ⟨l, t, _, _, rfl, rfl, SqT.of hl', SqT.of upd_same, ?_, ?_, ?_, ?_⟩
    · have : (ns.map V.int).length + 1 ≤ 1000 := by
        rw [List.length_map]
        omega
      exact Nat.le_of_lt (small1000 this)
    · intro e
      refine ⟨t, _, rfl, .inr (SqT.of upd_same), ?_⟩
      have nil : ns = [] := List.map_eq_nil_iff.mp e
      have z := q _ sm
      rw [nil] at z
      exact z
    · intro _ e
      cases e
    · intro _ _ p' hp'
      refine ⟨p', _, rfl, .inr (SqT.of upd_same), ?_⟩
      have z := q (upd (upd H t (.tup [.str "above"])) p' (.tup (ns.map V.int ++ [.str "above"]))) (same_upd sm (Same.free sm hp'))
      have el : ((ns.map V.int ++ [V.str "above"]).length : Nat) = ns.length + 1 := by simp
      rw [el]
      exact z
theorem take_snoc {α : Type} {l : List α} {i : Nat} {x : α} (h : l[i]? = some x) : l.take (i + 1) = l.take i ++ [x] := by
  rw [List.take_succ, h]
  rfl
end
end K2
set_option Elab.async false
set_option linter.all false
set_option maxRecDepth 100000
set_option maxHeartbeats 4000000
namespace K2
open PySem PySem.Spec PyProof.Rows L2 Bb
section
variable {P : Program} {w : World} {K : PySem.W.Frag} {mg : Str → Option Value} {base : Heap} {f : Addr} {fd : FuncData}
theorem scEq : FnScope ["self", "other"] ["self", "other"] (defScope sEq) := ⟨rfl, rfl, rfl, by decide +kernel, rfl, by decide +kernel, by decide +kernel⟩
theorem ok_eq {C : Addr} (F : Fn K "__eq__" "Rules.__eq__" sEq f fd) (T : Free mg) (R : RulesT K mg C) : FnOk P w K mg base L2.CX0 1 f fd ["self", "other"] (spEq C) := by
  refine F.ok scEq (fun vs H Q E h => ?_) (fun cdv A outer s H vs Q E hr hh => ?_)
  · obtain ⟨p, q, l, m, ns, ms, up, up', wd, wd', sh, sh', rfl, _⟩ := h
    rfl
  · obtain ⟨p, q, l, m, ns, ms, up, up', wd, wd', sh, sh', rfl, ⟨⟨dx, hp⟩, hl, _⟩, ⟨⟨dy, hq⟩, hm, _⟩, yes, no⟩ := hh
    refine ⟨_, PSs.nox (pss_one (ps_ret (pe_and (pe_callB call_isi rfl T.isi boot_isinstance (pa_cons (pv 1) (pa_cons (pe_glob rfl R.gC (v := .ref C) rfl) pa_nil)))
      (pe_and (pe_cmpR (op_eqD hr.units) (pe_fld (pv 0) rfl) (pe_fld (pv 1) rfl) (nomark _))
      (pe_and (pe_cmpR op_eq (pe_fld (pv 0) rfl) (pe_fld (pv 1) rfl) (nomark _))
      (pe_and (pe_cmpR op_eq (pe_fld (pv 0) rfl) (pe_fld (pv 1) rfl) (nomark _))
      (pe_one (pe_cmpR op_eq (pe_fld (pv 0) rfl) (pe_fld (pv 1) rfl) (nomark _))))))))), ?_⟩
    refine ⟨_, rfl, _, _, _, _, _, rfl, .own C, .base (.ins hq R.cl R.ha R.hn R.ht R.hm), R.kit, _, rfl, iteT ?_⟩
    refine ⟨_, rfl, p, C, dx, _, _, rfl, hp, R.cl, R.nL, f_limits _ _ _ _, _, rfl, q, C, dy, _, _, rfl, hq, R.cl, R.nL, f_limits _ _ _ _, ?_⟩
    refine ⟨.tuple (ns.map PyData.int), .tuple (ms.map PyData.int), .tup (SqT.of hl) (dp_ints ns), .tup (SqT.of hm) (dp_ints ms), shaped_tup ns, shaped_tup ms, _, rfl, ?_⟩
    have e1 : PyData.eqv (.tuple (ns.map PyData.int)) (.tuple (ms.map PyData.int)) = decide (ns = ms) := by
      rw [← eqv_ints]
      simp only [PyData.eqv]
    rw [e1]
    refine ite2 (fun c1 => ?_) (fun c1 => ?_)
    · refine ⟨_, rfl, p, C, dx, _, _, rfl, hp, R.cl, R.nU, f_up _ _ _ _, _, rfl, q, C, dy, _, _, rfl, hq, R.cl, R.nU, f_up _ _ _ _, rfl, _, rfl, ?_⟩
      refine ite2 (fun c2 => ?_) (fun c2 => ?_)
      · refine ⟨_, rfl, p, C, dx, _, _, rfl, hp, R.cl, R.nW, f_wind _ _ _ _, _, rfl, q, C, dy, _, _, rfl, hq, R.cl, R.nW, f_wind _ _ _ _, rfl, _, rfl, ?_⟩
        refine ite2 (fun c3 => ?_) (fun c3 => ?_)
        · refine ⟨_, rfl, p, C, dx, _, _, rfl, hp, R.cl, R.nS, f_shares _ _ _ _, _, rfl, q, C, dy, _, _, rfl, hq, R.cl, R.nS, f_shares _ _ _ _, rfl, ?_⟩
          have d1 := of_decide_eq_true c1
          have d2 : up = up' := V.bl.inj (of_decide_eq_true c2)
          have d3 : wd = wd' := V.int.inj (of_decide_eq_true c3)
          by_cases d4 : sh = sh'
          · rw [decide_eq_true (show V.bl sh = V.bl sh' from congrArg V.bl d4)]
            exact yes d1 d2 d3 d4
          · rw [decide_eq_false (show ¬ V.bl sh = V.bl sh' from fun z => d4 (V.bl.inj z))]
            exact no fun z => d4 z.2.2.2
        · exact no fun z => c3 (decide_eq_true (congrArg V.int z.2.2.1))
      · exact no fun z => c2 (decide_eq_true (congrArg V.bl z.2.1))
    · exact no fun z => c1 (decide_eq_true z.1)
end
end K2
set_option Elab.async false
set_option linter.all false
set_option maxRecDepth 100000
set_option maxHeartbeats 4000000
namespace K2
open PySem PySem.Spec PyProof.Rows L2 Bb
/-! the law's pen: a list of two ints; all else stays -/
def Pen (H : Hp) (p : Addr) : Prop := ∃ x f : Int, H p = some (.lst [.int x, .int f])
structure Kp (p : Addr) (H H' : Hp) : Prop where
  keep : ∀ b o, H b = some o → b ≠ p → H' b = some o
  pen : Pen H' p
theorem Kp.refl {p : Addr} {H : Hp} (h : Pen H p) : Kp p H H := ⟨fun _ _ e _ => e, h⟩
theorem Kp.trans {p : Addr} {H H1 H2 : Hp} (a : Kp p H H1) (b : Kp p H1 H2) : Kp p H H2 := ⟨fun c o e n => b.keep c o (a.keep c o e n) n, b.pen⟩
theorem Kp.same {p : Addr} {H H1 H2 : Hp} (a : Kp p H H1) (s : Same H1 H2) : Kp p H H2 := ⟨fun c o e n => s c o (a.keep c o e n), let ⟨x, f, e⟩ := a.pen; ⟨x, f, s _ _ e⟩⟩
theorem Kp.free {p q : Addr} {H H' : Hp} (a : Kp p H H') (hp : Pen H p) (h : H' q = none) : H q = none := by
  cases e : H q with
  | none => rfl
  | some o =>
    by_cases z : q = p
    · obtain ⟨x, f, e2⟩ := a.pen
      rw [z, e2] at h
      cases h
    · rw [a.keep _ _ e z] at h
      cases h
theorem pen_ne {H : Hp} {p a : Addr} {o : HO} (hp : Pen H p) (h : H a = some o) (n : ∀ x f : Int, o ≠ .lst [.int x, .int f]) : a ≠ p := by
  rintro rfl
  obtain ⟨x, f, e⟩ := hp
  rw [h] at e
  exact n x f (Option.some.inj e)
def spCell (K : PySem.W.Frag) : Sp := fun vs H Q _ => ∃ (a : Addr) (ns : List Int), vs = [.ref a, .int 0] ∧ SqL K H a (ns.map V.int) ∧ ns.length ≤ 63 ∧ ∀ z, Q (.int z) H
def spPen : Sp := fun vs H Q _ => ∃ z : Int, vs = [.int z] ∧ ∀ p H', H p = none → Same H H' → Pen H' p → Q (.ref p) H'
def spDraw : Sp := fun vs H Q _ => ∃ (p : Addr) (m : Int), vs = [.ref p, .int m] ∧ Pen H p ∧ (0 < m ∧ m < 1073741824) ∧ ∀ r H', 0 ≤ r → r < m → Kp p H H' → Q (.int r) H'
def spPick (K : PySem.W.Frag) : Sp := fun vs H Q _ => ∃ (p a : Addr) (xs : List V), vs = [.ref p, .ref a] ∧ Pen H p ∧ H a = some (.lst xs) ∧ a ≠ p ∧ (0 < xs.length ∧ xs.length ≤ 1000) ∧ ∀ v H', v ∈ xs → Kp p H H' → Q v H'
section
variable {P : Program} {w : World} {K : PySem.W.Frag} {mg : Str → Option Value} {base : Heap} {f : Addr} {fd : FuncData}
theorem scCell : FnScope ["_law_script", "_law_k"] ["_law_script", "_law_k"] (defScope sCell) := ⟨rfl, rfl, rfl, by decide +kernel, rfl, by decide +kernel, by decide +kernel⟩
theorem ok_cell (F : Fn K "_law_cell" "_law_cell" sCell f fd) (T : Free mg) : FnOk P w K mg base L2.CX0 1 f fd ["_law_script", "_law_k"] (spCell K) := by
  refine F.ok scCell (fun vs H Q E h => ?_) (fun cdv A outer s H vs Q E hr hh => ?_)
  · obtain ⟨a, ns, rfl, _⟩ := h
    rfl
  · obtain ⟨a, ns, rfl, ha, hn, q⟩ := hh
    refine ⟨_, PSs.nox (pss_cons (ps_if (pt_cmpR op_lt (pv 1) (pe_callB call_len_seq rfl T.len_ boot_len (pa_cons (pv 0) pa_nil)) (nomark _)) (pss_one (ps_ret (pe_ix ix_list (pv 0) (pv 1) (fun _ _ => rfl)))) pss_nil) (pss_one (ps_ret pe_int))), ?_⟩
    refine ⟨_, rfl, _, rfl, a, _, rfl, .inl ha, _, _, rfl, rfl, _, rfl, ?_⟩
    refine ite2 (fun c => ?_) (fun c => ?_)
    · have c' : (0 : Int) < (((ns.map V.int).length : Nat) : Int) := of_decide_eq_true c
      rw [List.length_map] at c'
      have h0 : (ns.map V.int)[0]? = some (V.int (ns[0]'(by omega))) := by
        rw [List.getElem?_map, List.getElem?_eq_getElem (by omega)]
        rfl
      exact ⟨_, rfl, _, rfl, a, _, 0, _, rfl, rfl, ha, at_of (j := 0) rfl h0, q _⟩
    · exact q 0
theorem scPen : FnScope ["_law_cell_here"] ["_law_cell_here"] (defScope sPen) := ⟨rfl, rfl, rfl, by decide +kernel, rfl, by decide +kernel, by decide +kernel⟩
theorem ok_pen (F : Fn K "_law_pen" "_law_pen" sPen f fd) (T : Free mg) : FnOk P w K mg base L2.CX0 1 f fd ["_law_cell_here"] spPen := by
  refine F.ok scPen (fun vs H Q E h => ?_) (fun cdv A outer s H vs Q E hr hh => ?_)
  · obtain ⟨z, rfl, _⟩ := h
    rfl
  · obtain ⟨z, rfl, q⟩ := hh
    refine ⟨_, PSs.nox (pss_one (ps_ret (pe_lst (pa_cons (pv 0) (pa_cons (pe_callTy call_int1 rfl T.int_ (by decide +kernel) (pa_cons (pe_cmpR op_ge (pv 0) (pe_op op_pow pe_int pe_int) (nomark _)) pa_nil)) pa_nil))))), ?_⟩
    refine ⟨_, rfl, _, rfl, _, _, rfl, rfl, ⟨by decide, by decide, by decide⟩, _, _, rfl, rfl, .inr ⟨_, rfl, ?_⟩⟩
    refine ⟨(by show 2 ≤ sizeLine; decide), fun p hp => ?_⟩
    exact q p _ hp (same_upd (Same.refl H) hp) ⟨_, _, upd_same⟩
theorem scDraw : FnScope ["_law_pen_here", "_law_many", "_law_drawn"] ["_law_pen_here", "_law_many"] (defScope sDraw) := ⟨rfl, rfl, rfl, by decide +kernel, rfl, by decide +kernel, by decide +kernel⟩
theorem ok_draw (F : Fn K "_law_draw" "_law_draw" sDraw f fd) : FnOk P w K mg base L2.CX0 1 f fd ["_law_pen_here", "_law_many"] spDraw := by
  refine F.ok scDraw (fun vs H Q E h => ?_) (fun cdv A outer s H vs Q E hr hh => ?_)
  · obtain ⟨p, m, rfl, _⟩ := h
    rfl
  · obtain ⟨p, m, rfl, ⟨x, g, hp⟩, ⟨m0, m1⟩, q⟩ := hh
    refine ⟨_, PSs.nox (pss_cons (ps_if (pt_cmpR op_eq (pe_ix ix_list (pv 0) pe_int (fun _ _ => rfl)) pe_int (nomark _))
        (pss_cons (ps_set (i := 2) scDraw.nd rfl (.inl rfl) (pe_op op_mod (pe_ix ix_list (pv 0) pe_int (fun _ _ => rfl)) (pv 1)))
        (pss_cons (ps_asg (pe_op op_fdiv (pe_ix ix_list (pv 0) pe_int (fun _ _ => rfl)) (pv 1)) (pg_sub (pv 0) pe_int set_list))
        (pss_one (ps_ret (pv 2))))) pss_nil)
      (pss_cons (ps_asg (pe_op op_mod (pe_op op_add (pe_op op_mul (pe_op op_mod (pe_ix ix_list (pv 0) pe_int (fun _ _ => rfl)) pe_int) pe_int) pe_int) pe_int) (pg_sub (pv 0) pe_int set_list))
      (pss_one (ps_ret (pe_op op_mod (pe_op op_fdiv (pe_op op_mod (pe_op op_add (pe_op op_mul (pe_ix ix_list (pv 0) pe_int (fun _ _ => rfl)) (pe_ix ix_list (pv 0) pe_int (fun _ _ => rfl)))
        (pe_op op_mul pe_int (pe_ix ix_list (pv 0) pe_int (fun _ _ => rfl)))) pe_int) pe_int) (pv 1)))))), ?_⟩
    have i0 : ∀ {a b : V}, atI [a, b] (0 : Int) = some a := fun {a b} => at_of (j := 0) rfl rfl
    have i1 : ∀ {a b : V}, atI [a, b] (1 : Int) = some b := fun {a b} => at_of (j := 1) rfl rfl
    refine ⟨_, rfl, p, _, 1, _, rfl, rfl, SqL.of hp, i1, rfl, _, rfl, ?_⟩
    refine ite2 (fun c => ?_) (fun c => ?_)
    · refine ⟨_, rfl, p, _, 0, _, rfl, rfl, SqL.of hp, i0, _, rfl, x, m, rfl, rfl, m0, ?_⟩
      refine ⟨_, rfl, p, _, 0, _, rfl, rfl, SqL.of hp, i0, _, rfl, x, m, rfl, rfl, ⟨m0, m1⟩, ?_⟩
      refine ⟨_, rfl, p, _, 0, 0, rfl, rfl, hp, rfl, _, rfl, ?_⟩
      refine q _ _ (Int.emod_nonneg _ (by omega)) (Int.emod_lt_of_pos _ m0) ⟨fun b o e n => ?_, ?_⟩
      · rw [upd_ne n]
        exact e
      · exact ⟨x / m, g, upd_same⟩
    · refine ⟨_, rfl, p, _, 0, _, rfl, rfl, SqL.of hp, i0, x, 2147483629, rfl, rfl, (by show (0 : Int) < 2147483629; decide), ?_⟩
      have b1 := Int.emod_nonneg x (show (2147483629 : Int) ≠ 0 by decide)
      have b2 := Int.emod_lt_of_pos x (show (0 : Int) < 2147483629 by decide)
      refine ⟨_, _, rfl, rfl, .inl ⟨by omega, by omega⟩, _, _, rfl, rfl, _, _, rfl, rfl, (by show (0 : Int) < 2147483629; decide), ?_⟩
      have c1 := Int.emod_nonneg (x % 2147483629 * 48271 + 11) (show (2147483629 : Int) ≠ 0 by decide)
      have c2 := Int.emod_lt_of_pos (x % 2147483629 * 48271 + 11) (show (0 : Int) < 2147483629 by decide)
      obtain ⟨z, hz⟩ : ∃ z, z = (x % 2147483629 * 48271 + 11) % 2147483629 := ⟨_, rfl⟩
      rw [← hz] at c1 c2
      refine ⟨_, rfl, p, _, 0, 0, rfl, rfl, hp, rfl, ?_⟩
      have hp2 : (upd H p (.lst ([V.int x, V.int g].set 0 (.int ((x % 2147483629 * 48271 + 11) % 2147483629))))) p = some (.lst [.int z, .int g]) := by
        rw [hz]
        exact upd_same
      refine ⟨_, rfl, p, _, 0, _, rfl, rfl, SqL.of hp2, i0, _, rfl, p, _, 0, _, rfl, rfl, SqL.of hp2, i0, z, z, rfl, rfl, .inl ⟨by omega, by omega⟩, ?_⟩
      refine ⟨_, rfl, p, _, 0, _, rfl, rfl, SqL.of hp2, i0, 40692, z, rfl, rfl, .inl ⟨by decide, by decide⟩, ?_⟩
      refine ⟨_, _, rfl, rfl, _, _, rfl, rfl, (by show (0 : Int) < 2147483647; decide), _, _, rfl, rfl, ⟨by decide, by decide⟩, _, rfl, _, _, rfl, rfl, m0, ?_⟩
      refine q _ _ (Int.emod_nonneg _ (by omega)) (Int.emod_lt_of_pos _ m0) ⟨fun b o e n => ?_, ?_⟩
      · rw [upd_ne n]
        exact e
      · exact ⟨z, g, hp2⟩
theorem scPick : FnScope ["_law_pen_here", "_law_things"] ["_law_pen_here", "_law_things"] (defScope sPick) := ⟨rfl, rfl, rfl, by decide +kernel, rfl, by decide +kernel, by decide +kernel⟩
theorem ok_pick {fD : Addr} {fdD : FuncData} (F : Fn K "_law_pick" "_law_pick" sPick f fd) (FD : Fn K "_law_draw" "_law_draw" sDraw fD fdD) (gD : mg "_law_draw" = some (.ref fD)) (T : Free mg) : FnOk P w K mg base L2.CX0 2 f fd ["_law_pen_here", "_law_things"] (spPick K) := by
  have GD : FnOk P w K mg base L2.CX0 1 fD fdD ["_law_pen_here", "_law_many"] spDraw := ok_draw FD
  have bD : Binds K fdD ["_law_pen_here", "_law_many"] [] := FD.bindsN fun _ _ _ _ _ _ us hl => match us, hl with | [_, _], _ => rfl
  refine F.ok scPick (fun vs H Q E h => ?_) (fun cdv A outer s H vs Q E hr hh => ?_)
  · obtain ⟨p, a, xs, rfl, _⟩ := h
    rfl
  · obtain ⟨p, a, xs, rfl, hp, ha, ne, hl, q⟩ := hh
    refine ⟨_, PSs.nox (pss_one (ps_ret (pe_ix ix_list (pv 1) (pe_call GD hr rfl gD FD.kp bD .nil pass0 (pa_cons (pv 0) (pa_cons (pe_callB call_len_seq rfl T.len_ boot_len (pa_cons (pv 1) pa_nil)) pa_nil))) (fun _ _ => rfl)))), ?_⟩
    refine ⟨_, rfl, _, rfl, _, rfl, a, xs, rfl, .inl (SqL.of ha), p, _, rfl, hp, ⟨by omega, by omega⟩, fun r H' r0 r1 kp => ?_⟩
    have hlt : r.toNat < xs.length := by omega
    refine ⟨a, xs, r, xs[r.toNat], rfl, rfl, SqL.of (kp.keep _ _ ha ne), ?_, q _ _ (List.getElem_mem _) kp⟩
    exact at_of (j := r.toNat) (by omega) (List.getElem?_eq_getElem hlt)
end
end K2
set_option Elab.async false
set_option linter.all false
set_option maxRecDepth 100000
set_option maxHeartbeats 4000000
namespace K2
open PySem PySem.Spec PyProof.Rows L2 Bb
theorem Th.kp {H H' : Hp} {p : Addr} {x : V} (h : Th H x) (k : Kp p H H') : Th H' x := by
  have one : ∀ {a : Addr} {o : HO}, H a = some o → Th H (.ref a) → (∀ H2 : Hp, H2 a = some o → Th H2 (.ref a)) → Th H' (.ref a) := by
    intro a o e _ back
    by_cases z : a = p
    · obtain ⟨x, f, e2⟩ := k.pen
      rw [z]
      exact .lst e2
    · exact back H' (k.keep _ _ e z)
  cases h with
  | non => exact .non
  | bl b => exact .bl b
  | int i => exact .int i
  | str z => exact .str z
  | lst e => exact one e (.lst e) fun _ e2 => .lst e2
  | tup e => exact one e (.tup e) fun _ e2 => .tup e2
  | dic e => exact one e (.dic e) fun _ e2 => .dic e2
theorem Th.same {H H' : Hp} {x : V} (h : Th H x) (s : Same H H') : Th H' x := by
  cases h with
  | non => exact .non
  | bl b => exact .bl b
  | int i => exact .int i
  | str z => exact .str z
  | lst e => exact .lst (s _ _ e)
  | tup e => exact .tup (s _ _ e)
  | dic e => exact .dic (s _ _ e)
theorem pen_same {H H' : Hp} {p : Addr} (h : Pen H p) (s : Same H H') : Pen H' p := by
  obtain ⟨x, f, e⟩ := h
  exact ⟨x, f, s _ _ e⟩
theorem up1 {H H1 : Hp} {q : Addr} {o : HO} (s : Same H H1) (h : H1 q = none) : Same H (upd H1 q o) := same_upd s (Same.free s h)
theorem up2 {H1 : Hp} {q : Addr} {o : HO} (h : H1 q = none) : Same H1 (upd H1 q o) := same_upd (Same.refl _) h
section
variable {P : Program} {w : World} {K : PySem.W.Frag} {mg : Str → Option Value} {base : Heap} {f : Addr} {fd : FuncData}
/-- the law's first helpers as they stand -/
structure Hl (K : PySem.W.Frag) (mg : Str → Option Value) : Prop where
  draw : ∃ a d, Fn K "_law_draw" "_law_draw" sDraw a d ∧ mg "_law_draw" = some (.ref a)
  pick : ∃ a d, Fn K "_law_pick" "_law_pick" sPick a d ∧ mg "_law_pick" = some (.ref a)
  fr : Free mg
theorem Hl.dr (h : Hl K mg) : ∃ a d, FnOk P w K mg base L2.CX0 1 a d ["_law_pen_here", "_law_many"] spDraw ∧ mg "_law_draw" = some (.ref a) ∧ PySem.W.keepIn K (.ref a) = true ∧ Binds K d ["_law_pen_here", "_law_many"] [] := by
  obtain ⟨a, d, F, g⟩ := h.draw
  exact ⟨a, d, ok_draw F, g, F.kp, F.bindsN fun _ _ _ _ _ _ us hl => match us, hl with | [_, _], _ => rfl⟩
theorem Hl.pk (h : Hl K mg) : ∃ a d, FnOk P w K mg base L2.CX0 2 a d ["_law_pen_here", "_law_things"] (spPick K) ∧ mg "_law_pick" = some (.ref a) ∧ PySem.W.keepIn K (.ref a) = true ∧ Binds K d ["_law_pen_here", "_law_things"] [] := by
  obtain ⟨a1, d1, F1, g1⟩ := h.draw
  obtain ⟨a, d, F, g⟩ := h.pick
  exact ⟨a, d, ok_pick F F1 g1 h.fr, g, F.kp, F.bindsN fun _ _ _ _ _ _ us hl => match us, hl with | [_, _], _ => rfl⟩
end
end K2
set_option Elab.async false
set_option linter.all false
set_option maxRecDepth 100000
set_option maxHeartbeats 4000000
namespace K2
open PySem PySem.Spec PyProof.Rows L2 Bb
section
variable {P : Program} {w : World} {K : PySem.W.Frag} {mg : Str → Option Value} {base : Heap} {f : Addr} {fd : FuncData}
theorem scNum : FnScope ["_law_thing", "_law_least", "_law_greatest"] ["_law_thing", "_law_least", "_law_greatest"] (defScope sNum) := ⟨rfl, rfl, rfl, by decide +kernel, rfl, by decide +kernel, by decide +kernel⟩
theorem ok_num (F : Fn K "_law_number" "_law_number" sNum f fd) (T : Free mg) : FnOk P w K mg base L2.CX0 1 f fd ["_law_thing", "_law_least", "_law_greatest"] spFrom := by
  refine F.ok scNum (fun vs H Q E h => ?_) (fun cdv A outer s H vs Q E hr hh => ?_)
  · obtain ⟨x, lo, hi, rfl, _⟩ := h
    rfl
  · obtain ⟨x, lo, hi, rfl, hx, q⟩ := hh
    obtain ⟨n, ty, k1, k2⟩ := hx.ty (K := K)
    refine ⟨_, PSs.nox (pss_one (ps_ret (pe_and (pe_callB call_isi rfl T.isi boot_isinstance (pa_cons (pv 0) (pa_cons (pe_bltn rfl T.int_ (by decide +kernel) (v := .ty "int") rfl) pa_nil)))
      (pe_and (pe_not (pe_callB call_isi rfl T.isi boot_isinstance (pa_cons (pv 0) (pa_cons (pe_bltn rfl T.bool_ (by decide +kernel) (v := .ty "bool") rfl) pa_nil))))
      (pe_one (pe_chain op_le op_le (pv 1) (pv 0) (pv 2))))))), ?_⟩
    refine ⟨x, rfl, _, _, _, _, _, rfl, .ty "int", ty, kit_ty k1, _, rfl, ?_⟩
    cases x with
    | int i =>
      refine ⟨_, rfl, _, _, _, _, _, rfl, .ty "bool", ty, kit_ty k2, _, rfl, _, rfl, iteT ?_⟩
      refine ⟨_, rfl, _, rfl, _, _, rfl, rfl, _, rfl, ?_⟩
      refine ite2 (fun c => ?_) (fun c => ?_)
      · refine ⟨_, rfl, _, _, rfl, rfl, ?_⟩
        have e : numIn lo hi (.int i) = decide (i ≤ hi) := by
          show (decide (lo ≤ i) && decide (i ≤ hi)) = _
          rw [c, Bool.true_and]
        rw [e] at q
        exact q
      · have e : numIn lo hi (.int i) = false := by
          show (decide (lo ≤ i) && decide (i ≤ hi)) = _
          rw [Bool.eq_false_iff.mpr c, Bool.false_and]
        rw [e] at q
        exact q
    | bl b => exact ⟨_, rfl, _, _, _, _, _, rfl, .ty "bool", ty, kit_ty k2, _, rfl, _, rfl, iteF q⟩
    | _ => exact q
end
end K2
set_option Elab.async false
set_option linter.all false
set_option maxRecDepth 100000
set_option maxHeartbeats 4000000
namespace K2
open PySem PySem.Spec PyProof.Rows L2 Bb
theorem keys_put {kvs : List (Key × V)} {ks : List Int} (h : kvs.map (·.1) = ks.map Sum.inl) (k : Int) (v : V) :
    (putK kvs (Sum.inl k : Key) v).map (·.1) = (if k ∈ ks then ks else ks ++ [k]).map Sum.inl := by
  have mem : (kvs.any fun kv => decide (kv.1 = (Sum.inl k : Key))) = decide (k ∈ ks) := by
    have e : (kvs.any fun kv => decide (kv.1 = (Sum.inl k : Key))) = (kvs.map (·.1)).any fun x => decide (x = (Sum.inl k : Key)) := by
      rw [List.any_map]
      rfl
    rw [e, h, List.any_map]
    rw [Bool.eq_iff_iff, List.any_eq_true, decide_eq_true_iff]
    constructor
    · rintro ⟨x, hx, hk⟩
      have q : (Sum.inl x : Key) = Sum.inl k := of_decide_eq_true hk
      rw [← Sum.inl.inj q]
      exact hx
    · intro hk
      exact ⟨k, hk, decide_eq_true rfl⟩
  unfold putK
  rw [mem]
  by_cases c : k ∈ ks
  · rw [if_pos (decide_eq_true c), if_pos c, ← h, List.map_map]
    apply List.map_congr_left
    rintro ⟨a, b⟩ _
    simp only [Function.comp]
    split <;> rfl
  · rw [if_neg (by simp [c]), if_neg c, List.map_append, List.map_append, h]
    rfl
theorem rising_of {ks ys : List Int} (hp : ys.Perm ks) (hw : ys.Pairwise (· ≤ ·)) (hn : ks.Nodup) : ys.Pairwise (· < ·) := by
  have hn2 : ys.Nodup := hp.nodup_iff.mpr hn
  exact (List.pairwise_and_iff.mpr ⟨hw, hn2⟩).imp fun {a b} h => by
    obtain ⟨h1, h2⟩ := h
    omega
def spTerms : Sp := fun vs H Q _ => ∃ p : Addr, vs = [.ref p] ∧ Pen H p ∧ ∀ (T l : Addr) (ns : List Int) (up : Bool) (wd : Int) (sh : Bool) (H' : Hp), Kp p H H' → H T = none → H' T = some (.tup [.ref l, .bl up, .int wd, .bl sh]) → H' l = some (.tup (ns.map V.int)) → OkL ns → (-99 ≤ wd ∧ wd ≤ 99) → Q (.ref T) H'
section
variable {P : Program} {w : World} {K : PySem.W.Frag} {mg : Str → Option Value} {base : Heap} {f : Addr} {fd : FuncData}
abbrev nTerms : List Str := ["_law_pen_here", "_law_bars", "_law_turn", "_law_gust"]
theorem scTerms : FnScope nTerms ["_law_pen_here"] (defScope sTerms) := ⟨rfl, rfl, rfl, by decide +kernel, rfl, by decide +kernel, by decide +kernel⟩
theorem ok_terms (F : Fn K "_law_terms" "_law_terms" sTerms f fd) (h : Hl K mg) : FnOk P w K mg base L2.CX0 3 f fd ["_law_pen_here"] spTerms := by
  obtain ⟨aP, dP, GP, gP, kP, bP⟩ := h.pk (P := P) (w := w) (base := base)
  obtain ⟨aD, dD, GD, gD, kD, bD⟩ := h.dr (P := P) (w := w) (base := base)
  refine F.ok scTerms (fun vs H Q E h => ?_) (fun cdv A outer s H vs Q E hr hh => ?_)
  · obtain ⟨p, rfl, _⟩ := h
    rfl
  · obtain ⟨p, rfl, hp, q⟩ := hh
    have hr1 : Room 1 _ := hr.mono (by decide)
    have hu := hu_of hr
    refine ⟨_, PSs.nox (pss_cons (ps_set (i := 1) scTerms.nd rfl (.inl rfl) pe_dnewK)
      (pss_cons (ps_for PassesOwn.never rfl (pi_range1 rfl h.fr.rng_ (pa_cons (pe_call GD hr1 rfl gD kD bD .nil pass0 (pa_cons (pv 0) (pa_cons pe_int pa_nil))) pa_nil)) (pg_name (i := 2) scTerms.nd rfl (Or.inl rfl))
        (pss_one (ps_dput hu (pv 1) (pe_op op_add pe_int (pe_call GD hr1 rfl gD kD bD .nil pass0 (pa_cons (pv 0) (pa_cons pe_int pa_nil)))) pe_bl rfl)))
      (pss_cons (ps_set (i := 3) scTerms.nd rfl (.inl rfl) (pe_call GP hr rfl gP kP bP .nil pass0 (pa_cons (pv 0) (pa_cons (pe_lst (pa_cons pe_int (pa_cons pe_int (pa_cons pe_int (pa_cons (pe_un un_neg pe_int) (pa_cons (pe_op op_sub (pe_call GD hr1 rfl gD kD bD .nil pass0 (pa_cons (pv 0) (pa_cons pe_int pa_nil))) pe_int) pa_nil)))))) pa_nil))))
      (pss_one (ps_ret (pe_tup (pa_cons (pe_callTy call_tuple_of rfl h.fr.tup_ (by decide +kernel) (pa_cons (pe_callB (call_sortedDI rfl) rfl h.fr.srt_ (by decide +kernel) (pa_cons (pv 1) pa_nil)) pa_nil))
        (pa_cons (pe_cmpR op_eq (pe_call GD hr1 rfl gD kD bD .nil pass0 (pa_cons (pv 0) (pa_cons pe_int pa_nil))) pe_int (nomark _)) (pa_cons (pv 3)
        (pa_cons (pe_cmpR op_eq (pe_call GD hr1 rfl gD kD bD .nil pass0 (pa_cons (pv 0) (pa_cons pe_int pa_nil))) pe_int (nomark _)) pa_nil)))))))))), ?_⟩
    intro d hd
    have nd : d ≠ p := by
      rintro rfl
      obtain ⟨x, g, e⟩ := hp
      rw [hd] at e
      cases e
    have s1 : Same H (upd H d (.dK [])) := up2 hd
    have hp1 := pen_same hp s1
    refine ⟨_, rfl, p, 5, rfl, hp1, ⟨by decide, by decide⟩, fun r H1 r0 r1 kp1 => ?_⟩
    have kH1 : Kp p H H1 := ((Kp.refl hp).same s1).trans kp1
    refine ⟨r, rfl, by omega, by omega, ?_⟩
    refine for_range (lo := 0) (n := r.toNat) (fun i σ H2 => ∃ (kvs : List (Key × V)) (ks : List Int) (tv : Option V), σ = [some (.ref p), some (.ref d), tv, none] ∧ Kp p H H2 ∧ H2 d = some (.dK kvs) ∧ kvs.map (·.1) = ks.map Sum.inl ∧ ks.Nodup ∧ ks.length ≤ i ∧ ∀ k ∈ ks, 1 ≤ k ∧ k ≤ 99)
      ⟨[], [], none, rfl, kH1, kp1.keep _ _ upd_same nd, rfl, List.nodup_nil, Nat.le_refl _, fun k hk => by cases hk⟩ ?_ ?_
    · rintro i σ H2 hi ⟨kvs, ks, tv, rfl, kH2, h2, hks, hnd, hlen, hrg⟩
      refine ⟨_, rfl, ?_⟩
      refine ⟨_, rfl, p, 99, rfl, kH2.pen, ⟨by decide, by decide⟩, fun z H3 z0 z1 kp3 => ?_⟩
      refine ⟨_, _, rfl, rfl, d, _, rfl, DPut.k (k := Sum.inl (1 + z)) (kp3.keep _ _ h2 nd) (small1000 ?_), ?_⟩
      · have e : kvs.length = ks.length := by
          have := congrArg List.length hks
          simpa using this
        omega
      · have k3 : Kp p H H3 := kH2.trans kp3
        have hdn : H d = none := hd
        refine ⟨_, (if 1 + z ∈ ks then ks else ks ++ [1 + z]), _, rfl, ⟨fun b o e n => ?_, ?_⟩, upd_same, keys_put hks _ _, ?_, ?_, ?_⟩
        · rw [upd_ne (ne_of_none e hdn)]
          exact k3.keep _ _ e n
        · obtain ⟨x, g, e⟩ := k3.pen
          exact ⟨x, g, by rw [upd_ne (Ne.symm nd)]; exact e⟩
        · by_cases c : 1 + z ∈ ks
          · rw [if_pos c]
            exact hnd
          · rw [if_neg c]
            rw [List.nodup_append]
            refine ⟨hnd, by simp, ?_⟩
            intro a ha b hb
            have : b = 1 + z := by simpa using hb
            rw [this]
            rintro rfl
            exact c ha
        · by_cases c : 1 + z ∈ ks
          · rw [if_pos c]
            omega
          · rw [if_neg c, List.length_append, List.length_singleton]
            omega
        · by_cases c : 1 + z ∈ ks
          · rw [if_pos c]
            exact hrg
          · rw [if_neg c]
            intro k hk
            rcases List.mem_append.mp hk with q | q
            · exact hrg k q
            · have : k = 1 + z := by simpa using q
              omega
    · rintro σ H2 ⟨kvs, ks, tv, rfl, kH2, h2, hks, hnd, hlen, hrg⟩
      have hlen4 : ks.length ≤ 4 := by omega
      -- the gust
      refine ⟨_, rfl, _, rfl, ?_⟩
      refine ⟨_, rfl, p, 199, rfl, kH2.pen, ⟨by decide, by decide⟩, fun z H3 z0 z1 kp3 => ?_⟩
      refine ⟨_, _, rfl, rfl, (by show 5 ≤ sizeLine; decide), fun L hL => ?_⟩
      have s4 := up2 (o := .lst [.int 20, .int 0, .int 99, .int (-99), .int (z - 99)]) hL
      have k4 : Kp p H2 (upd H3 L (.lst [.int 20, .int 0, .int 99, .int (-99), .int (z - 99)])) := kp3.same s4
      have nL : L ≠ p := pen_ne k4.pen upd_same (fun x f z => by injection z with z; injection z with _ z; injection z with _ z; cases z)
      refine ⟨p, L, _, rfl, k4.pen, upd_same, nL, ⟨(by show 0 < 5; decide), (by show 5 ≤ 1000; decide)⟩, fun v H5 hv kp5 => ?_⟩
      have k5 : Kp p H2 H5 := k4.trans kp5
      obtain ⟨wd, rfl, w0, w1⟩ : ∃ wd, v = .int wd ∧ -99 ≤ wd ∧ wd ≤ 99 := by
        simp only [List.mem_cons, List.not_mem_nil, or_false] at hv
        rcases hv with rfl | rfl | rfl | rfl | rfl
        · exact ⟨_, rfl, by omega, by omega⟩
        · exact ⟨_, rfl, by omega, by omega⟩
        · exact ⟨_, rfl, by omega, by omega⟩
        · exact ⟨_, rfl, by omega, by omega⟩
        · exact ⟨_, rfl, by omega, by omega⟩
      -- the tuple
      have h5 : H5 d = some (.dK kvs) := k5.keep _ _ h2 nd
      refine ⟨_, rfl, d, kvs, ks, rfl, .inl h5, hks, by omega, fun ys S perm pw hS => ?_⟩
      refine ⟨S, _, rfl, .inl ⟨SqL.of upd_same, fun l hl => ?_⟩⟩
      have s6 := up2 (o := .lst (ys.map V.int)) hS
      have s7 := up2 (o := .tup (ys.map V.int)) hl
      have s67 := s6.trans s7
      have kA := k5.same s67
      refine ⟨_, rfl, p, 2, rfl, kA.pen, ⟨by decide, by decide⟩, fun u1 H8 _ _ kp8 => ⟨rfl, ?_⟩⟩
      refine ⟨_, rfl, ?_⟩
      refine ⟨_, rfl, p, 2, rfl, kp8.pen, ⟨by decide, by decide⟩, fun u2 H9 _ _ kp9 => ⟨rfl, ?_⟩⟩
      refine ⟨(by show 4 ≤ sizeLine; decide), fun T hT => ?_⟩
      have k9 : Kp p H H9 := (kH2.trans kA).trans (kp8.trans kp9)
      have nlp : l ≠ p := pen_ne kA.pen upd_same (fun x f z => by cases z)
      refine q T l ys _ wd _ _ (k9.same (up2 hT)) (k9.free hp hT) upd_same ?_ ?_ ⟨w0, w1⟩
      · have z8 := kp8.keep _ _ (upd_same (H := upd H5 S (.lst (ys.map V.int))) (a := l) (o := .tup (ys.map V.int))) nlp
        have z9 := kp9.keep _ _ z8 nlp
        rw [upd_ne (ne_of_none z9 hT)]
        exact z9
      · exact ⟨by rw [perm.length_eq]; exact hlen4, fun n hn => hrg n (perm.mem_iff.mp hn), rising_of perm pw hnd⟩
end
end K2
set_option Elab.async false
set_option linter.all false
set_option maxRecDepth 100000
set_option maxHeartbeats 4000000
namespace K2
open PySem PySem.Spec PyProof.Rows L2 Bb
/-! which refusal it is: the classes in the order of the law's tests, the words -/
abbrev kOrd : List Str := ["NoMark", "NoWay", "NoRules", "NoAge", "NoPerson", "NoDay", "NoDeed", "NoSheet", "NoWord", "NoBook", "NoText", "NoName"]
abbrev kTxt : Str := "nomark noway norules noage noperson noday nodeed nosheet noword nobook notext noname"
def kWords : List Str := ["nomark", "noway", "norules", "noage", "noperson", "noday", "nodeed", "nosheet", "noword", "nobook", "notext", "noname"]
theorem kSplit : Txt.split kTxt " " = kWords := by decide +kernel
def bsV (j : Nat) : List V := [.bl (decide (0 = j)), .bl (decide (1 = j)), .bl (decide (2 = j)), .bl (decide (3 = j)), .bl (decide (4 = j)), .bl (decide (5 = j)), .bl (decide (6 = j)), .bl (decide (7 = j)), .bl (decide (8 = j)), .bl (decide (9 = j)), .bl (decide (10 = j)), .bl (decide (11 = j))]
theorem bs_flat (j : Nat) : (bsV j).all flatV = true := rfl
theorem bs_count : ∀ j : Fin 12, (bsV j).countP (fun z => eqV z (.bl true)) = 1 := by decide +kernel
theorem bs_at : ∀ j : Fin 12, (bsV j)[(j : Nat)]? = some (.bl true) := by
  intro j
  match j with
  | ⟨0, _⟩ => rfl
  | ⟨1, _⟩ => rfl
  | ⟨2, _⟩ => rfl
  | ⟨3, _⟩ => rfl
  | ⟨4, _⟩ => rfl
  | ⟨5, _⟩ => rfl
  | ⟨6, _⟩ => rfl
  | ⟨7, _⟩ => rfl
  | ⟨8, _⟩ => rfl
  | ⟨9, _⟩ => rfl
  | ⟨10, _⟩ => rfl
  | ⟨11, _⟩ => rfl
theorem bs_no : ∀ j m : Fin 12, m < j → ((bsV j)[(m : Nat)]?.all fun z => !eqV z (.bl true)) = true := by decide +kernel
/-- what the class D of errors must say: it is the j-th -/
structure Kd (K : PySem.W.Frag) (mg : Str → Option Value) (D : Addr) (j : Fin 12) : Prop where
  c : ∀ (i : Nat) (x : Str), kOrd[i]? = some x → ∃ C, mg x = some (.ref C) ∧ PySem.W.kitOne K (.ref D) (.ref C) = some (decide (i = (j : Nat)))
  ve : PySem.W.kitOne K (.ref D) (.type "ValueError") = some true
  le : PySem.W.kitOne K (.ref D) (.type "LookupError") = some false
  ex : ExcC K D
section
variable {P : Program} {w : World} {K : PySem.W.Frag} {mg : Str → Option Value} {base : Heap} {f : Addr} {fd : FuncData}
abbrev nKind : List Str := ["_law_e", "_law_tests", "_law_kinds"]
theorem scKind : FnScope nKind ["_law_e"] (defScope sKind) := ⟨rfl, rfl, rfl, by decide +kernel, rfl, by decide +kernel, by decide +kernel⟩
theorem ok_kind {D : Addr} {j : Fin 12} {z : Str} (F : Fn K "_law_kind" "_law_kind" sKind f fd) (T : Free mg) (k : Kd K mg D j) (hz : kWords[(j : Nat)]? = some z) : FnE P w K mg base 1 f fd ["_law_e"] D (.str z) := by
  refine fnE F scKind fun cdv A outer s H a oe Q hr hZ hd back => ?_
  obtain ⟨C0, g0, e0⟩ := k.c 0 _ rfl
  obtain ⟨C1, g1, e1⟩ := k.c 1 _ rfl
  obtain ⟨C2, g2, e2⟩ := k.c 2 _ rfl
  obtain ⟨C3, g3, e3⟩ := k.c 3 _ rfl
  obtain ⟨C4, g4, e4⟩ := k.c 4 _ rfl
  obtain ⟨C5, g5, e5⟩ := k.c 5 _ rfl
  obtain ⟨C6, g6, e6⟩ := k.c 6 _ rfl
  obtain ⟨C7, g7, e7⟩ := k.c 7 _ rfl
  obtain ⟨C8, g8, e8⟩ := k.c 8 _ rfl
  obtain ⟨C9, g9, e9⟩ := k.c 9 _ rfl
  obtain ⟨C10, g10, e10⟩ := k.c 10 _ rfl
  obtain ⟨C11, g11, e11⟩ := k.c 11 _ rfl
  let X := L2H.cxH (fun _ _ _ _ _ _ => False) P w K mg base nKind "_law_kind" (defScope sKind) f cdv A outer s H (fun _ _ _ => False) (a, oe)
  have isi : CallR X (.builtin "isinstance") (rIsE K D a) := call_isP (X := X) List.mem_cons_self k.ex hZ hd
  have cmp : ∀ {C : Addr} {x : Str} {p q r t : Pos}, mg x = some (.ref C) → Gl X x → (x == ("__debug__" : Str)) = false →
      PE X (.Call (.Name "isinstance" p) [.Name "_law_e" q, .Name x r] [] t) (tCB (rIsE K D a) (tCons (tVar 0) (tCons (tC (.ref C)) tNil))) := fun g gl db => pe_callB isi rfl T.isi boot_isinstance (pa_cons (pv 0) (pa_cons (pe_glob gl g (v := .ref _) rfl db) pa_nil))
  refine ⟨_, pss_cons (ps_set (i := 1) scKind.nd rfl (.inl rfl) (pe_lst (pa_cons (cmp g0 rfl (by decide)) (pa_cons (cmp g1 rfl (by decide)) (pa_cons (cmp g2 rfl (by decide)) (pa_cons (cmp g3 rfl (by decide)) pa_nil))))))
    (pss_cons (ps_set (i := 1) scKind.nd rfl (.inl rfl) (pe_op op_cat (pv 1) (pe_lst (pa_cons (cmp g4 rfl (by decide)) (pa_cons (cmp g5 rfl (by decide)) (pa_cons (cmp g6 rfl (by decide)) (pa_cons (cmp g7 rfl (by decide)) pa_nil)))))))
    (pss_cons (ps_set (i := 1) scKind.nd rfl (.inl rfl) (pe_op op_cat (pv 1) (pe_lst (pa_cons (cmp g8 rfl (by decide)) (pa_cons (cmp g9 rfl (by decide)) (pa_cons (cmp g10 rfl (by decide)) (pa_cons (cmp g11 rfl (by decide)) pa_nil)))))))
    (pss_cons (ps_if (PW.pt (pw_or (pt_cmpR op_ne (pe_bm PySem.F.plainAttrs_list PySem.F.slot_list_count PySem.F.type_list_count mt_countF (pv 1) (pa_cons pe_bl pa_nil)) pe_int (nomark _))
        (pw_or (pt_not (pt_val (pe_callB isi rfl T.isi boot_isinstance (pa_cons (pv 0) (pa_cons (pe_bltn rfl T.ve_ (by decide +kernel) (v := .ty "ValueError") rfl) pa_nil)))))
        (pw_or1 (pt_val (pe_callB isi rfl T.isi boot_isinstance (pa_cons (pv 0) (pa_cons (pe_bltn rfl T.le_ (by decide +kernel) (v := .ty "LookupError") rfl) pa_nil)))))))) (pss_one (ps_ret pe_str)) pss_nil)
    (pss_cons (ps_set (i := 2) scKind.nd rfl (.inl rfl) pe_str)
    (pss_one (ps_ret (pe_ix ix_list (pe_bm PySem.F.plainAttrs_str PySem.F.slot_str_split PySem.F.type_str_split mt_split (pv 2) (pa_cons pe_str pa_nil)) (pe_bm PySem.F.plainAttrs_list PySem.F.slot_list_index PySem.F.type_list_index mt_index (pv 1) (pa_cons pe_bl pa_nil)) (fun _ _ => rfl)))))))), ?_⟩
  have own : ∀ {C : Addr} (u : Value), RelV (.ref C) u → u = .ref C := fun u r => r
  have fs : 4 ≤ sizeLine := by decide
  refine ⟨_, rfl, _, _, _, rfl, own, e0, _, rfl, _, _, _, rfl, own, e1, _, rfl, _, _, _, rfl, own, e2, _, rfl, _, _, _, rfl, own, e3, fs, fun l1 h1 => ?_⟩
  have s1 := up2 (o := .lst [.bl (decide (0 = (j : Nat))), .bl (decide (1 = (j : Nat))), .bl (decide (2 = (j : Nat))), .bl (decide (3 = (j : Nat)))]) h1
  refine ⟨_, rfl, _, rfl, _, _, _, rfl, own, e4, _, rfl, _, _, _, rfl, own, e5, _, rfl, _, _, _, rfl, own, e6, _, rfl, _, _, _, rfl, own, e7, fs, fun l2 h2 => ?_⟩
  have s2 := up2 (o := .lst [.bl (decide (4 = (j : Nat))), .bl (decide (5 = (j : Nat))), .bl (decide (6 = (j : Nat))), .bl (decide (7 = (j : Nat)))]) h2
  refine ⟨l1, l2, _, _, rfl, rfl, s2 _ _ upd_same, upd_same, (by show 4 + 4 ≤ sizeLine; decide), fun l3 h3 => ?_⟩
  have s3 := up2 (o := .lst ([.bl (decide (0 = (j : Nat))), .bl (decide (1 = (j : Nat))), .bl (decide (2 = (j : Nat))), .bl (decide (3 = (j : Nat)))] ++ [.bl (decide (4 = (j : Nat))), .bl (decide (5 = (j : Nat))), .bl (decide (6 = (j : Nat))), .bl (decide (7 = (j : Nat)))])) h3
  refine ⟨_, rfl, _, rfl, _, _, _, rfl, own, e8, _, rfl, _, _, _, rfl, own, e9, _, rfl, _, _, _, rfl, own, e10, _, rfl, _, _, _, rfl, own, e11, fs, fun l4 h4 => ?_⟩
  have s4 := up2 (o := .lst [.bl (decide (8 = (j : Nat))), .bl (decide (9 = (j : Nat))), .bl (decide (10 = (j : Nat))), .bl (decide (11 = (j : Nat)))]) h4
  refine ⟨l3, l4, _, _, rfl, rfl, s4 _ _ upd_same, upd_same, (by show 8 + 4 ≤ sizeLine; decide), fun l5 h5 => ?_⟩
  have s5 := up2 (o := .lst (bsV j)) h5
  have all : Same H _ := (s1.trans s2).trans (s3.trans (s4.trans s5))
  refine ⟨_, rfl, .inl ⟨rfl, _, SqL.of upd_same⟩, l5, bsV j, .bl true, rfl, rfl, SqL.of upd_same, rfl, bs_flat j, rfl, _, rfl, ?_⟩
  have c1 : ((((bsV j).countP fun z => eqV z (.bl true)) : Nat) : Int) = 1 := by
    rw [bs_count j]
    rfl
  show if (!decide (V.int ((((bsV j).countP fun z => eqV z (.bl true)) : Nat) : Int) = V.int 1)) = true then _ else _
  rw [c1]
  refine iteF ?_
  refine ⟨_, rfl, _, _, _, rfl, (fun u r => r), k.ve, _, rfl, ?_⟩
  refine iteF ?_
  refine ⟨_, rfl, _, _, _, rfl, (fun u r => r), k.le, _, rfl, ?_⟩
  refine iteF ?_
  refine ⟨_, rfl, rfl, _, _, rfl, rfl, rfl, (by decide +kernel), fun l6 h6 => ?_⟩
  have s6 := up2 (o := .lst ((Txt.split kTxt " ").map V.str)) h6
  have h5b : (upd _ l6 (.lst ((Txt.split kTxt " ").map V.str))) l5 = some (.lst (bsV j)) := s6 _ _ upd_same
  refine ⟨_, rfl, .inl ⟨rfl, _, SqL.of h5b⟩, l5, bsV j, .bl true, j, .bl true, rfl, rfl, SqL.of h5b, rfl, bs_flat j, bs_at j, rfl, ?_, ?_⟩
  · intro m z' hm hz'
    have lt : m < 12 := Nat.lt_trans hm j.isLt
    have q := bs_no j ⟨m, lt⟩ hm
    have hz2 : (bsV j)[((⟨m, lt⟩ : Fin 12) : Nat)]? = some z' := hz'
    rw [hz2] at q
    simpa using q
  · refine ⟨l6, (Txt.split kTxt " ").map V.str, _, .str z, rfl, rfl, SqL.of upd_same, ?_, back _ (all.trans s6)⟩
    refine at_of (j := (j : Nat)) rfl ?_
    rw [kSplit, List.getElem?_map, hz]
    rfl
end
end K2
set_option Elab.async false
set_option linter.all false
set_option maxRecDepth 100000
set_option maxHeartbeats 4000000
namespace K2
open PySem PySem.Spec PyProof.Rows L2 Bb
/-! came: what is told, or the refusal. kt: the classes that the call may raise, each with its word -/
def wish (kt : List (Addr × Str)) (Q : VK) : XK := fun cls d H' => d = none ∧ ∃ D z, (D, z) ∈ kt ∧ cls = .ref D ∧ ∀ H'', Same H' H'' → ∀ p, H'' p = none → Q (.ref p) (upd H'' p (.tup [.str "no", .str z]))
def TCame (kt : List (Addr × Str)) : (XK → Hp → VK → Prop) → Hp → VK → Prop := fun tl H Q =>
  tl (wish kt Q) H (fun v H' => [V.str "told", v].length ≤ sizeLine ∧ ∀ p, H' p = none → Q (.ref p) (upd H' p (.tup [.str "told", v])))
/-- what a class of errors says in the law -/
structure Er (K : PySem.W.Frag) (mg : Str → Option Value) (CC : Addr) (D : Addr) (z : Str) : Prop where
  kd : ∃ j : Fin 12, Kd K mg D j ∧ kWords[(j : Nat)]? = some z
  ex : PySem.W.exmOne K (.ref D) (.ref CC) = some true
abbrev nCame : List Str := ["_law_call", "_law_e"]
theorem scCame : FnScope nCame ["_law_call"] (defScope sCame) := ⟨rfl, rfl, rfl, by decide +kernel, rfl, by decide +kernel, by decide +kernel⟩
theorem came_gives {X : Cx} {g fK CC CP : Addr} {fdK : FuncData} {cdg : Value} {q : Str} {kt : List (Addr × Str)} {m : Nat} (hr : Room (m + 2) X.A) (FK : Fn X.K "_law_kind" "_law_kind" sKind fK fdK) (gK : X.mg "_law_kind" = some (.ref fK)) (T : Free X.mg)
    (gC : X.mg "ClubError" = some (.ref CC)) (gP : X.mg "NoPlace" = some (.ref CP)) (hk : ∀ D z, (D, z) ∈ kt → Er X.K X.mg CC D z) :
    LamX.GivesTo X nCame "_law_came" (defScope sCame) g cdg (defBody sCame) "_law_call" q (TCame kt) := by
  intro f c' s H Q tl act hc h
  let Z : Cx := (cxOf C8.CX0 X.prog X.w X.K X.mg X.base nCame "_law_came" (defScope sCame) g cdg X.A X.stack s H C8.E0).nox
  have bK : Binds X.K fdK ["_law_e"] [] := FK.bindsN fun _ _ _ _ _ _ us hl => match us, hl with | [_], _ => rfl
  have room : L2H.RoomH 1 Z.A := ((L2H.roomH_of hr).mono (by omega)).deeper _
  let ts1 : Addr → Value → Option Addr → TS := fun a cls d => fun De σ H => ∃ D z, cls = .ref D ∧ d = none ∧ (D, z) ∈ kt ∧
    (σ.length = 2 → tRet (tTup (tCons (tC (.str "no")) (tCons (fun σ H Q => (tCons (tVar 1) tNil) σ H fun vs H1 => vs = [.ref a] ∧ ∀ H', (∀ b o, H1 b = some o → H' b = some o) → Q (.str z) H') tNil))) De σ H)
  refine ⟨_, pss_one (ps_try_all (X := Z) (l := [(.ref CC, 1, ts1), (.ref CP, 1, fun _ _ _ => tNever)]) (Wout := fun _ _ _ _ => False)
    (tb := fun W D σ H => ∃ Ech : XK, (∀ cls d σ' H', Ech cls d H' → W cls d σ' H') ∧ tRet (tTup (tCons (tC (.str "told")) (tCons (fun σZ HZ Q => σZ[0]? = some (some (.ref f)) ∧ HZ c' = some (LamX.CodeO c' q) ∧ tl Ech HZ Q) tNil))) D σ H)
    rfl rfl scCame.nd LamX.takes0 (fun W pn xe tk _ => ?_)
    (.cons rfl rfl ⟨rfl, by decide, .inl gC⟩ (fun a oe cls d pn hz hf => ?_) (.cons rfl rfl ⟨rfl, by decide, .inl gP⟩ (fun a oe cls d pn hz hf => pss_never) .nil))), ?_⟩
  · refine ⟨fun pins s' σ H' D I h' => ?_⟩
    obtain ⟨Ech, hW, h1⟩ := h'
    exact (pss_one (ps_ret (pe_tup (pa_cons pe_str (pa_cons (act W pn xe Ech _ _ tk hW) pa_nil))))).run pins s' σ H' D I h1
  · refine ⟨fun pins s' σ H' De I h' => ?_⟩
    obtain ⟨D, z, rfl, rfl, hm, h1⟩ := h'
    obtain ⟨j, kd, hw⟩ := (hk D z hm).kd
    have FE : FnE X.prog X.w X.K X.mg X.base 1 fK fdK ["_law_e"] D (.str z) := ok_kind FK T kd hw
    exact (pss_one (ps_ret (pe_tup (pa_cons pe_str (pa_cons (pe_callE (X := Z) (x := "_law_kind") FE room rfl gK FK.kp bK hz hf (pa_cons (pv 1) pa_nil)) pa_nil))))).run pins s' σ H' De I (h1 I.len)
  · refine ⟨wish kt Q, ?_, ?_⟩
    · rintro cls d σ' H' ⟨rfl, D, z, hm, rfl, back⟩
      refine ⟨true, (hk D z hm).ex, fun _ a ha => ?_, fun e => by cases e⟩
      refine ⟨D, z, rfl, rfl, hm, fun hlen => ?_⟩
      have e : (σ'.set 1 (some (V.ref a)))[1]? = some (some (V.ref a)) := by
        rw [List.length_set] at hlen
        rw [List.getElem?_set_self (by omega)]
      exact ⟨_, e, rfl, fun H'' sm => ⟨(by show 2 ≤ sizeLine; decide), fun p hp => back H'' sm p hp⟩⟩
    · exact ⟨rfl, hc, h⟩
end K2
set_option Elab.async false
set_option linter.all false
set_option maxRecDepth 100000
set_option maxHeartbeats 4000000
namespace K2
open PySem PySem.Spec PyProof.Rows L2 Bb
/-! limits among data -/
def isLims (d : PyData) : Prop := ∃ ns : List Int, d = .tuple (ns.map PyData.int) ∧ OkL ns
theorem Da.th {Z : Addr → Prop} {H : Hp} {x : V} {d : PyData} (h : Da Z H x d) : Th H x := by
  cases h with
  | non => exact .non
  | bl b => exact .bl b
  | int i => exact .int i
  | str z => exact .str z
  | lst h _ _ => exact .lst h
  | tup h _ _ => exact .tup h
  | d0 h _ => exact .dic h
  | d1 h _ => exact .dic h
theorem in_nums {Z : Addr → Prop} {H : Hp} {lo hi : Int} : ∀ {xs : List V} {ds : List PyData}, DaAll Z H xs ds → (xs.map (numIn lo hi)).all id = true → ∃ ns : List Int, xs = ns.map V.int ∧ ds = ns.map PyData.int ∧ ∀ n ∈ ns, lo ≤ n ∧ n ≤ hi
  | [], _, h, _ => by
    cases h
    exact ⟨[], rfl, rfl, fun n hn => by cases hn⟩
  | x :: xs, _, h, e => by
    cases h with
    | cons a b =>
      rw [List.map_cons, List.all_cons, Bool.and_eq_true] at e
      obtain ⟨ns, e1, e2, e3⟩ := in_nums b e.2
      cases x with
      | int i =>
        cases a
        have e4 : (decide (lo ≤ i) && decide (i ≤ hi)) = true := e.1
        rw [Bool.and_eq_true, decide_eq_true_iff, decide_eq_true_iff] at e4
        refine ⟨i :: ns, by rw [e1]; rfl, by rw [e2]; rfl, fun n hn => ?_⟩
        rcases List.mem_cons.mp hn with q | q
        · rw [q]
          exact e4
        · exact e3 n q
      | _ => cases e.1
theorem da_ints {Z : Addr → Prop} {H : Hp} : ∀ {ns : List Int} {xs : List V}, DaAll Z H xs (ns.map PyData.int) → xs = ns.map V.int
  | [], _, h => by
    cases h
    rfl
  | n :: ns, _, h => by
    cases h with
    | cons a b =>
      cases a
      rw [da_ints b]
      rfl
def riseB (ns : List Int) : List Bool := (ns.zip (ns.drop 1)).map fun p => decide (p.1 < p.2)
theorem riseB_all : ∀ ns : List Int, (riseB ns).all id = true ↔ ns.Pairwise (· < ·)
  | [] => by simp [riseB]
  | [a] => by simp [riseB]
  | a :: b :: r => by
    have ih := riseB_all (b :: r)
    have e : riseB (a :: b :: r) = decide (a < b) :: riseB (b :: r) := by simp [riseB]
    rw [e, List.all_cons, Bool.and_eq_true, ih]
    simp only [id, decide_eq_true_iff]
    constructor
    · rintro ⟨h1, h2⟩
      refine List.pairwise_cons.mpr ⟨fun z hz => ?_, h2⟩
      rcases List.mem_cons.mp hz with q | q
      · rw [q]
        exact h1
      · exact Int.lt_trans h1 ((List.pairwise_cons.mp h2).1 z q)
    · intro h
      have h2 := List.pairwise_cons.mp h
      exact ⟨h2.1 b List.mem_cons_self, h2.2⟩
theorem riseB_at {ns : List Int} {i : Nat} {x y : Int} (hx : ns[i]? = some x) (hy : (ns.drop 1)[i]? = some y) : (riseB ns)[i]? = some (decide (x < y)) := by
  unfold riseB
  rw [List.getElem?_map, (List.getElem?_zip_eq_some (z := (x, y))).mpr ⟨hx, hy⟩]
  rfl
theorem riseB_len (ns : List Int) : (riseB ns).length = (ns.drop 1).length := by
  unfold riseB
  simp
def spAreG : Sp := fun vs H Q _ => ∃ (Z : Addr → Prop) (x : V) (d : PyData), vs = [x] ∧ Da Z H x d ∧ ∀ b H', Same H H' → (b = true ↔ isLims d) → Q (.bl b) H'
section
variable {P : Program} {w : World} {K : PySem.W.Frag} {mg : Str → Option Value} {base : Heap} {f : Addr} {fd : FuncData}
theorem scAre : FnScope ["thing", "limit", "ahead", "behind"] ["thing"] (defScope sAre) := ⟨rfl, rfl, rfl, by decide +kernel, rfl, by decide +kernel, by decide +kernel⟩
theorem ok_are {fF fN : Addr} {fdF fdN : FuncData} (F : Fn K "are_limits" "are_limits" sAre f fd) (FF : Fn K "is_number_from" "is_number_from" sFrom fF fdF) (gF : mg "is_number_from" = some (.ref fF)) (FN : Fn K "is_number" "is_number" sIsNum fN fdN) (gN : mg "is_number" = some (.ref fN)) (T : Free mg) (C : Cons mg) :
    FnOk P w K mg base L2.CX0 3 f fd ["thing"] spAreG := by
  have GF : FnOk P w K mg base L2.CX0 2 fF fdF ["thing", "least", "most"] spFrom := ok_from FF FN gN T
  have bF : Binds K fdF ["thing", "least", "most"] [] := FF.bindsN fun _ _ _ _ _ _ us hl => match us, hl with | [_, _, _], _ => rfl
  refine F.ok scAre (fun vs H Q E h => ?_) (fun cdv A outer s H vs Q E hr h => ?_)
  · obtain ⟨_, x, d, rfl, _⟩ := h
    rfl
  · obtain ⟨Z, x, d, rfl, hd, q⟩ := h
    refine ⟨_, PSs.nox (pss_cons (ps_if (PW.pt (pw_or (pt_not (pt_val (pe_callB call_isi rfl T.isi boot_isinstance (pa_cons (pv 0) (pa_cons (pe_bltn rfl T.tup_ (by decide +kernel) (v := .ty "tuple") rfl) pa_nil)))))
        (pw_or1 (pt_cmpR op_gt (pe_callB call_len_seq rfl T.len_ boot_len (pa_cons (pv 0) pa_nil)) (pe_k C.mostL rfl) (nomark _))))) (pss_one (ps_ret pe_bl)) pss_nil)
      (pss_cons (ps_if (pt_not (pt_val (pe_callB (cr_all rfl) rfl T.all_ (by decide +kernel) (pa_cons (pe_lc (own := [("limit", 1)]) (g := gName 1) (tt := tYes) rfl scAre.nd (pi_tup (pv 0)) (blkOk_by (N := ["thing", "limit", "ahead", "behind"]) (sc := defScope sAre) (by decide +kernel)) (fun _ _ _ _ _ => pg_name (i := 1) scAre.nd rfl (Or.inl rfl)) (fun _ _ _ _ _ => pts_nil)
          (fun _ _ _ _ _ => pe_call GF hr rfl gF FF.kp bF .nil pass0 (pa_cons (pv 1) (pa_cons (pe_k C.least rfl) (pa_cons (pe_k C.most rfl) pa_nil))))) pa_nil)))) (pss_one (ps_ret pe_bl)) pss_nil)
      (pss_one (ps_ret (pe_callB (cr_all rfl) rfl T.all_ (by decide +kernel) (pa_cons (pe_lc (own := [("ahead", 2), ("behind", 3)]) (g := gTup K 2 (gCons (gName 2) (gCons (gName 3) gNil))) (tt := tYes) rfl scAre.nd (RZ.pi_zipA (by rfl) T.zip_ (pa_cons (pv 0) (pa_cons (pe_slice sl_tupC (pv 0) (po_some pe_int) po_none) pa_nil))) (blkOk_by (N := ["thing", "limit", "ahead", "behind"]) (sc := defScope sAre) (by decide +kernel))
          (fun _ _ _ _ _ => pg_tup rfl (pgs_cons (pg_name (i := 2) scAre.nd rfl (Or.inl rfl) (Or.inr rfl)) (pgs_cons (pg_name (i := 3) scAre.nd rfl (Or.inl rfl) (Or.inr rfl)) pgs_nil))) (fun _ _ _ _ _ => pts_nil)
          (fun _ _ _ _ _ => pe_cmpR op_lt (pv 2) (pv 3) (nomark _))) pa_nil)))))), ?_⟩
    -- isinstance, len
    obtain ⟨n, ty⟩ := hd.ty (K := K)
    refine ⟨_, rfl, _, _, _, _, _, rfl, .ty "tuple", ty.ty, kit_ty ty.t, _, rfl, ?_⟩
    have no : dTup d = false → ¬ isLims d := fun e z => by
      obtain ⟨ns, e2, _⟩ := z
      rw [e2] at e
      cases e
    cases hd with
    | @tup a xs ds ha hz hall =>
      refine iteF ?_
      refine ⟨_, rfl, a, _, rfl, .inr (SqT.of ha), _, _, rfl, rfl, _, rfl, ?_⟩
      have hlen := hall.len
      refine ite2 (fun c => ?_) (fun c => ?_)
      · have c' : (4 : Int) < ((xs.length : Nat) : Int) := of_decide_eq_true c
        refine q false H (Same.refl H) ⟨fun z => (by cases z), fun z => ?_⟩
        obtain ⟨ns, e, ok⟩ := z
        injection e with e
        have h4 := ok.len
        rw [e, List.length_map] at hlen
        omega
      · have c' : ¬ (4 : Int) < ((xs.length : Nat) : Int) := fun z => c (decide_eq_true z)
        -- each by itself
        refine ⟨_, rfl, a, rfl, ⟨_, SqT.of ha⟩, fun D hD => lc_tup (K := K) (a := a) (xs := xs) (fun i H' => Same H H' ∧ H' D = some (.lst (((xs.take i).map (numIn 1 99)).map V.bl))) ⟨same_upd (Same.refl H) hD, upd_same⟩ (fun i H' _ p => sqt_same (SqT.of ha) p.1) ?_ ?_⟩
        · rintro i x H' hx ⟨sm, acc⟩
          obtain ⟨dx, _, hdx⟩ := hall.get hx
          refine ⟨rfl, ?_⟩
          unfold tYes
          dsimp only
          rw [if_pos rfl]
          have li := (List.getElem?_eq_some_iff.mp hx).1
          refine ⟨_, rfl, x, 1, 99, rfl, (Da.th hdx).same sm, ?_⟩
          refine ⟨_, acc, small1000 (by simp; omega), same_upd sm hD, ?_⟩
          rw [upd_same, take_snoc hx, List.map_append, List.map_append]
          rfl
        rintro H1 ⟨sm, acc⟩
        rw [List.take_length] at acc
        refine ⟨D, _, rfl, SqL.of acc, _, rfl, ?_⟩
        refine ite2 (fun c2 => ?_) (fun c2 => ?_)
        · have c3 : (((xs.map (numIn 1 99)).all id)) = false := by
            have c4 : (!((xs.map (numIn 1 99)).all id)) = true := c2
            rw [Bool.not_eq_true'] at c4
            exact c4
          refine q false H1 sm ⟨fun z => (by cases z), fun z => ?_⟩
          obtain ⟨ns, e, ok⟩ := z
          injection e with e
          subst e
          have ex := da_ints hall
          rw [ex, List.map_map] at c3
          have : ((ns.map (numIn 1 99 ∘ V.int)).all id) = true := by
            rw [List.all_eq_true]
            intro b hb
            obtain ⟨n, hn, rfl⟩ := List.mem_map.mp hb
            have := ok.rng n hn
            show (decide (1 ≤ n) && decide (n ≤ 99)) = true
            simp [this.1, this.2]
          rw [this] at c3
          cases c3
        · have c3 : (((xs.map (numIn 1 99)).all id)) = true := by
            cases e : ((xs.map (numIn 1 99)).all id) with
            | true => rfl
            | false => exact absurd (show (!((xs.map (numIn 1 99)).all id)) = true by rw [e]; rfl) c2
          obtain ⟨ns, ex, ed, rg⟩ := in_nums hall c3
          subst ex ed
          rw [List.length_map] at c'
          -- rising
          have ha1 := sm a _ ha
          refine ⟨_, rfl, _, rfl, _, rfl, a, _, rfl, ha1, fun p H2 sm2 hp _ => ?_⟩
          have cut : cutV (ns.map V.int) (some 1) none = (ns.drop 1).map V.int := by
            rw [show (some (1 : Int)) = some ((1 : Nat) : Int) from rfl, cut_from, List.map_drop]
          have ha2 := sm2 _ _ ha1
          have hb : SqT K H2 p ((ns.drop 1).map V.int) := by
            rw [← cut]
            exact SqT.of hp
          refine ⟨a, p, _, _, rfl, .inr ⟨SqT.of ha2, hb, fun D2 hD2 => lc_it (walk_zipT (xs := ns.map V.int) (ys := (ns.drop 1).map V.int) (n := (ns.drop 1).length) (by simp only [List.length_map, List.length_drop]; omega)) (fun i H' => Same H2 H' ∧ H' D2 = some (.lst (((riseB ns).take i).map V.bl))) ⟨same_upd (Same.refl H2) hD2, upd_same⟩ (fun i H' _ p => ⟨sqt_same (SqT.of ha2) p.1, sqt_same hb p.1⟩) ?_ ?_⟩⟩
          · rintro i x H3 H4 hi ⟨sm3, acc3⟩ ⟨Tp, u, v, rfl, hT, rfl, hu, hv⟩
            obtain ⟨n, hn, rfl⟩ := get_map hu
            obtain ⟨m, hm, rfl⟩ := get_map hv
            have at_ := riseB_at hn hm
            refine ⟨Tp, _, rfl, SqT.of upd_same, rfl, _, _, rfl, _, _, rfl, ⟨rfl, rfl, ?_⟩⟩
            unfold tYes
            dsimp only
            rw [if_pos rfl]
            refine ⟨_, rfl, _, rfl, _, _, rfl, rfl, ?_⟩
            have nT : D2 ≠ Tp := ne_of_none acc3 hT
            have rl := riseB_len ns
            rw [List.length_drop] at rl
            refine ⟨_, by rw [upd_ne nT]; exact acc3, small1000 (by simp; omega), same_upd (same_upd sm3 (Same.free sm3 hT)) hD2, ?_⟩
            rw [upd_same, take_snoc at_, List.map_append]
            rfl
          · rintro H3 ⟨sm3, acc3⟩
            rw [← riseB_len, List.take_length] at acc3
            refine ⟨D2, _, rfl, SqL.of acc3, ?_⟩
            refine q _ H3 (sm.trans (sm2.trans sm3)) ?_
            rw [riseB_all]
            constructor
            · intro pw
              exact ⟨ns, rfl, by omega, rg, pw⟩
            · rintro ⟨ms, e, ok⟩
              have e2 : ns = ms := by
                injection e with e
                exact (List.map_inj_right (fun a b h => by injection h)).mp e
              rw [e2]
              exact ok.up
    | _ => exact q false H (Same.refl H) ⟨fun z => (by cases z), fun z => absurd z (no rfl)⟩
end
end K2
set_option Elab.async false
set_option linter.all false
set_option maxRecDepth 100000
set_option maxHeartbeats 4000000
namespace K2
open PySem PySem.Spec PyProof.Rows L2 Bb
/-! what makes rules, among data -/
def norm : PyData → PyData
  | .none => .tuple []
  | d => d
theorem da_tup {Z : Addr → Prop} {H : Hp} {u : V} {ns : List Int} (h : Da Z H u (.tuple (ns.map PyData.int))) : ∃ l, u = .ref l ∧ H l = some (.tup (ns.map V.int)) := by
  cases h with
  | tup e _ a => exact ⟨_, rfl, by rw [e, da_ints a]⟩
theorem da_norm {Z : Addr → Prop} {H : Hp} {v : V} {d : PyData} (h : Da Z H v d) (n : v ≠ .non) : Da Z H v (norm d) := by
  cases d with
  | none =>
    cases h
    exact absurd rfl n
  | _ => exact h
def isTerms (d0 d1 d2 d3 : PyData) : Prop := isLims d0 ∧ (∃ b, d1 = .bool b) ∧ (∃ i, d2 = .int i ∧ -99 ≤ i ∧ i ≤ 99) ∧ ∃ b, d3 = .bool b
def spInitG (C CN : Addr) : Sp := fun vs H Q E => ∃ (Z : Addr → Prop) (p dx : Addr) (v0 v1 v2 v3 : V) (d0 d1 d2 d3 : PyData), vs = [.ref p, v0, v1, v2, v3] ∧ H p = some (.ins C dx []) ∧ Da Z H v0 d0 ∧ Da Z H v1 d1 ∧ Da Z H v2 d2 ∧ Da Z H v3 d3 ∧
  (∀ l ns up wd sh H', norm d0 = .tuple (ns.map PyData.int) → OkL ns → d1 = .bool up → d2 = .int wd → (-99 ≤ wd ∧ wd ≤ 99) → d3 = .bool sh → (∀ b o, H b = some o → b ≠ p → H' b = some o) → H' p = some (.ins C dx (flds l up wd sh)) → H' l = some (.tup (ns.map V.int)) → Q .non H') ∧
  (¬ isTerms (norm d0) d1 d2 d3 → ∀ H', Same H H' → E (.ref CN) none H')
def spWind : Sp := fun vs H Q _ => ∃ x, vs = [x] ∧ Th H x ∧ Q (.bl (numIn (-99) 99 x)) H
section
variable {P : Program} {w : World} {K : PySem.W.Frag} {mg : Str → Option Value} {base : Heap} {f : Addr} {fd : FuncData}
theorem scIsWind : FnScope ["thing"] ["thing"] (defScope sIsWind) := ⟨rfl, rfl, rfl, by decide +kernel, rfl, by decide +kernel, by decide +kernel⟩
theorem ok_iswind {fF fN : Addr} {fdF fdN : FuncData} (F : Fn K "is_wind" "is_wind" sIsWind f fd) (FF : Fn K "is_number_from" "is_number_from" sFrom fF fdF) (gF : mg "is_number_from" = some (.ref fF)) (FN : Fn K "is_number" "is_number" sIsNum fN fdN) (gN : mg "is_number" = some (.ref fN)) (T : Free mg) (C : Cons mg) : FnOk P w K mg base L2.CX0 3 f fd ["thing"] spWind := by
  have GF : FnOk P w K mg base L2.CX0 2 fF fdF ["thing", "least", "most"] spFrom := ok_from FF FN gN T
  have bF : Binds K fdF ["thing", "least", "most"] [] := FF.bindsN fun _ _ _ _ _ _ us hl => match us, hl with | [_, _, _], _ => rfl
  refine F.ok scIsWind (fun vs H Q E h => ?_) (fun cdv A outer s H vs Q E hr hh => ?_)
  · obtain ⟨x, rfl, _⟩ := h
    rfl
  · obtain ⟨x, rfl, hx, q⟩ := hh
    refine ⟨_, PSs.nox (pss_one (ps_ret (pe_call GF hr rfl gF FF.kp bF .nil pass0 (pa_cons (pv 0) (pa_cons (pe_un un_neg (pe_k C.wind rfl)) (pa_cons (pe_k C.wind rfl) pa_nil)))))), ?_⟩
    exact ⟨_, rfl, _, rfl, x, _, _, rfl, hx, q⟩
end
structure Hlp (K : PySem.W.Frag) (mg : Str → Option Value) : Prop where
  isn : ∃ a d, Fn K "is_number" "is_number" sIsNum a d ∧ mg "is_number" = some (.ref a)
  frm : ∃ a d, Fn K "is_number_from" "is_number_from" sFrom a d ∧ mg "is_number_from" = some (.ref a)
  are : ∃ a d, Fn K "are_limits" "are_limits" sAre a d ∧ mg "are_limits" = some (.ref a)
  wnd : ∃ a d, Fn K "is_wind" "is_wind" sIsWind a d ∧ mg "is_wind" = some (.ref a)
  fr : Free mg
  cs : Cons mg
section
variable {P : Program} {w : World} {K : PySem.W.Frag} {mg : Str → Option Value} {base : Heap} {f : Addr} {fd : FuncData}
theorem Hlp.from (h : Hlp K mg) : ∃ a d, FnOk P w K mg base L2.CX0 2 a d ["thing", "least", "most"] spFrom ∧ mg "is_number_from" = some (.ref a) ∧ PySem.W.keepIn K (.ref a) = true ∧ Binds K d ["thing", "least", "most"] [] := by
  obtain ⟨a1, d1, F1, g1⟩ := h.isn
  obtain ⟨a, d, F, g⟩ := h.frm
  exact ⟨a, d, ok_from F F1 g1 h.fr, g, F.kp, F.bindsN fun _ _ _ _ _ _ us hl => match us, hl with | [_, _, _], _ => rfl⟩
theorem Hlp.ar (h : Hlp K mg) : ∃ a d, FnOk P w K mg base L2.CX0 3 a d ["thing"] spAreG ∧ mg "are_limits" = some (.ref a) ∧ PySem.W.keepIn K (.ref a) = true ∧ Binds K d ["thing"] [] := by
  obtain ⟨a1, d1, F1, g1⟩ := h.isn
  obtain ⟨a2, d2, F2, g2⟩ := h.frm
  obtain ⟨a, d, F, g⟩ := h.are
  exact ⟨a, d, ok_are F F2 g2 F1 g1 h.fr h.cs, g, F.kp, F.bindsN fun _ _ _ _ _ _ us hl => match us, hl with | [_], _ => rfl⟩
theorem Hlp.wn (h : Hlp K mg) : ∃ a d, FnOk P w K mg base L2.CX0 3 a d ["thing"] spWind ∧ mg "is_wind" = some (.ref a) ∧ PySem.W.keepIn K (.ref a) = true ∧ Binds K d ["thing"] [] := by
  obtain ⟨a1, d1, F1, g1⟩ := h.isn
  obtain ⟨a2, d2, F2, g2⟩ := h.frm
  obtain ⟨a, d, F, g⟩ := h.wnd
  exact ⟨a, d, ok_iswind F F2 g2 F1 g1 h.fr h.cs, g, F.kp, F.bindsN fun _ _ _ _ _ _ us hl => match us, hl with | [_], _ => rfl⟩
abbrev nInit : List Str := ["self", "limits", "up", "wind", "shares"]
theorem scInit : FnScope nInit nInit (defScope sInit) := ⟨rfl, rfl, rfl, by decide +kernel, rfl, by decide +kernel, by decide +kernel⟩
theorem num_of {x : V} {d : PyData} {Z : Addr → Prop} {H : Hp} {lo hi : Int} (h : Da Z H x d) : numIn lo hi x = true ↔ ∃ i, d = .int i ∧ lo ≤ i ∧ i ≤ hi := by
  cases h with
  | int i =>
    show (decide (lo ≤ i) && decide (i ≤ hi)) = true ↔ _
    rw [Bool.and_eq_true, decide_eq_true_iff, decide_eq_true_iff]
    constructor
    · intro z
      exact ⟨i, rfl, z⟩
    · rintro ⟨j, e, z⟩
      injection e with e
      rw [e]
      exact z
  | _ => exact ⟨fun z => (by cases z), fun ⟨i, e, _⟩ => (by cases e)⟩
theorem ok_init {C CN : Addr} {dvs : List V} (F : FunD K "__init__" "Rules.__init__" (defArgs sInit) (defBody sInit) (defScope sInit) dvs [] f fd) (h : Hlp K mg) (R : RulesT K mg C) (en : ErrT K mg "NoRules" CN) : FnOk P w K mg base (L2.CX P w) 4 f fd nInit (spInitG C CN) := by
  obtain ⟨aW, dW, GW, gW, kW, bW⟩ := h.wn (P := P) (w := w) (base := base)
  obtain ⟨aA, dA, GA, gA, kA, bA⟩ := h.ar (P := P) (w := w) (base := base)
  refine F.ok (CX := L2.CX P w) scInit (fun vs H Q E h => ?_) (fun cdv A outer s H vs Q E hr hh => ?_)
  · obtain ⟨_, p, dx, v0, v1, v2, v3, d0, d1, d2, d3, rfl, _⟩ := h
    rfl
  · obtain ⟨Z, p, dx, v0, v1, v2, v3, d0, d1, d2, d3, rfl, hp, h0, h1, h2, h3, yes, no⟩ := hh
    refine ⟨_, pss_cons (ps_if (pt_cmpR op_isN (pv 1) pe_non (nomark _)) (pss_one (ps_set (i := 1) scInit.nd rfl (.inl rfl) (pe_tup pa_nil))) pss_nil)
      (pss_cons (ps_if (pt_not (pt_val (pe_call GA hr rfl gA kA bA .nil pass0 (pa_cons (pv 1) pa_nil)))) (pss_one (ps_raise rfl (takes_of rfl rfl rfl rfl) (pmk_own PySem.F.excBase_ValueError en.ex en.g en.kp (raises_own en.sb en.ty) rfl))) pss_nil)
      (pss_cons (ps_if (pt_not (pt_val (pe_callB call_isi rfl h.fr.isi boot_isinstance (pa_cons (pv 2) (pa_cons (pe_bltn rfl h.fr.bool_ (by decide +kernel) (v := .ty "bool") rfl) pa_nil))))) (pss_one (ps_raise rfl (takes_of rfl rfl rfl rfl) (pmk_own PySem.F.excBase_ValueError en.ex en.g en.kp (raises_own en.sb en.ty) rfl))) pss_nil)
      (pss_cons (ps_if (pt_not (pt_val (pe_call GW hr rfl gW kW bW .nil pass0 (pa_cons (pv 3) pa_nil)))) (pss_one (ps_raise rfl (takes_of rfl rfl rfl rfl) (pmk_own PySem.F.excBase_ValueError en.ex en.g en.kp (raises_own en.sb en.ty) rfl))) pss_nil)
      (pss_cons (ps_if (pt_not (pt_val (pe_callB call_isi rfl h.fr.isi boot_isinstance (pa_cons (pv 4) (pa_cons (pe_bltn rfl h.fr.bool_ (by decide +kernel) (v := .ty "bool") rfl) pa_nil))))) (pss_one (ps_raise rfl (takes_of rfl rfl rfl rfl) (pmk_own PySem.F.excBase_ValueError en.ex en.g en.kp (raises_own en.sb en.ty) rfl))) pss_nil)
      (pss_cons (ps_fld (pv 0) (pv 1) rfl) (pss_cons (ps_fld (pv 0) (pv 2) rfl) (pss_cons (ps_fld (pv 0) (pv 3) rfl) (pss_one (ps_fld (pv 0) (pv 4) rfl))))))))), ?_⟩
    have bool_of : ∀ {x : V} {d : PyData} {H : Hp}, Da Z H x d → (dBool d = true ↔ ∃ b, d = .bool b) := fun {x d H} h => by
      cases d <;> simp [dBool]
    obtain ⟨n1, t1⟩ := h1.ty (K := K)
    obtain ⟨n3, t3⟩ := h3.ty (K := K)
    refine ⟨_, rfl, rfl, _, rfl, ?_⟩
    refine ite2 (fun c => ?_) (fun c => ?_)
    · have e0 : v0 = .non := of_decide_eq_true c
      subst e0
      cases h0
      refine ⟨Nat.zero_le _, fun t ht => ?_⟩
      have s0 := up2 (o := .tup []) ht
      have hu : Da (fun _ => False) (upd H t (.tup [])) (.ref t) (norm .none) := .tup upd_same (fun z => z) .nil
      refine ⟨_, rfl, _, (V.ref t), _, rfl, hu, fun b H2 sm2 hb => ⟨_, rfl, ?_⟩⟩
      have s2 : Same H H2 := Same.trans s0 sm2
      have hu2 := hu
      refine ite2 (fun c1 => ?_) (fun c1 => ?_)
      · have hb2 : b = false := by simpa using c1
        refine no (fun z => ?_) H2 s2
        have := hb.mpr z.1
        rw [hb2] at this
        cases this
      · have hb2 : b = true := by simpa using c1
        obtain ⟨ns, en0, okn⟩ := hb.mp hb2
        obtain ⟨m1, ty1⟩ := (Da.keep (Keeps.of s2) _ _ h1).ty (K := K)
        refine ⟨_, rfl, _, _, _, _, _, rfl, .ty "bool", ty1.ty, kit_ty ty1.b, _, rfl, ?_⟩
        refine ite2 (fun c2 => ?_) (fun c2 => ?_)
        · refine no (fun z => ?_) H2 s2
          obtain ⟨b', e⟩ := z.2.1
          rw [e] at c2
          cases c2
        · have e1 : dBool d1 = true := by simpa using c2
          obtain ⟨up, e1⟩ := (bool_of h1).mp e1
          subst e1
          cases h1
          refine ⟨_, rfl, v2, rfl, (Da.th h2).same s2, _, rfl, ?_⟩
          refine ite2 (fun c3 => ?_) (fun c3 => ?_)
          · refine no (fun z => ?_) H2 s2
            have q := (num_of h2).mpr z.2.2.1
            have c4 : (!numIn (-99) 99 v2) = true := c3
            rw [q] at c4
            cases c4
          · have c4 : ¬ (!numIn (-99) 99 v2) = true := c3
            have e2 : numIn (-99) 99 v2 = true := by simpa using c4
            obtain ⟨wd, e2, w0, w1⟩ := (num_of h2).mp e2
            subst e2
            cases h2
            obtain ⟨m3, ty3⟩ := (Da.keep (Keeps.of s2) _ _ h3).ty (K := K)
            refine ⟨_, rfl, _, _, _, _, _, rfl, .ty "bool", ty3.ty, kit_ty ty3.b, _, rfl, ?_⟩
            refine ite2 (fun c5 => ?_) (fun c5 => ?_)
            · refine no (fun z => ?_) H2 s2
              obtain ⟨b', e⟩ := z.2.2.2
              rw [e] at c5
              cases c5
            · have e3 : dBool d3 = true := by simpa using c5
              obtain ⟨sh, e3⟩ := (bool_of h3).mp e3
              subst e3
              cases h3
              have hu3 := Da.keep (Keeps.of sm2) _ _ hu2
              rw [en0] at hu3
              obtain ⟨l, eu, hl⟩ := da_tup hu3
              have hp2 := s2 _ _ hp
              have nlp : l ≠ p := by
                rintro rfl
                rw [hp2] at hl
                cases hl
              refine ⟨_, rfl, _, rfl, p, C, dx, _, rfl, hp2, R.cl, R.nL, (by show 0 < 1000; decide), ?_⟩
              refine ⟨_, rfl, _, rfl, p, C, dx, _, rfl, upd_same, R.cl, R.nU, Nat.lt_of_le_of_lt (length_putF _ _ _) (by decide), ?_⟩
              refine ⟨_, rfl, _, rfl, p, C, dx, _, rfl, upd_same, R.cl, R.nW, Nat.lt_of_le_of_lt (Nat.le_trans (length_putF _ _ _) (Nat.add_le_add_right (length_putF _ _ _) 1)) (by decide), ?_⟩
              refine ⟨_, rfl, _, rfl, p, C, dx, _, rfl, upd_same, R.cl, R.nS, Nat.lt_of_le_of_lt (Nat.le_trans (length_putF _ _ _) (Nat.add_le_add_right (Nat.le_trans (length_putF _ _ _) (Nat.add_le_add_right (length_putF _ _ _) 1)) 1)) (by decide), ?_⟩
              refine yes l ns up wd sh _ en0 okn rfl rfl ⟨w0, w1⟩ rfl (fun b o e ne => ?_) (by unfold flds; rw [← eu]; exact upd_same) ?_
              · rw [upd_ne ne, upd_ne ne, upd_ne ne, upd_ne ne]
                exact s2 b o e
              · rw [upd_ne nlp, upd_ne nlp, upd_ne nlp, upd_ne nlp]
                exact hl
    · have hu : Da Z H v0 (norm d0) := da_norm h0 fun z => c (decide_eq_true z)
      refine ⟨_, rfl, _, v0, _, rfl, hu, fun b H2 sm2 hb => ⟨_, rfl, ?_⟩⟩
      have s2 : Same H H2 := Same.trans (Same.refl H) sm2
      have hu2 := hu
      refine ite2 (fun c1 => ?_) (fun c1 => ?_)
      · have hb2 : b = false := by simpa using c1
        refine no (fun z => ?_) H2 s2
        have := hb.mpr z.1
        rw [hb2] at this
        cases this
      · have hb2 : b = true := by simpa using c1
        obtain ⟨ns, en0, okn⟩ := hb.mp hb2
        obtain ⟨m1, ty1⟩ := (Da.keep (Keeps.of s2) _ _ h1).ty (K := K)
        refine ⟨_, rfl, _, _, _, _, _, rfl, .ty "bool", ty1.ty, kit_ty ty1.b, _, rfl, ?_⟩
        refine ite2 (fun c2 => ?_) (fun c2 => ?_)
        · refine no (fun z => ?_) H2 s2
          obtain ⟨b', e⟩ := z.2.1
          rw [e] at c2
          cases c2
        · have e1 : dBool d1 = true := by simpa using c2
          obtain ⟨up, e1⟩ := (bool_of h1).mp e1
          subst e1
          cases h1
          refine ⟨_, rfl, v2, rfl, (Da.th h2).same s2, _, rfl, ?_⟩
          refine ite2 (fun c3 => ?_) (fun c3 => ?_)
          · refine no (fun z => ?_) H2 s2
            have q := (num_of h2).mpr z.2.2.1
            have c4 : (!numIn (-99) 99 v2) = true := c3
            rw [q] at c4
            cases c4
          · have c4 : ¬ (!numIn (-99) 99 v2) = true := c3
            have e2 : numIn (-99) 99 v2 = true := by simpa using c4
            obtain ⟨wd, e2, w0, w1⟩ := (num_of h2).mp e2
            subst e2
            cases h2
            obtain ⟨m3, ty3⟩ := (Da.keep (Keeps.of s2) _ _ h3).ty (K := K)
            refine ⟨_, rfl, _, _, _, _, _, rfl, .ty "bool", ty3.ty, kit_ty ty3.b, _, rfl, ?_⟩
            refine ite2 (fun c5 => ?_) (fun c5 => ?_)
            · refine no (fun z => ?_) H2 s2
              obtain ⟨b', e⟩ := z.2.2.2
              rw [e] at c5
              cases c5
            · have e3 : dBool d3 = true := by simpa using c5
              obtain ⟨sh, e3⟩ := (bool_of h3).mp e3
              subst e3
              cases h3
              have hu3 := Da.keep (Keeps.of sm2) _ _ hu2
              rw [en0] at hu3
              obtain ⟨l, eu, hl⟩ := da_tup hu3
              have hp2 := s2 _ _ hp
              have nlp : l ≠ p := by
                rintro rfl
                rw [hp2] at hl
                cases hl
              refine ⟨_, rfl, _, rfl, p, C, dx, _, rfl, hp2, R.cl, R.nL, (by show 0 < 1000; decide), ?_⟩
              refine ⟨_, rfl, _, rfl, p, C, dx, _, rfl, upd_same, R.cl, R.nU, Nat.lt_of_le_of_lt (length_putF _ _ _) (by decide), ?_⟩
              refine ⟨_, rfl, _, rfl, p, C, dx, _, rfl, upd_same, R.cl, R.nW, Nat.lt_of_le_of_lt (Nat.le_trans (length_putF _ _ _) (Nat.add_le_add_right (length_putF _ _ _) 1)) (by decide), ?_⟩
              refine ⟨_, rfl, _, rfl, p, C, dx, _, rfl, upd_same, R.cl, R.nS, Nat.lt_of_le_of_lt (Nat.le_trans (length_putF _ _ _) (Nat.add_le_add_right (Nat.le_trans (length_putF _ _ _) (Nat.add_le_add_right (length_putF _ _ _) 1)) 1)) (by decide), ?_⟩
              refine yes l ns up wd sh _ en0 okn rfl rfl ⟨w0, w1⟩ rfl (fun b o e ne => ?_) (by unfold flds; rw [← eu]; exact upd_same) ?_
              · rw [upd_ne ne, upd_ne ne, upd_ne ne, upd_ne ne]
                exact s2 b o e
              · rw [upd_ne nlp, upd_ne nlp, upd_ne nlp, upd_ne nlp]
                exact hl
end
end K2
set_option Elab.async false
set_option linter.all false
set_option maxRecDepth 100000
set_option maxHeartbeats 4000000
namespace K2
open PySem PySem.Spec PyProof.Rows L2 Bb
/-! == beside what is no rules; repr -/
def NotB (K : PySem.W.Frag) (C : Addr) : Prop := ∀ n ∈ tyNames, PySem.W.kitOne K (.type n) (.ref C) = some false
theorem da_tyn {K : PySem.W.Frag} {Z : Addr → Prop} {H : Hp} {x : V} {d : PyData} (h : Da Z H x d) : ∃ n, TyX K H x (.type n) ∧ n ∈ tyNames := by
  cases h with
  | non => exact ⟨_, .base .non, by decide⟩
  | bl b => exact ⟨_, .base (.bl b), by decide⟩
  | int i => exact ⟨_, .base (.int i), by decide⟩
  | str z => exact ⟨_, .base (.str z), by decide⟩
  | lst h _ _ => exact ⟨_, .base (.lst h), by decide⟩
  | tup h _ _ => exact ⟨_, .base (.tup h), by decide⟩
  | d0 h _ => exact ⟨_, .base (.dK h), by decide⟩
  | d1 h _ => exact ⟨_, .base (.dK h), by decide⟩
theorem bt_tyn {K : PySem.W.Frag} {H : Hp} {x : V} (h : Bt H x) : ∃ n, TyX K H x (.type n) ∧ n ∈ tyNames := by
  rcases h with ⟨Z, d, h⟩ | ⟨a, xs, rfl, e⟩
  · exact da_tyn h
  · exact ⟨_, .base (.lst e), by decide⟩
def spEqX (C : Addr) : Sp := fun vs H Q _ => ∃ (p : Addr) (y : V), vs = [.ref p, y] ∧ Bt H y ∧ Q (.bl false) H
def txt (ns : List Int) (up : Bool) (wd : Int) (sh : Bool) : Str :=
  ("Rules(limits=" : Str) ++ (PyData.tuple (ns.map PyData.int)).shown ++ (", up=" : Str) ++ (PyData.bool up).shown ++ (", wind=" : Str) ++ (PyData.int wd).shown ++ (", shares=" : Str) ++ (PyData.bool sh).shown ++ (")" : Str)
def spRepr (C : Addr) : Sp := fun vs H Q _ => ∃ (p l : Addr) (ns : List Int) (up : Bool) (wd : Int) (sh : Bool), vs = [.ref p] ∧ At C H p l ns up wd sh ∧ (-99 ≤ wd ∧ wd ≤ 99) ∧ Q (.str (txt ns up wd sh)) H
section
variable {P : Program} {w : World} {K : PySem.W.Frag} {mg : Str → Option Value} {base : Heap} {f : Addr} {fd : FuncData}
theorem ok_eqX {C : Addr} (F : Fn K "__eq__" "Rules.__eq__" sEq f fd) (T : Free mg) (R : RulesT K mg C) (nb : NotB K C) : FnOk P w K mg base L2.CX0 1 f fd ["self", "other"] (spEqX C) := by
  refine F.ok scEq (fun vs H Q E h => ?_) (fun cdv A outer s H vs Q E hr hh => ?_)
  · obtain ⟨p, y, rfl, _⟩ := h
    rfl
  · obtain ⟨p, y, rfl, hd, q⟩ := hh
    refine ⟨_, PSs.nox (pss_one (ps_ret (pe_and (pe_callB call_isi rfl T.isi boot_isinstance (pa_cons (pv 1) (pa_cons (pe_glob rfl R.gC (v := .ref C) rfl) pa_nil)))
      (pe_and (pe_cmpR (op_eqD hr.units) (pe_fld (pv 0) rfl) (pe_fld (pv 1) rfl) (nomark _))
      (pe_and (pe_cmpR op_eq (pe_fld (pv 0) rfl) (pe_fld (pv 1) rfl) (nomark _))
      (pe_and (pe_cmpR op_eq (pe_fld (pv 0) rfl) (pe_fld (pv 1) rfl) (nomark _))
      (pe_one (pe_cmpR op_eq (pe_fld (pv 0) rfl) (pe_fld (pv 1) rfl) (nomark _))))))))), ?_⟩
    obtain ⟨n, ty, hn⟩ := bt_tyn (K := K) hd
    exact ⟨_, rfl, _, _, _, _, _, rfl, .own C, ty, nb n hn, _, rfl, q⟩
theorem scRepr : FnScope ["self"] ["self"] (defScope sRepr) := ⟨rfl, rfl, rfl, by decide +kernel, rfl, by decide +kernel, by decide +kernel⟩
theorem ok_repr {C : Addr} (F : Fn K "__repr__" "Rules.__repr__" sRepr f fd) (R : RulesT K mg C) : FnG P w K mg base L2.CX0 1 f fd ["self"] (spRepr C) := by
  refine fnG F scRepr (fun vs H Q E h => ?_) (fun cdv A outer s H vs Q E gd hr hcd hh => ?_)
  · obtain ⟨p, l, ns, up, wd, sh, rfl, _⟩ := h
    rfl
  · obtain ⟨p, l, ns, up, wd, sh, rfl, ⟨⟨dx, hp⟩, hl, ok⟩, hw, q⟩ := hh
    let X := (cxOf L2.CX0 P w K mg base ["self"] "Rules.__repr__" (defScope sRepr) f cdv A outer s H E).nox
    have gdX : X.A.guards = some [] := gd
    have fm : ∀ {e : Expr} {te : TE} {pos : Pos}, PE X e te → PE X (.FormattedValue e 114 none pos) (tFmtA te) := fun he => pe_fmtA (X := X) gdX hr.units he
    refine ⟨_, PSs.nox (pss_one (ps_ret (pe_joined (PJ.cons pe_str (PJ.cons (fm (pe_fld (pv 0) rfl)) (PJ.cons pe_str (PJ.cons (fm (pe_fld (pv 0) rfl)) (PJ.cons pe_str (PJ.cons (fm (pe_fld (pv 0) rfl)) (PJ.cons pe_str (PJ.cons (fm (pe_fld (pv 0) rfl)) (PJ.cons pe_str PJ.nil)))))))))))), ?_⟩
    have s0 : Sm (.tuple (ns.map PyData.int)) := Sm.ints (fun n hn => by have := ok.rng n hn; omega) (Nat.le_trans ok.len (by decide))
    have s1 := Sm.bl up
    have s2 : Sm (.int wd) := Sm.int (by omega)
    have s3 := Sm.bl sh
    have dl : Da (fun _ => False) H (.ref l) (.tuple (ns.map PyData.int)) := .tup hl (fun z => z) (DaAll.ints ns)
    have l0 := s0.ln
    have l1 := s1.ln
    have l2 := s2.ln
    have l3 := s3.ln
    have sz := sizeLine_eq
    have c0 : (("Rules(limits=" : String) : Str).length = 13 := by decide +kernel
    have c1 : ((", up=" : String) : Str).length = 5 := by decide +kernel
    have c2 : ((", wind=" : String) : Str).length = 7 := by decide +kernel
    have c3 : ((", shares=" : String) : Str).length = 9 := by decide +kernel
    have c4 : ((")" : String) : Str).length = 1 := by decide +kernel
    have ce : Str.empty.length = 0 := rfl
    have n60 : ∀ {n : Nat}, n ≤ 4 → n ≤ 60 := fun h => by omega
    have n16 : ∀ {n : Nat}, n ≤ 200 → n ≤ sizeLine := fun h => by omega
    refine ⟨_, rfl, (by simp only [strLen_append]; omega), _, rfl, p, C, dx, _, _, rfl, hp, R.cl, R.nL, f_limits _ _ _ _, _, _, dl, s0.nl, s0.sh, n60 s0.dp, n16 l0, _, rfl, (by simp only [strLen_append]; omega), ?_⟩
    refine ⟨_, rfl, (by simp only [strLen_append]; omega), _, rfl, p, C, dx, _, _, rfl, hp, R.cl, R.nU, f_up _ _ _ _, (fun _ => False), _, .bl up, s1.nl, s1.sh, n60 s1.dp, n16 l1, _, rfl, (by simp only [strLen_append]; omega), ?_⟩
    refine ⟨_, rfl, (by simp only [strLen_append]; omega), _, rfl, p, C, dx, _, _, rfl, hp, R.cl, R.nW, f_wind _ _ _ _, (fun _ => False), _, .int wd, s2.nl, s2.sh, n60 s2.dp, n16 l2, _, rfl, (by simp only [strLen_append]; omega), ?_⟩
    refine ⟨_, rfl, (by simp only [strLen_append]; omega), _, rfl, p, C, dx, _, _, rfl, hp, R.cl, R.nS, f_shares _ _ _ _, (fun _ => False), _, .bl sh, s3.nl, s3.sh, n60 s3.dp, n16 l3, _, rfl, (by simp only [strLen_append]; omega), ?_⟩
    refine ⟨_, rfl, (by simp only [strLen_append]; omega), ?_⟩
    have e : Str.empty ++ ("Rules(limits=" : Str) = ("Rules(limits=" : Str) := Str.empty_append _
    rw [e]
    exact q
end
end K2
set_option Elab.async false
set_option linter.all false
set_option maxRecDepth 100000
set_option maxHeartbeats 4000000
namespace K2
open PySem PySem.Spec PyProof.Rows L2 Bb
/-! the law's own look at what makes rules -/
theorem rising_ext : ∀ {l m : List Int}, l.Pairwise (· < ·) → m.Pairwise (· < ·) → (∀ k, k ∈ l ↔ k ∈ m) → l = m
  | [], [], _, _, _ => rfl
  | [], b :: m, _, _, h => absurd ((h b).mpr List.mem_cons_self) (by simp)
  | a :: l, [], _, _, h => absurd ((h a).mp List.mem_cons_self) (by simp)
  | a :: l, b :: m, hl, hm, h => by
    obtain ⟨h1, h2⟩ := List.pairwise_cons.mp hl
    obtain ⟨h3, h4⟩ := List.pairwise_cons.mp hm
    have e : a = b := by
      rcases List.mem_cons.mp ((h a).mp List.mem_cons_self) with q | q
      · exact q
      · rcases List.mem_cons.mp ((h b).mpr List.mem_cons_self) with r | r
        · exact r.symm
        · have := h3 a q
          have := h1 b r
          omega
    subst e
    rw [rising_ext h2 h4 fun k => ?_]
    constructor
    · intro q
      rcases List.mem_cons.mp ((h k).mp (List.mem_cons_of_mem _ q)) with r | r
      · have := h1 k q
        omega
      · exact r
    · intro q
      rcases List.mem_cons.mp ((h k).mpr (List.mem_cons_of_mem _ q)) with r | r
      · have := h3 k q
        omega
      · exact r
def notNum (x : V) : Bool := !numIn 1 99 x
theorem da_filter {Z : Addr → Prop} {H : Hp} : ∀ {xs : List V} {ds : List PyData}, DaAll Z H xs ds → PyData.canLayAll0 ds = true → ∃ es, DaAll Z H (xs.filter notNum) es ∧ PyData.canLayAll0 es = true ∧ PyData.depthAll es ≤ PyData.depthAll ds ∧ PyData.hasDictAll es = false
  | [], _, h, _ => by
    cases h
    exact ⟨[], .nil, rfl, Nat.le_refl _, rfl⟩
  | x :: xs, _, h, c => by
    cases h with
    | @cons _ _ d ds a b =>
      have c2 : (PyData.canLay0 d && PyData.canLayAll0 ds) = true := c
      rw [Bool.and_eq_true] at c2
      obtain ⟨es, h1, h2, h3, h4⟩ := da_filter b c2.2
      have mx : PyData.depthAll (d :: ds) = max d.depth (PyData.depthAll ds) := rfl
      by_cases p : notNum x = true
      · refine ⟨d :: es, ?_, ?_, ?_, ?_⟩
        · rw [List.filter_cons, if_pos p]
          exact .cons a h1
        · show (PyData.canLay0 d && PyData.canLayAll0 es) = true
          rw [c2.1, h2]
          rfl
        · have : PyData.depthAll (d :: es) = max d.depth (PyData.depthAll es) := rfl
          omega
        · show (PyData.hasDict d || PyData.hasDictAll es) = false
          rw [PyData.hasDict_of_canLay d c2.1, h4]
          rfl
      · refine ⟨es, ?_, h2, by omega, h4⟩
        rw [List.filter_cons, if_neg p]
        exact h1
theorem filter_nil {xs : List V} (h : xs.filter notNum = []) : (xs.map (numIn 1 99)).all id = true := by
  rw [List.all_map, List.all_eq_true]
  intro x hx
  have := List.filter_eq_nil_iff.mp h x hx
  unfold notNum at this
  simpa using this
theorem filter_ints {ns : List Int} (h : ∀ n ∈ ns, 1 ≤ n ∧ n ≤ 99) : (ns.map V.int).filter notNum = [] := by
  rw [List.filter_eq_nil_iff]
  intro x hx
  obtain ⟨n, hn, rfl⟩ := List.mem_map.mp hx
  have := h n hn
  have e : numIn 1 99 (.int n) = true := by
    show (decide (1 ≤ n) && decide (n ≤ 99)) = true
    simp [this.1, this.2]
  unfold notNum
  rw [e]
  decide
theorem eqv_nil {es : List PyData} : PyData.eqv (.list es) (.list []) = decide (es = []) := by
  cases es with
  | nil => simp [PyData.eqv, PyData.eqvAll]
  | cons e es => simp [PyData.eqv, PyData.eqvAll]
/-- four things in a tuple -/
structure Row (Z : Addr → Prop) (H : Hp) (R : Addr) (v0 v1 v2 v3 : V) (d0 d1 d2 d3 : PyData) : Prop where
  at_ : H R = some (.tup [v0, v1, v2, v3])
  nz : ¬ Z R
  a0 : Da Z H v0 d0
  a1 : Da Z H v1 d1
  a2 : Da Z H v2 d2
  a3 : Da Z H v3 d3
  s0 : Sm d0
  s1 : Sm d1
  s2 : Sm d2
  s3 : Sm d3
  one : PyData.hasDictAll [d0, d1, d2, d3] = true → noLists [d0, d1, d2, d3] = true
theorem Row.keep {Z : Addr → Prop} {H H' : Hp} {R : Addr} {v0 v1 v2 v3 : V} {d0 d1 d2 d3 : PyData} (r : Row Z H R v0 v1 v2 v3 d0 d1 d2 d3) (k : Keeps Z H H') : Row Z H' R v0 v1 v2 v3 d0 d1 d2 d3 :=
  ⟨k _ _ r.at_ (fun _ z => by cases z) r.nz, r.nz, Da.keep k _ _ r.a0, Da.keep k _ _ r.a1, Da.keep k _ _ r.a2, Da.keep k _ _ r.a3, r.s0, r.s1, r.s2, r.s3, r.one⟩
def spAreT : Sp := fun vs H Q _ => ∃ (Z : Addr → Prop) (R : Addr) (v0 v1 v2 v3 : V) (d0 d1 d2 d3 : PyData), vs = [.ref R] ∧ Row Z H R v0 v1 v2 v3 d0 d1 d2 d3 ∧ ∀ b H', Same H H' → (b = true ↔ isTerms d0 d1 d2 d3) → Q (.bl b) H'
end K2
set_option Elab.async false
set_option linter.all false
set_option maxRecDepth 100000
set_option maxHeartbeats 4000000
namespace K2
open PySem PySem.Spec PyProof.Rows L2 Bb
section
variable {P : Program} {w : World} {K : PySem.W.Frag} {mg : Str → Option Value} {base : Heap} {f : Addr} {fd : FuncData}
abbrev nAreT : List Str := ["_law_row", "_law_bars", "_law_one"]
theorem scAreT : FnScope nAreT ["_law_row"] (defScope sAreT) := ⟨rfl, rfl, rfl, by decide +kernel, rfl, by decide +kernel, by decide +kernel⟩
theorem ok_aret {fN : Addr} {fdN : FuncData} (F : Fn K "_law_are_terms" "_law_are_terms" sAreT f fd) (FN : Fn K "_law_number" "_law_number" sNum fN fdN) (gN : mg "_law_number" = some (.ref fN)) (T : Free mg) (hset : mg "set" = none) : FnOk P w K mg base L2.CX0 2 f fd ["_law_row"] spAreT := by
  have GN : FnOk P w K mg base L2.CX0 1 fN fdN ["_law_thing", "_law_least", "_law_greatest"] spFrom := ok_num FN T
  have bN : Binds K fdN ["_law_thing", "_law_least", "_law_greatest"] [] := FN.bindsN fun _ _ _ _ _ _ us hl => match us, hl with | [_, _, _], _ => rfl
  refine F.ok scAreT (fun vs H Q E h => ?_) (fun cdv A outer s H vs Q E hr hh => ?_)
  · obtain ⟨Z, R, v0, v1, v2, v3, d0, d1, d2, d3, rfl, _⟩ := h
    rfl
  · obtain ⟨Z, R, v0, v1, v2, v3, d0, d1, d2, d3, rfl, rw_, q⟩ := hh
    have hu := hr.units
    refine ⟨_, PSs.nox (pss_cons (ps_set (i := 1) scAreT.nd rfl (.inl rfl) (pe_ix ix_tup (pv 0) pe_int (fun _ _ => rfl)))
      (pss_cons (ps_if (PW.pt (pw_or (pt_not (pt_val (pe_callB call_isi rfl T.isi boot_isinstance (pa_cons (pv 1) (pa_cons (pe_bltn rfl T.tup_ (by decide +kernel) (v := .ty "tuple") rfl) pa_nil)))))
        (pw_or (pt_cmpR op_gt (pe_callB call_len_seq rfl T.len_ boot_len (pa_cons (pv 1) pa_nil)) pe_int (nomark _))
        (pw_or1 (pt_cmpR (op_neD hu) (pe_lc (own := [("_law_one", 2)]) (g := gName 2) (tt := tNot (tB (tCall spFrom [] E0 (tCons (tVar 2) (tCons (tC (.int 1)) (tCons (tC (.int 99)) tNil)))))) rfl scAreT.nd (pi_tup (pv 1)) (blkOk_by (N := nAreT) (sc := defScope sAreT) (by decide +kernel)) (fun _ _ _ _ _ => pg_name (i := 2) scAreT.nd rfl (Or.inl rfl))
            (fun _ _ _ _ _ => pts_one (pt_not (pt_val (pe_call GN hr rfl gN FN.kp bN .nil pass0 (pa_cons (pv 2) (pa_cons pe_int (pa_cons pe_int pa_nil)))))))
            (fun _ _ _ _ _ => pv 2)) (pe_lst pa_nil) (nomark _)))))) (pss_one (ps_ret pe_bl)) pss_nil)
      (pss_cons (ps_if (PW.pt (pw_or (pt_cmpR (op_neD hu) (pe_callTy call_list_of rfl T.list_ (by decide +kernel) (pa_cons (pv 1) pa_nil)) (pe_callB (cr_sortedSet rfl) rfl T.srt_ (by decide +kernel) (pa_cons (pe_callTy (call_setT rfl) rfl hset (by decide +kernel) (pa_cons (pv 1) pa_nil)) pa_nil)) (nomark _))
        (pw_or (pt_not (pt_val (pe_callB call_isi rfl T.isi boot_isinstance (pa_cons (pe_ix ix_tup (pv 0) pe_int (fun _ _ => rfl)) (pa_cons (pe_bltn rfl T.bool_ (by decide +kernel) (v := .ty "bool") rfl) pa_nil)))))
        (pw_or1 (pt_not (pt_val (pe_callB call_isi rfl T.isi boot_isinstance (pa_cons (pe_ix ix_tup (pv 0) pe_int (fun _ _ => rfl)) (pa_cons (pe_bltn rfl T.bool_ (by decide +kernel) (v := .ty "bool") rfl) pa_nil))))))))) (pss_one (ps_ret pe_bl)) pss_nil)
      (pss_one (ps_ret (pe_call GN hr rfl gN FN.kp bN .nil pass0 (pa_cons (pe_ix ix_tup (pv 0) pe_int (fun _ _ => rfl)) (pa_cons (pe_un un_neg pe_int) (pa_cons pe_int pa_nil))))))))), ?_⟩
    have i0 : ∀ {a b c d : V}, atI [a, b, c, d] (0 : Int) = some a := fun {a b c d} => at_of (j := 0) rfl rfl
    have i1 : ∀ {a b c d : V}, atI [a, b, c, d] (1 : Int) = some b := fun {a b c d} => at_of (j := 1) rfl rfl
    have i2 : ∀ {a b c d : V}, atI [a, b, c, d] (2 : Int) = some c := fun {a b c d} => at_of (j := 2) rfl rfl
    have i3 : ∀ {a b c d : V}, atI [a, b, c, d] (3 : Int) = some d := fun {a b c d} => at_of (j := 3) rfl rfl
    have bool_of : ∀ {d : PyData}, (dBool d = true ↔ ∃ b, d = .bool b) := fun {d} => by
      cases d <;> simp [dBool]
    refine ⟨_, rfl, R, _, 0, _, rfl, rfl, SqT.of rw_.at_, i0, ?_⟩
    obtain ⟨n0, t0⟩ := rw_.a0.ty (K := K)
    refine ⟨_, rfl, _, _, _, _, _, rfl, .ty "tuple", t0.ty, kit_ty t0.t, _, rfl, ?_⟩
    have no : dTup d0 = false → ¬ isTerms d0 d1 d2 d3 := fun e z => by
      obtain ⟨ns, e2, _⟩ := z.1
      rw [e2] at e
      cases e
    have a0 := rw_.a0
    have s0 := rw_.s0
    refine ite2 (fun c => ?_) (fun c => ?_)
    · refine q false H (Same.refl H) ⟨fun z => (by cases z), fun z => absurd z (no ?_)⟩
      simpa using c
    · have et : dTup d0 = true := by simpa using c
      cases a0 with
      | @tup a xs ds ha hz hall =>
        have hlen := hall.len
        refine ⟨_, rfl, a, _, rfl, .inr (SqT.of ha), _, _, rfl, rfl, _, rfl, ?_⟩
        refine ite2 (fun c2 => ?_) (fun c2 => ?_)
        · have c' : (4 : Int) < ((xs.length : Nat) : Int) := of_decide_eq_true c2
          refine q false H (Same.refl H) ⟨fun z => (by cases z), fun z => ?_⟩
          obtain ⟨ns, e, ok⟩ := z.1
          injection e with e
          have h4 := ok.len
          rw [e, List.length_map] at hlen
          omega
        · have c' : ¬ (4 : Int) < ((xs.length : Nat) : Int) := fun z => c2 (decide_eq_true z)
          refine ⟨_, rfl, a, rfl, ⟨_, SqT.of ha⟩, fun D hD => lc_tup (K := K) (a := a) (xs := xs) (fun i H' => Same H H' ∧ H' D = some (.lst ((xs.take i).filter notNum))) ⟨same_upd (Same.refl H) hD, upd_same⟩ (fun i H' _ p => sqt_same (SqT.of ha) p.1) ?_ ?_⟩
          · rintro i x H' hx ⟨sm, acc⟩
            obtain ⟨dx, _, hdx⟩ := hall.get hx
            have li := (List.getElem?_eq_some_iff.mp hx).1
            have fl := List.length_filter_le notNum (xs.take i)
            rw [List.length_take] at fl
            refine ⟨rfl, _, rfl, x, 1, 99, rfl, (Da.th hdx).same sm, _, rfl, ?_⟩
            have e0 := take_snoc hx
            refine ite2 (fun c3 => ?_) (fun c3 => ?_)
            · have c4 : notNum x = true := c3
              refine ⟨_, rfl, _, acc, small1000 (by omega), same_upd sm hD, ?_⟩
              rw [upd_same, e0, List.filter_append, List.filter_cons, if_pos c4, List.filter_nil]
            · have c4 : ¬ notNum x = true := c3
              refine ⟨sm, ?_⟩
              rw [e0, List.filter_append, List.filter_cons, if_neg c4, List.filter_nil, List.append_nil]
              exact acc
          · rintro H1 ⟨sm, acc⟩
            rw [List.take_length] at acc
            refine ⟨Nat.zero_le _, fun e2 he2 => ?_⟩
            have s2 := up2 (o := .lst []) he2
            have sm2 := sm.trans s2
            obtain ⟨es, f1, f2, f3, f4⟩ := da_filter hall (s0.ly _ rfl)
            have dpd := s0.dp
            have dpe : (PyData.tuple ds).depth = PyData.depthAll ds + 1 := rfl
            have f1' := DaAll.keep (Keeps.of sm2) _ _ f1
            refine ⟨.list es, .list [], .lst (SqL.of (s2 _ _ acc)) (DaAll.dp _ _ f1' f4), .lst (SqL.of upd_same) .nil, ?_, ?_, _, rfl, ?_⟩
            · unfold SeqAt.shaped
              rw [Bool.and_eq_true]
              refine ⟨f2, decide_eq_true ?_⟩
              show PyData.depthAll es + 1 ≤ 64
              omega
            · decide
            · rw [eqv_nil]
              refine ite2 (fun c3 => ?_) (fun c3 => ?_)
              · have ne : ¬ es = [] := by simpa using c3
                refine q false _ sm2 ⟨fun z => (by cases z), fun z => ?_⟩
                obtain ⟨ns, e, ok⟩ := z.1
                injection e with e
                subst e
                rw [da_ints hall, filter_ints ok.rng] at f1
                cases f1
                exact absurd rfl ne
              · have ee : es = [] := by simpa using c3
                subst ee
                have fe : xs.filter notNum = [] := by
                  have := f1.len
                  exact List.length_eq_zero_iff.mp this
                obtain ⟨ns, ex, ed, rg⟩ := in_nums hall (filter_nil fe)
                subst ex ed
                rw [List.length_map] at c'
                have le4 : ns.length ≤ 4 := by omega
                refine ⟨_, rfl, a, _, rfl, .inr (SqT.of (sm2 _ _ ha)), fun l1 hl1 => ?_⟩
                have s3 := sm2.trans (up2 (o := .lst (ns.map V.int)) hl1)
                refine ⟨_, rfl, a, ns, rfl, SqT.of (s3 _ _ ha), by omega, fun p n hp hn => ?_⟩
                have s4 := up2 (o := SetO w p (fun k => decide (k ∈ ns)) n) hp
                refine ⟨p, _, n, rfl, upd_same, by omega, fun ys p2 pw mem len hp2 => ?_⟩
                have s5 := up2 (o := .lst (ys.map V.int)) hp2
                have hl1' : (upd (upd (upd (upd H1 e2 (.lst [])) l1 (.lst (ns.map V.int))) p (SetO w p (fun k => decide (k ∈ ns)) n)) p2 (.lst (ys.map V.int))) l1 = some (.lst (ns.map V.int)) := (s4.trans s5) _ _ upd_same
                refine ⟨.list (ns.map PyData.int), .list (ys.map PyData.int), .lst (SqL.of hl1') (dp_ints _), .lst (SqL.of upd_same) (dp_ints _), shaped_list _, shaped_list _, _, rfl, ?_⟩
                have e1 : PyData.eqv (.list (ns.map PyData.int)) (.list (ys.map PyData.int)) = decide (ns = ys) := by
                  rw [← eqv_ints]
                  simp only [PyData.eqv]
                rw [e1]
                have s6 := s3.trans (s4.trans s5)
                have mem' : ∀ k, k ∈ ys ↔ k ∈ ns := fun k => by
                  rw [mem k, decide_eq_true_iff]
                refine ite2 (fun c5 => ?_) (fun c5 => ?_)
                · have ne : ¬ ns = ys := by simpa using c5
                  refine q false _ s6 ⟨fun z => (by cases z), fun z => ?_⟩
                  obtain ⟨ms, e, ok⟩ := z.1
                  injection e with e
                  have e7 : ns = ms := (List.map_inj_right (fun a b h => by injection h)).mp e
                  subst e7
                  exact absurd (rising_ext ok.up pw fun k => (mem' k).symm) ne
                · have ee : ns = ys := by simpa using c5
                  have ok : OkL ns := ⟨le4, rg, by rw [ee]; exact pw⟩
                  have r6 := rw_.keep (Keeps.of s6)
                  obtain ⟨n1, t1⟩ := r6.a1.ty (K := K)
                  obtain ⟨n3, t3⟩ := r6.a3.ty (K := K)
                  refine ⟨_, rfl, R, _, 1, _, rfl, rfl, SqT.of r6.at_, i1, _, _, _, _, _, rfl, .ty "bool", t1.ty, kit_ty t1.b, _, rfl, ?_⟩
                  refine ite2 (fun c6 => ?_) (fun c6 => ?_)
                  · refine q false _ s6 ⟨fun z => (by cases z), fun z => ?_⟩
                    obtain ⟨b', e⟩ := z.2.1
                    rw [e] at c6
                    cases c6
                  · have e1 : dBool d1 = true := by simpa using c6
                    refine ⟨_, rfl, R, _, 3, _, rfl, rfl, SqT.of r6.at_, i3, _, _, _, _, _, rfl, .ty "bool", t3.ty, kit_ty t3.b, _, rfl, ?_⟩
                    refine ite2 (fun c7 => ?_) (fun c7 => ?_)
                    · refine q false _ s6 ⟨fun z => (by cases z), fun z => ?_⟩
                      obtain ⟨b', e⟩ := z.2.2.2
                      rw [e] at c7
                      cases c7
                    · have e3 : dBool d3 = true := by simpa using c7
                      refine ⟨_, rfl, R, _, 2, _, rfl, rfl, SqT.of r6.at_, i2, _, rfl, v2, _, _, rfl, Da.th r6.a2, ?_⟩
                      refine q _ _ s6 ?_
                      have nm := num_of (lo := -99) (hi := 99) r6.a2
                      constructor
                      · intro z
                        exact ⟨⟨ns, rfl, ok⟩, bool_of.mp e1, nm.mp z, bool_of.mp e3⟩
                      · rintro ⟨_, _, z, _⟩
                        exact nm.mpr z
      | _ => cases et
end
end K2
set_option Elab.async false
set_option linter.all false
set_option maxRecDepth 100000
set_option maxHeartbeats 4000000
namespace K2
open PySem PySem.Spec PyProof.Rows L2 Bb
/-! rules made of a row; its text -/
def spMade (C CN : Addr) : Sp := fun vs H Q E => ∃ (Z : Addr → Prop) (R : Addr) (v0 v1 v2 v3 : V) (d0 d1 d2 d3 : PyData), vs = [.ref R] ∧ Row Z H R v0 v1 v2 v3 d0 d1 d2 d3 ∧
  (∀ x l ns up wd sh H', norm d0 = .tuple (ns.map PyData.int) → OkL ns → d1 = .bool up → d2 = .int wd → (-99 ≤ wd ∧ wd ≤ 99) → d3 = .bool sh → Same H H' → H x = none → At C H' x l ns up wd sh → Q (.ref x) H') ∧
  (¬ isTerms (norm d0) d1 d2 d3 → ∀ H', Same H H' → E (.ref CN) none H')
def wTxt (ns : List Int) (up : Bool) (wd : Int) (sh : Bool) : Str := ("Rules(" : Str) ++ Txt.join (", " : Str) [("limits=" : Str) ++ (PyData.tuple (ns.map PyData.int)).shown, ("up=" : Str) ++ (PyData.bool up).shown, ("wind=" : Str) ++ (PyData.int wd).shown, ("shares=" : Str) ++ (PyData.bool sh).shown] ++ (")" : Str)
def spText : Sp := fun vs H Q _ => ∃ (R l : Addr) (ns : List Int) (up : Bool) (wd : Int) (sh : Bool), vs = [.ref R] ∧ H R = some (.tup [.ref l, .bl up, .int wd, .bl sh]) ∧ H l = some (.tup (ns.map V.int)) ∧ OkL ns ∧ (-99 ≤ wd ∧ wd ≤ 99) ∧ ∀ H', Same H H' → Q (.str (txt ns up wd sh)) H'
section
variable {P : Program} {w : World} {K : PySem.W.Frag} {mg : Str → Option Value} {base : Heap} {f : Addr} {fd : FuncData}
/-- all parameters of Rules are given -/
theorem init_binds {K : PySem.W.Frag} {f : Addr} {fd : FuncData} {dvs : List V} (F : FunD K "__init__" "Rules.__init__" (defArgs sInit) (defBody sInit) (defScope sInit) dvs [] f fd) (h : dvs.length = 4) : Binds K fd nInit [] := by
  obtain ⟨ds, rd, b⟩ := F.binds1 (ps := nInit) 5 4 (by intro e; rw [e] at h; cases h) (by rw [h]; rfl) (fun T kV doc pm an cdv ct us its h1 h2 => by
    rw [h] at h2
    match us, its, h1, h2 with
    | [_, _, _, _, _], [_, _, _, _], _, _ => exact ⟨_, rfl, rfl⟩)
  have e : dvs.drop 4 = [] := List.drop_of_length_le (by omega)
  rw [e] at rd
  cases rd
  exact b
theorem scMade : FnScope ["_law_row"] ["_law_row"] (defScope sMade) := ⟨rfl, rfl, rfl, by decide +kernel, rfl, by decide +kernel, by decide +kernel⟩
theorem ok_made {C CN aI : Addr} {dI : FuncData} {dvs : List V} (F : Fn K "_law_made" "_law_made" sMade f fd) (FI : FunD K "__init__" "Rules.__init__" (defArgs sInit) (defBody sInit) (defScope sInit) dvs [] aI dI) (hdv : dvs.length = 4) (MK : Mk K C aI) (h : Hlp K mg) (R : RulesT K mg C) (en : ErrT K mg "NoRules" CN) :
    FnOk P w K mg base (L2.CX P w) 6 f fd ["_law_row"] (spMade C CN) := by
  have GI : FnOk P w K mg base (L2.CX P w) 4 aI dI nInit (spInitG C CN) := ok_init FI h R en
  have bI : Binds K dI nInit [] := init_binds FI hdv
  refine F.ok (CX := L2.CX P w) scMade (fun vs H Q E h => ?_) (fun cdv A outer s H vs Q E hr hh => ?_)
  · obtain ⟨Z, R, v0, v1, v2, v3, d0, d1, d2, d3, rfl, _⟩ := h
    rfl
  · obtain ⟨Z, Rr, v0, v1, v2, v3, d0, d1, d2, d3, rfl, rw_, yes, no⟩ := hh
    refine ⟨_, pss_one (ps_ret (pe_make MK GI (hr.mono (by decide)) rfl R.gC bI .nil (passes_call (takes_of rfl rfl rfl rfl) (fun _ _ _ _ h => h)) (pa_cons (pe_ix ix_tup (pv 0) pe_int (fun _ _ => rfl)) (pa_cons (pe_ix ix_tup (pv 0) pe_int (fun _ _ => rfl)) (pa_cons (pe_ix ix_tup (pv 0) pe_int (fun _ _ => rfl)) (pa_cons (pe_ix ix_tup (pv 0) pe_int (fun _ _ => rfl)) pa_nil)))))), ?_⟩
    have i0 : ∀ {a b c d : V}, atI [a, b, c, d] (0 : Int) = some a := fun {a b c d} => at_of (j := 0) rfl rfl
    have i1 : ∀ {a b c d : V}, atI [a, b, c, d] (1 : Int) = some b := fun {a b c d} => at_of (j := 1) rfl rfl
    have i2 : ∀ {a b c d : V}, atI [a, b, c, d] (2 : Int) = some c := fun {a b c d} => at_of (j := 2) rfl rfl
    have i3 : ∀ {a b c d : V}, atI [a, b, c, d] (3 : Int) = some d := fun {a b c d} => at_of (j := 3) rfl rfl
    have hT := rw_.at_
    refine ⟨_, rfl, Rr, _, 0, _, rfl, rfl, SqT.of hT, i0, _, rfl, Rr, _, 1, _, rfl, rfl, SqT.of hT, i1, _, rfl, Rr, _, 2, _, rfl, rfl, SqT.of hT, i2, _, rfl, Rr, _, 3, _, rfl, rfl, SqT.of hT, i3, fun x dx nx ndx nex => ?_⟩
    have mk0 : Same H (upd (upd H dx (.own x)) x (.ins C dx [])) := Same.made nx ndx fun _ _ e _ => e
    have r1 := rw_.keep (Keeps.of mk0)
    refine ⟨Z, x, dx, v0, v1, v2, v3, d0, d1, d2, d3, rfl, upd_same, r1.a0, r1.a1, r1.a2, r1.a3, fun l ns up wd sh H' e0 ok e1 e2 hw e3 kp hx hl => ⟨rfl, ?_⟩, fun nt H' sm => ?_⟩
    · exact yes x l ns up wd sh H' e0 ok e1 e2 hw e3 (Same.made nx ndx kp) nx ⟨⟨dx, hx⟩, hl, ok⟩
    · exact no nt H' (mk0.trans sm)
abbrev nText : List Str := ["_law_row", "_law_words"]
theorem scText : FnScope nText ["_law_row"] (defScope sText) := ⟨rfl, rfl, rfl, by decide +kernel, rfl, by decide +kernel, by decide +kernel⟩
theorem wtxt_eq (ns : List Int) (up : Bool) (wd : Int) (sh : Bool) : wTxt ns up wd sh = txt ns up wd sh := by
  unfold wTxt txt
  have h0 : ("Rules(limits=" : Str) = ("Rules(" : Str) ++ ("limits=" : Str) := by decide +kernel
  have h1 : (", up=" : Str) = (", " : Str) ++ ("up=" : Str) := by decide +kernel
  have h2 : (", wind=" : Str) = (", " : Str) ++ ("wind=" : Str) := by decide +kernel
  have h3 : (", shares=" : Str) = (", " : Str) ++ ("shares=" : Str) := by decide +kernel
  rw [h0, h1, h2, h3]
  have e : ∀ a b c d : Str, Txt.join (", " : Str) [a, b, c, d] = a ++ (", " : Str) ++ b ++ (", " : Str) ++ c ++ (", " : Str) ++ d := by
    intro a b c d
    show Builtin.Str.glued (", " : Str) [a, b, c, d] = _
    first
      | rfl
      | simp [Builtin.Str.glued]
  rw [e]
  simp only [Str.append_assoc]
theorem ok_text (F : Fn K "_law_text" "_law_text" sText f fd) (T : Free mg) : FnG P w K mg base L2.CX0 1 f fd ["_law_row"] spText := by
  refine fnG F scText (fun vs H Q E h => ?_) (fun cdv A outer s H vs Q E gd hr hcd hh => ?_)
  · obtain ⟨R, l, ns, up, wd, sh, rfl, _⟩ := h
    rfl
  · obtain ⟨R, l, ns, up, wd, sh, rfl, hR, hl, ok, hw, q⟩ := hh
    let X := (cxOf L2.CX0 P w K mg base nText "_law_text" (defScope sText) f cdv A outer s H E).nox
    have gdX : X.A.guards = some [] := gd
    have rep := call_reprA (X := X) gdX hr.units
    refine ⟨_, PSs.nox (pss_cons (ps_set (i := 1) scText.nd rfl (.inl rfl) (pe_lst (pa_cons (pe_op op_add_str pe_str (pe_callB rep rfl T.rep_ boot_repr (pa_cons (pe_ix ix_tup (pv 0) pe_int (fun _ _ => rfl)) pa_nil)))
        (pa_cons (pe_op op_add_str pe_str (pe_callB rep rfl T.rep_ boot_repr (pa_cons (pe_ix ix_tup (pv 0) pe_int (fun _ _ => rfl)) pa_nil)))
        (pa_cons (pe_op op_add_str pe_str (pe_callB rep rfl T.rep_ boot_repr (pa_cons (pe_ix ix_tup (pv 0) pe_int (fun _ _ => rfl)) pa_nil)))
        (pa_cons (pe_op op_add_str pe_str (pe_callB rep rfl T.rep_ boot_repr (pa_cons (pe_ix ix_tup (pv 0) pe_int (fun _ _ => rfl)) pa_nil))) pa_nil))))))
      (pss_one (ps_ret (pe_op op_add_str (pe_op op_add_str pe_str (pe_bm PySem.F.plainAttrs_str PySem.F.slot_str_join PySem.F.type_str_join mt_join pe_str (pa_cons (pv 1) pa_nil))) pe_str)))), ?_⟩
    have i0 : ∀ {a b c d : V}, atI [a, b, c, d] (0 : Int) = some a := fun {a b c d} => at_of (j := 0) rfl rfl
    have i1 : ∀ {a b c d : V}, atI [a, b, c, d] (1 : Int) = some b := fun {a b c d} => at_of (j := 1) rfl rfl
    have i2 : ∀ {a b c d : V}, atI [a, b, c, d] (2 : Int) = some c := fun {a b c d} => at_of (j := 2) rfl rfl
    have i3 : ∀ {a b c d : V}, atI [a, b, c, d] (3 : Int) = some d := fun {a b c d} => at_of (j := 3) rfl rfl
    have s0 : Sm (.tuple (ns.map PyData.int)) := Sm.ints (fun n hn => by have := ok.rng n hn; omega) (Nat.le_trans ok.len (by decide))
    have s1 := Sm.bl up
    have s2 : Sm (.int wd) := Sm.int (by omega)
    have s3 := Sm.bl sh
    have dl : Da (fun _ => False) H (.ref l) (.tuple (ns.map PyData.int)) := .tup hl (fun z => z) (DaAll.ints ns)
    have l0 := s0.ln
    have l1 := s1.ln
    have l2 := s2.ln
    have l3 := s3.ln
    have sz := sizeLine_eq
    have c0 : (("limits=" : String) : Str).length = 7 := by decide +kernel
    have c1 : (("up=" : String) : Str).length = 3 := by decide +kernel
    have c2 : (("wind=" : String) : Str).length = 5 := by decide +kernel
    have c3 : (("shares=" : String) : Str).length = 7 := by decide +kernel
    have c4 : ((")" : String) : Str).length = 1 := by decide +kernel
    have c5 : (("Rules(" : String) : Str).length = 6 := by decide +kernel
    have c6 : ((", " : String) : Str).length = 2 := by decide +kernel
    have n60 : ∀ {n : Nat}, n ≤ 4 → n ≤ 60 := fun h => by omega
    have n16 : ∀ {n : Nat}, n ≤ 200 → n ≤ sizeLine := fun h => by omega
    refine ⟨_, rfl, R, _, 0, _, rfl, rfl, SqT.of hR, i0, _, _, _, rfl, dl, s0.nl, s0.sh, n60 s0.dp, n16 l0, _, _, rfl, rfl, by omega, ?_⟩
    refine ⟨_, rfl, R, _, 1, _, rfl, rfl, SqT.of hR, i1, (fun _ => False), _, _, rfl, .bl up, s1.nl, s1.sh, n60 s1.dp, n16 l1, _, _, rfl, rfl, by omega, ?_⟩
    refine ⟨_, rfl, R, _, 2, _, rfl, rfl, SqT.of hR, i2, (fun _ => False), _, _, rfl, .int wd, s2.nl, s2.sh, n60 s2.dp, n16 l2, _, _, rfl, rfl, by omega, ?_⟩
    refine ⟨_, rfl, R, _, 3, _, rfl, rfl, SqT.of hR, i3, (fun _ => False), _, _, rfl, .bl sh, s3.nl, s3.sh, n60 s3.dp, n16 l3, _, _, rfl, rfl, by omega, ?_⟩
    refine ⟨(by show 4 ≤ sizeLine; decide), fun L hL => ?_⟩
    have b0 := strLen_append ("limits=" : Str) (PyData.tuple (ns.map PyData.int)).shown
    have b1 := strLen_append ("up=" : Str) (PyData.bool up).shown
    have b2 := strLen_append ("wind=" : Str) (PyData.int wd).shown
    have b3 := strLen_append ("shares=" : Str) (PyData.bool sh).shown
    obtain ⟨ws, ews⟩ : ∃ ws, ws = [("limits=" : Str) ++ (PyData.tuple (ns.map PyData.int)).shown, ("up=" : Str) ++ (PyData.bool up).shown, ("wind=" : Str) ++ (PyData.int wd).shown, ("shares=" : Str) ++ (PyData.bool sh).shown] := ⟨_, rfl⟩
    have sm : (ws.map (·.length)).sum + ws.length * ((", " : String) : Str).length ≤ 900 := by
      rw [ews]
      simp only [List.map_cons, List.map_nil, List.sum_cons, List.sum_nil, List.length_cons, List.length_nil]
      omega
    have jl : (Txt.join (", " : Str) ws).length ≤ 900 := by
      have := PySem.size_glued (", " : Str) ws
      show (Builtin.Str.glued (", " : Str) ws).length ≤ 900
      rw [this]
      have : (ws.length - 1) * ((", " : String) : Str).length ≤ ws.length * ((", " : String) : Str).length := Nat.mul_le_mul_right _ (Nat.sub_le _ _)
      omega
    have hL2 : (upd H L (.lst (ws.map V.str))) L = some (.lst (ws.map V.str)) := upd_same
    have key : Q (.str (("Rules(" : Str) ++ Txt.join (", " : Str) ws ++ (")" : Str))) (upd H L (.lst (ws.map V.str))) := by
      have e := wtxt_eq ns up wd sh
      unfold wTxt at e
      rw [ews, e, ← ews]
      exact q _ (up2 hL)
    have k1 : (("Rules(" : Str) ++ Txt.join (", " : Str) ws).length ≤ 906 := by
      rw [strLen_append]
      omega
    have eL : upd H L (.lst (ws.map V.str)) = upd H L (.lst [.str (("limits=" : Str) ++ (PyData.tuple (ns.map PyData.int)).shown), .str (("up=" : Str) ++ (PyData.bool up).shown), .str (("wind=" : Str) ++ (PyData.int wd).shown), .str (("shares=" : Str) ++ (PyData.bool sh).shown)]) := by
      rw [ews]
      rfl
    rw [← eL]
    refine ⟨rfl, _, rfl, _, L, ws, rfl, rfl, .inl (SqL.of hL2), by omega, _, _, rfl, rfl, by omega, _, _, rfl, rfl, by omega, key⟩
end
end K2
set_option Elab.async false
set_option linter.all false
set_option maxRecDepth 100000
set_option maxHeartbeats 4000000
namespace K2
open PySem PySem.Spec PyProof.Rows L2 Bb
/-! things of any kind, as data -/
theorem Sm.str {z : Str} (h : (reprText z).length ≤ 200) : Sm (.str z) := ⟨rfl, Nat.zero_le _, h, fun z => (by cases z), fun ds z => (by cases z)⟩
theorem sm_t0 : Sm (.tuple []) := by exact ⟨by decide +kernel, by decide +kernel, by decide +kernel, by decide +kernel, fun ds e => by first | (cases e; done) | (cases e; decide +kernel)⟩
theorem sm_l0 : Sm (.list []) := by exact ⟨by decide +kernel, by decide +kernel, by decide +kernel, by decide +kernel, fun ds e => by first | (cases e; done) | (cases e; decide +kernel)⟩
theorem sm_d0 : Sm (.dict []) := by exact ⟨by decide +kernel, by decide +kernel, by decide +kernel, by decide +kernel, fun ds e => by first | (cases e; done) | (cases e; decide +kernel)⟩
theorem sm_t1 : Sm (.tuple [.int 0]) := by exact ⟨by decide +kernel, by decide +kernel, by decide +kernel, by decide +kernel, fun ds e => by first | (cases e; done) | (cases e; decide +kernel)⟩
theorem sm_t1b : Sm (.tuple [.int 1]) := by exact ⟨by decide +kernel, by decide +kernel, by decide +kernel, by decide +kernel, fun ds e => by first | (cases e; done) | (cases e; decide +kernel)⟩
theorem sm_l1 : Sm (.list [.int 0]) := by exact ⟨by decide +kernel, by decide +kernel, by decide +kernel, by decide +kernel, fun ds e => by first | (cases e; done) | (cases e; decide +kernel)⟩
theorem sm_tt : Sm (.tuple [.tuple []]) := by exact ⟨by decide +kernel, by decide +kernel, by decide +kernel, by decide +kernel, fun ds e => by first | (cases e; done) | (cases e; decide +kernel)⟩
theorem sm_t2 : Sm (.tuple [.int 1, .int 2]) := by exact ⟨by decide +kernel, by decide +kernel, by decide +kernel, by decide +kernel, fun ds e => by first | (cases e; done) | (cases e; decide +kernel)⟩
theorem sm_d1 : Sm (.dict [(.int 0, .int 0)]) := by exact ⟨by decide +kernel, by decide +kernel, by decide +kernel, by decide +kernel, fun ds e => by first | (cases e; done) | (cases e; decide +kernel)⟩
/-- all but the pen's address -/
abbrev Zp (p : Addr) : Addr → Prop := fun b => b = p
theorem Kp.keeps {p : Addr} {H H' : Hp} (k : Kp p H H') : Keeps (Zp p) H H' := fun b o e _ n => k.keep b o e n
/-- what stood at the entry -/
abbrev Old (H : Hp) : Addr → Prop := fun b => H b ≠ none
theorem Kp.keepsO {p : Addr} {H H' : Hp} {Z : Addr → Prop} (k : Kp p H H') (z : Z p) : Keeps Z H H' := fun b o e _ n => k.keep b o e fun q => n (by rw [q]; exact z)
theorem pen_old {p : Addr} {H : Hp} (hp : Pen H p) : H p ≠ none := fun z => by
  obtain ⟨x, f, e⟩ := hp
  rw [z] at e
  cases e
def spThingD : Sp := fun vs H Q _ => ∃ p, vs = [.ref p] ∧ Pen H p ∧ ∀ v d H', Kp p H H' → Da (Old H) H' v d → Sm d → Q v H'
def spOddD : Sp := fun vs H Q _ => ∃ (p : Addr) (lo hi : Int), vs = [.ref p, .int lo, .int hi] ∧ Pen H p ∧ (lo.natAbs < 10 ^ 17 ∧ hi.natAbs < 10 ^ 17) ∧ ∀ v d H', Kp p H H' → Da (Old H) H' v d → Sm d → Q v H'
section
variable {P : Program} {w : World} {K : PySem.W.Frag} {mg : Str → Option Value} {base : Heap} {f : Addr} {fd : FuncData}
theorem scAny : FnScope ["_law_pen_here", "_law_odd_here"] ["_law_pen_here"] (defScope sAny) := ⟨rfl, rfl, rfl, by decide +kernel, rfl, by decide +kernel, by decide +kernel⟩
theorem ok_any (F : Fn K "_law_anything" "_law_anything" sAny f fd) (h : Hl K mg) : FnOk P w K mg base L2.CX0 3 f fd ["_law_pen_here"] spThingD := by
  obtain ⟨aP, dP, GP, gP, kP, bP⟩ := h.pk (P := P) (w := w) (base := base)
  refine F.ok scAny (fun vs H Q E h => ?_) (fun cdv A outer s H vs Q E hr hh => ?_)
  · obtain ⟨p, rfl, _⟩ := h
    rfl
  · obtain ⟨p, rfl, hp, q⟩ := hh
    refine ⟨_, PSs.nox (pss_cons (ps_set (i := 1) scAny.nd rfl (.inl rfl) (pe_lst (pa_cons pe_non (pa_cons pe_bl (pa_cons pe_bl (pa_cons pe_str (pa_cons pe_str (pa_cons pe_str (pa_cons (pe_tup pa_nil) (pa_cons (pe_lst pa_nil) (pa_cons pe_dnewK
        (pa_cons (pe_un un_neg pe_int) (pa_cons (pe_op op_pow pe_int pe_int) (pa_cons pe_int (pa_cons pe_int (pa_cons (pe_tup (pa_cons pe_int pa_nil)) (pa_cons (pe_lst (pa_cons pe_int pa_nil)) (pa_cons (pe_tup (pa_cons (pe_tup pa_nil) pa_nil))
        (pa_cons (pe_tup (pa_cons pe_int (pa_cons pe_int pa_nil))) (pa_cons (pe_disp (pps_cons pe_int pe_int pps_nil) (by rfl) (by rfl) (fun z => by cases z) (by decide)) pa_nil))))))))))))))))))))
      (pss_one (ps_ret (pe_call GP hr rfl gP kP bP .nil pass0 (pa_cons (pv 0) (pa_cons (pv 1) pa_nil)))))), ?_⟩
    have zs : 0 ≤ sizeLine := Nat.zero_le _
    have os : 1 ≤ sizeLine := by decide
    have ts : 2 ≤ sizeLine := by decide
    refine ⟨zs, fun t1 h1 => ⟨zs, fun l1 h2 => fun d1 h3 => ⟨_, rfl, _, _, rfl, rfl, ⟨by decide, by decide, by decide⟩, os, fun t2 h4 => ⟨os, fun l2 h5 => ⟨zs, fun t3 h6 => ⟨os, fun t4 h7 => ⟨ts, fun t5 h8 => fun d2 h9 => ⟨upd_same, [(Sum.inl 0, .int 0)], rfl, (by decide), ?_⟩⟩⟩⟩⟩⟩⟩⟩
    refine ⟨(by show 18 ≤ sizeLine; decide), fun L hL => ?_⟩
    have c1 := up2 (o := .tup []) h1
    have c2 := up2 (o := .lst []) h2
    have c3 := up2 (o := .dK []) h3
    have c4 := up2 (o := .tup [V.int 0]) h4
    have c5 := up2 (o := .lst [V.int 0]) h5
    have c6 := up2 (o := .tup []) h6
    have c7 := up2 (o := .tup [V.ref t3]) h7
    have c8 := up2 (o := .tup [V.int 1, V.int 2]) h8
    have c10 := same_upd (o := .dK (mergeK [] [(Sum.inl 0, V.int 0)])) (up2 (o := .dK []) h9) h9
    have r9 := up2 (o := .lst [.non, .bl true, .bl false, .str "", .str "ann", .str "less", .ref t1, .ref l1, .ref d1, .int (-1), .int (10 ^ 39), .int 0, .int 7, .ref t2, .ref l2, .ref t4, .ref t5, .ref d2]) hL
    have r8 := c10.trans r9
    have r7 := c8.trans r8
    have r6 := c7.trans r7
    have r5 := c6.trans r6
    have r4 := c5.trans r5
    have r3 := c4.trans r4
    have r2 := c3.trans r3
    have r1 := c2.trans r2
    have r0 := c1.trans r1
    have hp' := pen_same hp r0
    refine ⟨_, rfl, _, rfl, p, L, _, rfl, hp', upd_same, ?_, ⟨(by show 0 < 18; decide), (by show 18 ≤ 1000; decide)⟩, fun v H' hv kp => ?_⟩
    · exact pen_ne hp' upd_same (fun x f z => by injection z with z; injection z with z _; cases z)
    · have k2 := ((Kp.refl hp).same r0).trans kp
      have kk : Keeps (Old H) _ _ := Kp.keepsO kp (pen_old hp)
      have fin : ∀ {u : V} {d : PyData}, Da (Old H) _ u d → Sm d → Q u H' := fun {u d} a s => q u d H' k2 (Da.keep kk _ _ a) s
      have b1 := c1
      have b2 := b1.trans c2
      have b3 := b2.trans c3
      have b4 := b3.trans c4
      have b5 := b4.trans c5
      have b6 := b5.trans c6
      have b7 := b6.trans c7
      have b8 := b7.trans c8
      have fr : ∀ {G : Hp} {t : Addr}, Same H G → G t = none → ¬ Old H t := fun s e z => z (Same.free s e)
      simp only [List.mem_cons, List.not_mem_nil, or_false] at hv
      rcases hv with rfl | rfl | rfl | rfl | rfl | rfl | rfl | rfl | rfl | rfl | rfl | rfl | rfl | rfl | rfl | rfl | rfl | rfl
      · exact fin .non Sm.non
      · exact fin (.bl _) (Sm.bl _)
      · exact fin (.bl _) (Sm.bl _)
      · exact fin (.str _) (Sm.str (by decide +kernel))
      · exact fin (.str _) (Sm.str (by decide +kernel))
      · exact fin (.str _) (Sm.str (by decide +kernel))
      · have e := r1 _ _ upd_same
        exact fin (.tup e (fr (Same.refl H) h1) .nil) sm_t0
      · have e := r2 _ _ upd_same
        exact fin (.lst e (fr b1 h2) .nil) sm_l0
      · have e := r3 _ _ upd_same
        exact fin (.d0 e (fr b2 h3)) sm_d0
      · exact fin (.int _) (Sm.int (by decide))
      · exact fin (.int _) (Sm.int (by decide +kernel))
      · exact fin (.int _) (Sm.int (by decide))
      · exact fin (.int _) (Sm.int (by decide))
      · have e := r4 _ _ upd_same
        exact fin (.tup e (fr b3 h4) (.cons (.int _) .nil)) sm_t1
      · have e := r5 _ _ upd_same
        exact fin (.lst e (fr b4 h5) (.cons (.int _) .nil)) sm_l1
      · have e := r7 _ _ upd_same
        have e3 := r6 _ _ upd_same
        exact fin (.tup e (fr b6 h7) (.cons (.tup e3 (fr b5 h6) .nil) .nil)) sm_tt
      · have e := r8 _ _ upd_same
        exact fin (.tup e (fr b7 h8) (.cons (.int _) (.cons (.int _) .nil))) sm_t2
      · have e := r9 _ _ upd_same
        exact fin (.d1 e (fr b8 h9)) sm_d1
theorem scOdd : FnScope ["_law_pen_here", "_law_least", "_law_greatest", "_law_far"] ["_law_pen_here", "_law_least", "_law_greatest"] (defScope sOdd) := ⟨rfl, rfl, rfl, by decide +kernel, rfl, by decide +kernel, by decide +kernel⟩
theorem ok_odd (F : Fn K "_law_odd" "_law_odd" sOdd f fd) (h : Hl K mg) : FnOk P w K mg base L2.CX0 3 f fd ["_law_pen_here", "_law_least", "_law_greatest"] spOddD := by
  obtain ⟨aP, dP, GP, gP, kP, bP⟩ := h.pk (P := P) (w := w) (base := base)
  refine F.ok scOdd (fun vs H Q E h => ?_) (fun cdv A outer s H vs Q E hr hh => ?_)
  · obtain ⟨p, lo, hi, rfl, _⟩ := h
    rfl
  · obtain ⟨p, lo, hi, rfl, hp, ⟨b1, b2⟩, q⟩ := hh
    refine ⟨_, PSs.nox (pss_cons (ps_set (i := 3) scOdd.nd rfl (.inl rfl) (pe_lst (pa_cons (pv 1) (pa_cons (pv 2) (pa_cons (pe_op op_sub (pv 1) pe_int) (pa_cons (pe_op op_add (pv 2) pe_int) (pa_cons (pe_op op_pow pe_int pe_int)
        (pa_cons (pe_un un_neg (pe_op op_pow pe_int pe_int)) (pa_cons pe_bl (pa_cons pe_bl (pa_cons pe_non (pa_cons pe_str (pa_cons (pe_tup (pa_cons pe_int pa_nil)) (pa_cons (pe_lst (pa_cons pe_int pa_nil)) pa_nil))))))))))))))
      (pss_one (ps_ret (pe_call GP hr rfl gP kP bP .nil pass0 (pa_cons (pv 0) (pa_cons (pv 3) pa_nil)))))), ?_⟩
    have os : 1 ≤ sizeLine := by decide
    refine ⟨_, rfl, _, rfl, _, rfl, _, _, rfl, rfl, _, rfl, _, _, rfl, rfl, _, _, rfl, rfl, ⟨by decide, by decide, by decide⟩, _, _, rfl, rfl, ⟨by decide, by decide, by decide⟩, _, rfl, os, fun t1 h1 => ⟨os, fun l1 h2 => ⟨(by show 12 ≤ sizeLine; decide), fun L hL => ?_⟩⟩⟩
    have c1 := up2 (o := .tup [V.int 1]) h1
    have c2 := up2 (o := .lst [V.int 0]) h2
    have r2 := up2 (o := .lst [.int lo, .int hi, .int (lo - 1), .int (hi + 1), .int (10 ^ 39), .int (-(10 ^ 39)), .bl true, .bl false, .non, .str "1", .ref t1, .ref l1]) hL
    have r1 := c2.trans r2
    have r0 := c1.trans r1
    have hp' := pen_same hp r0
    refine ⟨_, rfl, _, rfl, p, L, _, rfl, hp', upd_same, ?_, ⟨(by show 0 < 12; decide), (by show 12 ≤ 1000; decide)⟩, fun v H' hv kp => ?_⟩
    · exact pen_ne hp' upd_same (fun x f z => by injection z with z; injection z with _ z; injection z with _ z; cases z)
    · have k2 := ((Kp.refl hp).same r0).trans kp
      have kk : Keeps (Old H) _ _ := Kp.keepsO kp (pen_old hp)
      have fin : ∀ {u : V} {d : PyData}, Da (Old H) _ u d → Sm d → Q u H' := fun {u d} a s => q u d H' k2 (Da.keep kk _ _ a) s
      have up : ∀ {i : Int}, i.natAbs < 10 ^ 18 → i.natAbs < 10 ^ 40 := fun h => Nat.lt_of_lt_of_le h (by decide +kernel)
      simp only [List.mem_cons, List.not_mem_nil, or_false] at hv
      rcases hv with rfl | rfl | rfl | rfl | rfl | rfl | rfl | rfl | rfl | rfl | rfl | rfl
      · exact fin (.int _) (Sm.int (up (by omega)))
      · exact fin (.int _) (Sm.int (up (by omega)))
      · exact fin (.int _) (Sm.int (up (by omega)))
      · exact fin (.int _) (Sm.int (up (by omega)))
      · exact fin (.int _) (Sm.int (by decide +kernel))
      · exact fin (.int _) (Sm.int (by decide +kernel))
      · exact fin (.bl _) (Sm.bl _)
      · exact fin (.bl _) (Sm.bl _)
      · exact fin .non Sm.non
      · exact fin (.str _) (Sm.str (by decide +kernel))
      · have e := r1 _ _ upd_same
        exact fin (.tup e (fun z => z h1) (.cons (.int _) .nil)) sm_t1b
      · have e := r2 _ _ upd_same
        exact fin (.lst e (fun z => z (Same.free c1 h2)) (.cons (.int _) .nil)) sm_l1
end
end K2
set_option Elab.async false
set_option linter.all false
set_option maxRecDepth 100000
set_option maxHeartbeats 4000000
namespace K2
open PySem PySem.Spec PyProof.Rows L2 Bb
/-! a row with one part otherwise -/
def Odd (Z : Addr → Prop) (H : Hp) (v : V) : Prop := ∃ d, Da Z H v d ∧ Sm d
theorem Odd.keep {Z : Addr → Prop} {H H' : Hp} {v : V} (o : Odd Z H v) (k : Keeps Z H H') : Odd Z H' v := by
  obtain ⟨d, a, s⟩ := o
  exact ⟨d, Da.keep k _ _ a, s⟩
theorem Odd.same {Z : Addr → Prop} {H H' : Hp} {v : V} (o : Odd Z H v) (s : Same H H') : Odd Z H' v := o.keep (Keeps.of s)
theorem Odd.tup {Z : Addr → Prop} {H : Hp} {a : Addr} {ns : List Int} (nz : ¬ Z a) (e : H a = some (.tup (ns.map V.int))) (hr : ∀ n ∈ ns, n.natAbs < 10 ^ 18) (hl : ns.length ≤ 8) : Odd Z H (.ref a) :=
  ⟨_, .tup e nz (DaAll.ints ns), Sm.ints hr hl⟩
theorem clean_ints (ns : List Int) : PyData.hasDictAll (ns.map PyData.int) = false ∧ noLists (ns.map PyData.int) = true := by
  induction ns with
  | nil => exact ⟨rfl, rfl⟩
  | cons n ns ih =>
    refine ⟨?_, ?_⟩
    · show (PyData.hasDict (.int n) || PyData.hasDictAll (ns.map PyData.int)) = false
      rw [ih.1]
      rfl
    · show (noList (.int n) && noLists (ns.map PyData.int)) = true
      rw [ih.2]
      rfl
theorem Sm.lints {ns : List Int} (hr : ∀ n ∈ ns, n.natAbs < 10 ^ 18) (hl : ns.length ≤ 8) : Sm (.list (ns.map PyData.int)) := by
  refine ⟨show_ints ns hr, ?_, ?_, fun z => ?_, fun ds z => (by cases z)⟩
  · show PyData.depthAll (ns.map PyData.int) + 1 ≤ 4
    rw [depth_ints]
    decide
  · have h1 := listText_le (PyData.shownAll (ns.map PyData.int))
    have h2 := piled_ints ns hr
    show (listText (PyData.shownAll (ns.map PyData.int))).length ≤ 200
    omega
  · have z2 : PyData.hasDictAll (ns.map PyData.int) = true := z
    rw [(clean_ints ns).1] at z2
    cases z2
theorem sm_15 : Sm (.tuple [.int 1, .int 2, .int 3, .int 4, .int 5]) := by exact ⟨by decide +kernel, by decide +kernel, by decide +kernel, by decide +kernel, fun ds e => by first | (cases e; done) | (cases e; decide +kernel)⟩
theorem sm_tr : Sm (.tuple [.bool true]) := by exact ⟨by decide +kernel, by decide +kernel, by decide +kernel, by decide +kernel, fun ds e => by first | (cases e; done) | (cases e; decide +kernel)⟩
theorem one_all (a b c d : PyData) : (PyData.hasDictAll [a, b, c, d] = (a.hasDict || (b.hasDict || (c.hasDict || d.hasDict)))) ∧ (noLists [a, b, c, d] = (noList a && (noList b && (noList c && noList d)))) := by
  constructor
  · simp [PyData.hasDictAll]
  · simp [noLists]
def Clean (d : PyData) : Prop := d.hasDict = false ∧ noList d = true
theorem clean_tup (ns : List Int) : Clean (.tuple (ns.map PyData.int)) := ⟨(clean_ints ns).1, (clean_ints ns).2⟩
theorem clean_bl (b : Bool) : Clean (.bool b) := ⟨rfl, rfl⟩
theorem clean_int (i : Int) : Clean (.int i) := ⟨rfl, rfl⟩
theorem one0 {a b c d : PyData} (s : Sm a) (hb : Clean b) (hc : Clean c) (hd : Clean d) : PyData.hasDictAll [a, b, c, d] = true → noLists [a, b, c, d] = true := by
  rw [(one_all a b c d).1, (one_all a b c d).2, hb.1, hb.2, hc.1, hc.2, hd.1, hd.2]
  intro h
  simp at h
  simp [s.nl h]
theorem one1 {a b c d : PyData} (ha : Clean a) (s : Sm b) (hc : Clean c) (hd : Clean d) : PyData.hasDictAll [a, b, c, d] = true → noLists [a, b, c, d] = true := by
  rw [(one_all a b c d).1, (one_all a b c d).2, ha.1, ha.2, hc.1, hc.2, hd.1, hd.2]
  intro h
  simp at h
  simp [s.nl h]
theorem one2 {a b c d : PyData} (ha : Clean a) (hb : Clean b) (s : Sm c) (hd : Clean d) : PyData.hasDictAll [a, b, c, d] = true → noLists [a, b, c, d] = true := by
  rw [(one_all a b c d).1, (one_all a b c d).2, ha.1, ha.2, hb.1, hb.2, hd.1, hd.2]
  intro h
  simp at h
  simp [s.nl h]
theorem one3 {a b c d : PyData} (ha : Clean a) (hb : Clean b) (hc : Clean c) (s : Sm d) : PyData.hasDictAll [a, b, c, d] = true → noLists [a, b, c, d] = true := by
  rw [(one_all a b c d).1, (one_all a b c d).2, ha.1, ha.2, hb.1, hb.2, hc.1, hc.2]
  intro h
  simp at h
  simp [s.nl h]
/-- a row of good terms -/
structure Good (H : Hp) (R l : Addr) (ns : List Int) (up : Bool) (wd : Int) (sh : Bool) : Prop where
  at_ : H R = some (.tup [.ref l, .bl up, .int wd, .bl sh])
  li : H l = some (.tup (ns.map V.int))
  ok : OkL ns
  w : -99 ≤ wd ∧ wd ≤ 99
theorem Good.same {H H' : Hp} {R l : Addr} {ns : List Int} {up : Bool} {wd : Int} {sh : Bool} (g : Good H R l ns up wd sh) (s : Same H H') : Good H' R l ns up wd sh := ⟨s _ _ g.at_, s _ _ g.li, g.ok, g.w⟩
theorem Good.kp {p : Addr} {H H' : Hp} {R l : Addr} {ns : List Int} {up : Bool} {wd : Int} {sh : Bool} (g : Good H R l ns up wd sh) (hp : Pen H p) (k : Kp p H H') : Good H' R l ns up wd sh :=
  ⟨k.keep _ _ g.at_ (pen_ne hp g.at_ (fun _ _ z => by cases z)), k.keep _ _ g.li (pen_ne hp g.li (fun _ _ z => by cases z)), g.ok, g.w⟩
/-- what stood at the entry but the row and its limits -/
def Zb (H : Hp) (l R : Addr) : Addr → Prop := fun b => H b ≠ none ∧ b ≠ l ∧ b ≠ R
def spBent : Sp := fun vs H Q _ => ∃ (p R l : Addr) (ns : List Int) (up : Bool) (wd : Int) (sh : Bool), vs = [.ref p, .ref R] ∧ Pen H p ∧ Good H R l ns up wd sh ∧
  ∀ R' v0 v1 v2 v3 d0 d1 d2 d3 H', Kp p H H' → Row (Zb H l R) H' R' v0 v1 v2 v3 d0 d1 d2 d3 → Q (.ref R') H'
section
variable {P : Program} {w : World} {K : PySem.W.Frag} {mg : Str → Option Value} {base : Heap} {f : Addr} {fd : FuncData}
abbrev nBent : List Str := ["_law_pen_here", "_law_row", "_law_bars", "_law_worse", "_law_way", "_law_odd_here"]
theorem scBent : FnScope nBent ["_law_pen_here", "_law_row"] (defScope sBent) := ⟨rfl, rfl, rfl, by decide +kernel, rfl, by decide +kernel, by decide +kernel⟩
theorem ok_bent {fA fO : Addr} {fdA fdO : FuncData} (F : Fn K "_law_bent" "_law_bent" sBent f fd) (FA : Fn K "_law_anything" "_law_anything" sAny fA fdA) (gA : mg "_law_anything" = some (.ref fA)) (FO : Fn K "_law_odd" "_law_odd" sOdd fO fdO) (gO : mg "_law_odd" = some (.ref fO)) (h : Hl K mg) : FnOk P w K mg base L2.CX0 4 f fd ["_law_pen_here", "_law_row"] spBent := by
  obtain ⟨aP, dP, GP, gP, kP, bP⟩ := h.pk (P := P) (w := w) (base := base)
  obtain ⟨aD, dD, GD, gD, kD, bD⟩ := h.dr (P := P) (w := w) (base := base)
  have T := h.fr
  have GA : FnOk P w K mg base L2.CX0 3 fA fdA ["_law_pen_here"] spThingD := ok_any FA h
  have GO : FnOk P w K mg base L2.CX0 3 fO fdO ["_law_pen_here", "_law_least", "_law_greatest"] spOddD := ok_odd FO h
  have bA : Binds K fdA ["_law_pen_here"] [] := FA.bindsN fun _ _ _ _ _ _ us hl => match us, hl with | [_], _ => rfl
  have bO : Binds K fdO ["_law_pen_here", "_law_least", "_law_greatest"] [] := FO.bindsN fun _ _ _ _ _ _ us hl => match us, hl with | [_, _, _], _ => rfl
  refine F.ok scBent (fun vs H Q E h => ?_) (fun cdv A outer s H vs Q E hr hh => ?_)
  · obtain ⟨p, R, l, ns, up, wd, sh, rfl, _⟩ := h
    rfl
  · obtain ⟨p, R, l, ns, up, wd, sh, rfl, hp, gd, q⟩ := hh
    refine' ⟨_, PSs.nox ?d, ?r⟩
    case d =>
      refine' pss_cons (ps_set (i := 2) scBent.nd rfl (.inl rfl) (pe_ix ix_tup (pv 1) pe_int (fun _ _ => rfl))) ?a1
      case a1 =>
        refine' pss_cons (ps_set (i := 3) scBent.nd rfl (.inl rfl) (pe_lst (pa_cons (pe_op op_catC (pv 2) (pe_tup (pa_cons pe_int pa_nil))) (pa_cons (pe_revT (pv 2)) (pa_cons (pe_tup (pa_cons pe_int (pa_cons pe_int (pa_cons pe_int (pa_cons pe_int (pa_cons pe_int pa_nil)))))) (pa_cons (pe_callTy call_list_of rfl T.list_ (by decide +kernel) (pa_cons (pv 2) pa_nil))
          (pa_cons (pe_op op_catC (pv 2) (pe_slice sl_tupC (pv 2) po_none (po_some pe_int))) (pa_cons (pe_tup (pa_cons pe_int pa_nil)) (pa_cons (pe_tup (pa_cons pe_int pa_nil)) (pa_cons (pe_tup (pa_cons pe_bl pa_nil)) (pa_cons (pe_tup (pa_cons pe_int (pa_cons pe_int pa_nil))) (pa_cons (pe_tup pa_nil) pa_nil)))))))))))) ?a2
        case a2 =>
          refine' pss_cons (ps_set (i := 3) scBent.nd rfl (.inl rfl) (pe_op op_cat (pv 3) (pe_lst (pa_cons (pe_call GA hr rfl gA FA.kp bA .nil pass0 (pa_cons (pv 0) pa_nil)) (pa_cons (pe_slice sl_tupC (pv 2) po_none (po_some pe_int)) pa_nil))))) ?a3
          case a3 =>
            refine' pss_cons (ps_set (i := 4) scBent.nd rfl (.inl rfl) (pe_call GD (hr.mono (by decide)) rfl gD kD bD .nil pass0 (pa_cons (pv 0) (pa_cons pe_int pa_nil)))) ?a4
            case a4 =>
              refine' pss_cons (ps_if (pt_cmpR op_eq (pv 4) pe_int (nomark _)) (pss_one (ps_ret (pe_op op_catC (pe_tup (pa_cons (pe_call GP (hr.mono (by decide)) rfl gP kP bP .nil pass0 (pa_cons (pv 0) (pa_cons (pv 3) pa_nil))) pa_nil)) (pe_slice sl_tupC (pv 1) (po_some pe_int) po_none)))) pss_nil) ?a5
              case a5 =>
                refine' pss_cons (ps_if (pt_cmpR op_eq (pv 4) pe_int (nomark _)) (pss_one (ps_ret (pe_op op_catC (pe_slice sl_tupC (pv 1) po_none (po_some pe_int)) (pe_tup (pa_cons (pe_call GO hr rfl gO FO.kp bO .nil pass0 (pa_cons (pv 0) (pa_cons (pe_un un_neg pe_int) (pa_cons pe_int pa_nil)))) (pa_cons (pe_ix ix_tup (pv 1) pe_int (fun _ _ => rfl)) pa_nil)))))) pss_nil) ?a6
                case a6 =>
                  refine' pss_cons (ps_set (i := 5) scBent.nd rfl (.inl rfl) (pe_call GP (hr.mono (by decide)) rfl gP kP bP .nil pass0 (pa_cons (pv 0) (pa_cons (pe_lst (pa_cons pe_int (pa_cons pe_int (pa_cons pe_non (pa_cons pe_str (pa_cons (pe_not (pe_ix ix_tup (pv 1) (pv 4) (fun _ _ => rfl))) (pa_cons (pe_call GA hr rfl gA FA.kp bA .nil pass0 (pa_cons (pv 0) pa_nil)) pa_nil))))))) pa_nil)))) ?a7
                  case a7 =>
                    exact pss_one (ps_ret (pe_op op_catC (pe_op op_catC (pe_slice sl_tupC (pv 1) po_none (po_some (pv 4))) (pe_tup (pa_cons (pv 5) pa_nil))) (pe_slice sl_tupC (pv 1) (po_some (pe_op op_add (pv 4) pe_int)) po_none)))
    case r =>
      have i0 : ∀ {a b c d : V}, atI [a, b, c, d] (0 : Int) = some a := fun {a b c d} => at_of (j := 0) rfl rfl
      have i1 : ∀ {a b c d : V}, atI [a, b, c, d] (1 : Int) = some b := fun {a b c d} => at_of (j := 1) rfl rfl
      have i3 : ∀ {a b c d : V}, atI [a, b, c, d] (3 : Int) = some d := fun {a b c d} => at_of (j := 3) rfl rfl
      have os : 1 ≤ sizeLine := by decide
      have ts : 2 ≤ sizeLine := by decide
      have l4 := gd.ok.len
      have rg : ∀ n ∈ ns, n.natAbs < 10 ^ 18 := fun n hn => by
        have := gd.ok.rng n hn
        omega
      have rgx : ∀ m : Int, m.natAbs < 10 ^ 18 → ∀ n ∈ ns ++ [m], n.natAbs < 10 ^ 18 := fun m hm n hn => by
        rcases List.mem_append.mp hn with z | z
        · exact rg n z
        · rw [List.mem_singleton.mp z]
          exact hm
      obtain ⟨Z, hZ⟩ : ∃ Z, Z = Zb H l R := ⟨_, rfl⟩
      rw [← hZ] at q
      have fr : ∀ t, H t = none → ¬ Z t := fun t e z => by
        rw [hZ] at z
        exact z.1 e
      have zl : ¬ Z l := fun z => by
        rw [hZ] at z
        exact z.2.1 rfl
      have zR : ¬ Z R := fun z => by
        rw [hZ] at z
        exact z.2.2 rfl
      have zp : Z p := by
        rw [hZ]
        exact ⟨pen_old hp, fun e => pen_ne hp gd.li (fun _ _ z => by cases z) e.symm, fun e => pen_ne hp gd.at_ (fun _ _ z => by cases z) e.symm⟩
      clear hZ
      have frS : ∀ {G : Hp} {t : Addr}, Same H G → G t = none → ¬ Z t := fun s e => fr _ (Same.free s e)
      have frK : ∀ {G : Hp} {t : Addr}, Kp p H G → G t = none → ¬ Z t := fun k e => fr _ (Kp.free k hp e)
      refine ⟨_, rfl, R, _, 0, _, rfl, rfl, SqT.of gd.at_, i0, ?_⟩
      refine ⟨_, rfl, os, fun q1 hq1 => ?_⟩
      have s1a := up2 (o := .tup [V.int 99]) hq1
      refine ⟨l, q1, _, _, rfl, rfl, s1a _ _ gd.li, upd_same, ?_, fun p1 H1 s1b hp1 n1 => ?_⟩
      · exact Nat.le_of_lt (small1000 (by rw [List.length_map]; show ns.length + 1 ≤ 1000; omega))
      have t1 := s1a.trans s1b
      have g1 := gd.same t1
      refine ⟨_, rfl, l, _, rfl, g1.li, fun p2 hp2 => ?_⟩
      have s2 := up2 (o := .tup (ns.map V.int).reverse) hp2
      refine ⟨(by show 5 ≤ sizeLine; decide), fun p3 hp3 => ?_⟩
      have s3 := up2 (o := .tup [V.int 1, V.int 2, V.int 3, V.int 4, V.int 5]) hp3
      have g3 := g1.same (s2.trans s3)
      refine ⟨_, rfl, l, _, rfl, .inr (SqT.of g3.li), fun p4 hp4 => ?_⟩
      have s4 := up2 (o := .lst (ns.map V.int)) hp4
      have g4 := g3.same s4
      refine ⟨_, rfl, _, rfl, _, rfl, l, _, rfl, g4.li, fun p5 H5 s5 hp5 n5 => ?_⟩
      have g5 := g4.same s5
      have cut1 : cutV (ns.map V.int) none (some 1) = (ns.take 1).map V.int := by
        rw [show (some (1 : Int)) = some ((1 : Nat) : Int) from rfl, cut_to, List.map_take]
      rw [cut1] at hp5
      refine ⟨l, p5, _, _, rfl, rfl, g5.li, hp5, ?_, fun p6 H6 s6 hp6 n6 => ?_⟩
      · refine Nat.le_of_lt (small1000 ?_)
        rw [List.length_map, List.length_map, List.length_take]
        omega
      rw [← List.map_append] at hp6
      refine ⟨os, fun p7 hp7 => ⟨os, fun p8 hp8 => ⟨os, fun p9 hp9 => ⟨ts, fun p10 hp10 => ⟨Nat.zero_le _, fun p11 hp11 => ⟨(by show 10 ≤ sizeLine; decide), fun L hL => ?_⟩⟩⟩⟩⟩⟩
      have s7 := up2 (o := .tup [V.int 0]) hp7
      have s8 := up2 (o := .tup [V.int 100]) hp8
      have s9 := up2 (o := .tup [V.bl true]) hp9
      have s10 := up2 (o := .tup [V.int 1, V.int 99]) hp10
      have s11 := up2 (o := .tup []) hp11
      have s12 := up2 (o := .lst [.ref p1, .ref p2, .ref p3, .ref p4, .ref p6, .ref p7, .ref p8, .ref p9, .ref p10, .ref p11]) hL
      have b3 := t1.trans (s2.trans s3)
      have b4 := b3.trans s4
      have b5 := b4.trans s5
      have b6 := b5.trans s6
      have b7 := b6.trans s7
      have b8 := b7.trans s8
      have b9 := b8.trans s9
      have b10 := b9.trans s10
      have z1 : ¬ Z p1 := by
        rcases n1 with e | e | e
        · rw [e]
          exact zl
        · rw [e]
          exact fr _ hq1
        · exact frS s1a e
      have z5 : ¬ Z p5 := by
        rcases n5 with e | e
        · rw [e]
          exact zl
        · exact frS b4 e
      have z6 : ¬ Z p6 := by
        rcases n6 with e | e | e
        · rw [e]
          exact zl
        · rw [e]
          exact z5
        · exact frS b5 e
      have z2 := frS t1 hp2
      have z3 := frS (t1.trans s2) hp3
      have z4 := frS b3 hp4
      have z7 := frS b6 hp7
      have z8 := frS b7 hp8
      have z9 := frS b8 hp9
      have z10 := frS b9 hp10
      have z11 := frS b10 hp11
      have f11 := s12
      have f10 := s11.trans f11
      have f9 := s10.trans f10
      have f8 := s9.trans f9
      have f7 := s8.trans f8
      have f6 := s7.trans f7
      have f5 := s6.trans f6
      have f4 := s5.trans f5
      have f3 := s4.trans f4
      have f2 := s3.trans f3
      have f1 := s2.trans f2
      have f0 := t1.trans f1
      obtain ⟨HL, eHL⟩ : ∃ G, G = upd (upd (upd (upd (upd (upd H6 p7 (.tup [V.int 0])) p8 (.tup [V.int 100])) p9 (.tup [V.bl true])) p10 (.tup [V.int 1, V.int 99])) p11 (.tup [])) L (.lst [.ref p1, .ref p2, .ref p3, .ref p4, .ref p6, .ref p7, .ref p8, .ref p9, .ref p10, .ref p11]) := ⟨_, rfl⟩
      have hLL : HL L = some (.lst [.ref p1, .ref p2, .ref p3, .ref p4, .ref p6, .ref p7, .ref p8, .ref p9, .ref p10, .ref p11]) := by
        rw [eHL]
        exact upd_same
      have e11 := f11 _ _ (upd_same (a := p11) (o := .tup []))
      have e10 := f10 _ _ (upd_same (a := p10) (o := .tup [V.int 1, V.int 99]))
      have e9 := f9 _ _ (upd_same (a := p9) (o := .tup [V.bl true]))
      have e8 := f8 _ _ (upd_same (a := p8) (o := .tup [V.int 100]))
      have e7 := f7 _ _ (upd_same (a := p7) (o := .tup [V.int 0]))
      have e6 := f6 _ _ hp6
      have e4 := f4 _ _ (upd_same (a := p4) (o := .lst (ns.map V.int)))
      have e3 := f3 _ _ (upd_same (a := p3) (o := .tup [V.int 1, V.int 2, V.int 3, V.int 4, V.int 5]))
      have e2 := f2 _ _ (upd_same (a := p2) (o := .tup (ns.map V.int).reverse))
      have e1 := f1 _ _ hp1
      have hpL := pen_same hp f0
      have gL := gd.same f0
      have f0' := f0
      rw [← eHL] at f0' e1 e2 e3 e4 e6 e7 e8 e9 e10 e11 hpL gL ⊢
      have ods : ∀ v ∈ ([.ref p1, .ref p2, .ref p3, .ref p4, .ref p6, .ref p7, .ref p8, .ref p9, .ref p10, .ref p11] : List V), Odd Z HL v := by
        intro v hv
        simp only [List.mem_cons, List.not_mem_nil, or_false] at hv
        rcases hv with rfl | rfl | rfl | rfl | rfl | rfl | rfl | rfl | rfl | rfl
        · have e : ns.map V.int ++ [V.int 99] = (ns ++ [99]).map V.int := by simp
          rw [e] at e1
          exact Odd.tup z1 e1 (rgx 99 (by decide)) (by simp; omega)
        · rw [← List.map_reverse] at e2
          exact Odd.tup z2 e2 (fun n hn => rg n (List.mem_reverse.mp hn)) (by simp; omega)
        · exact Odd.tup (ns := [1, 2, 3, 4, 5]) z3 e3 (by decide) (by decide)
        · exact ⟨_, .lst e4 z4 (DaAll.ints ns), Sm.lints rg (by omega)⟩
        · refine Odd.tup z6 e6 (fun n hn => ?_) (by simp; omega)
          rcases List.mem_append.mp hn with z | z
          · exact rg n z
          · exact rg n (List.mem_of_mem_take z)
        · exact Odd.tup (ns := [0]) z7 e7 (by decide) (by decide)
        · exact Odd.tup (ns := [100]) z8 e8 (by decide) (by decide)
        · exact ⟨_, .tup e9 z9 (.cons (.bl _) .nil), sm_tr⟩
        · exact Odd.tup (ns := [1, 99]) z10 e10 (by decide) (by decide)
        · exact Odd.tup (ns := []) z11 e11 (by decide) (by decide)
      have nLp : L ≠ p := pen_ne hpL hLL (fun _ _ z => by injection z with z; injection z with _ z; injection z with _ z; cases z)
      -- anything, the first limit
      refine ⟨_, rfl, _, rfl, p, rfl, hpL, fun va da HA kpA daA0 smA => ?_⟩
      have daA : Da Z HA va da := Da.zed (fun b o _ n z => n (fun e => by
        have f0z := Same.free f0' e
        exact fr _ f0z z)) _ _ daA0
      have gA2 := gL.kp hpL kpA
      refine ⟨_, rfl, _, rfl, l, _, rfl, gA2.li, fun p12 H12 s12 hp12 n12 => ?_⟩
      have z12 : ¬ Z p12 := by
        rcases n12 with e | e
        · rw [e]
          exact zl
        · exact frK (((Kp.refl hp).same f0').trans kpA) e
      rw [cut1] at hp12
      refine ⟨ts, fun L2 hL2 => ?_⟩
      have s13 := up2 (o := .lst [va, .ref p12]) hL2
      have hL13 := (s12.trans s13) _ _ (kpA.keep _ _ hLL nLp)
      refine ⟨L, L2, _, _, rfl, rfl, hL13, upd_same, (by show 10 + 2 ≤ sizeLine; decide), fun L3 hL3 => ?_⟩
      have s14 := up2 (o := .lst ([.ref p1, .ref p2, .ref p3, .ref p4, .ref p6, .ref p7, .ref p8, .ref p9, .ref p10, .ref p11] ++ [va, .ref p12])) hL3
      have sA := s12.trans (s13.trans s14)
      obtain ⟨HM, eHM⟩ : ∃ G, G = upd (upd H12 L2 (.lst [va, .ref p12])) L3 (.lst ([.ref p1, .ref p2, .ref p3, .ref p4, .ref p6, .ref p7, .ref p8, .ref p9, .ref p10, .ref p11] ++ [va, .ref p12])) := ⟨_, rfl⟩
      have hM : HM L3 = some (.lst ([.ref p1, .ref p2, .ref p3, .ref p4, .ref p6, .ref p7, .ref p8, .ref p9, .ref p10, .ref p11] ++ [va, .ref p12])) := by
        rw [eHM]
        exact upd_same
      have e12 := (s13.trans s14) _ _ hp12
      rw [← eHM] at sA e12 ⊢
      have hpM : Pen HM p := pen_same kpA.pen sA
      have kM : Kp p HL HM := kpA.same sA
      have gM := gL.kp hpL kM
      have kH : Kp p H HM := ((Kp.refl hp).same f0').trans kM
      have odM : ∀ v ∈ ([.ref p1, .ref p2, .ref p3, .ref p4, .ref p6, .ref p7, .ref p8, .ref p9, .ref p10, .ref p11] ++ [va, .ref p12] : List V), Odd Z HM v := by
        intro v hv
        rcases List.mem_append.mp hv with z | z
        · exact (ods v z).keep (Kp.keepsO kM zp)
        · simp only [List.mem_cons, List.not_mem_nil, or_false] at z
          rcases z with rfl | rfl
          · exact (show Odd Z HA _ from ⟨da, daA, smA⟩).same sA
          · exact Odd.tup z12 e12 (fun n hn => rg n (List.mem_of_mem_take hn)) (by simp; omega)
      have nL3 : L3 ≠ p := pen_ne hpM hM (fun _ _ z => by injection z with z; injection z with _ z; injection z with _ z; cases z)
      -- which part
      refine ⟨_, rfl, p, 4, rfl, hpM, ⟨by decide, by decide⟩, fun r HD r0 r1 kpD => ?_⟩
      have gD2 := gM.kp hpM kpD
      have kHD := kH.trans kpD
      have hLD := kpD.keep _ _ hM nL3
      have odD : ∀ v ∈ ([.ref p1, .ref p2, .ref p3, .ref p4, .ref p6, .ref p7, .ref p8, .ref p9, .ref p10, .ref p11] ++ [va, .ref p12] : List V), Odd Z HD v := fun v hv => (odM v hv).keep (Kp.keepsO kpD zp)
      refine ⟨_, rfl, rfl, _, rfl, ?_⟩
      refine ite2 (fun c => ?_) (fun c => ?_)
      · refine ⟨_, rfl, _, rfl, p, L3, _, rfl, kpD.pen, hLD, nL3, ⟨(by show 0 < 12; decide), (by show 12 ≤ 1000; decide)⟩, fun v HV hv kpV => ?_⟩
        have gV := gD2.kp kpD.pen kpV
        obtain ⟨d, da, smd⟩ := (odD v hv).keep (Kp.keepsO kpV zp)
        refine ⟨os, fun T1 hT1 => ?_⟩
        have u1 := up2 (o := .tup [v]) hT1
        refine ⟨_, rfl, _, rfl, R, _, rfl, (gV.same u1).at_, fun T2 H2 u2 hT2 m2 => ?_⟩
        rw [show (some (1 : Int)) = some ((1 : Nat) : Int) from rfl, cut_from] at hT2
        refine ⟨T1, T2, _, _, rfl, rfl, u2 _ _ upd_same, hT2, (by show 1 + 3 ≤ sizeLine; decide), fun T3 H3 u3 hT3 m3 => ?_⟩
        have u := u1.trans (u2.trans u3)
        have k3 := (kHD.trans kpV).same u
        have kV := kHD.trans kpV
        have zT : ¬ Z T3 := by
          rcases m3 with e | e | e
          · rw [e]
            exact frK kV hT1
          · rw [e]
            rcases m2 with e | e
            · rw [e]
              exact zR
            · exact frK (kV.same u1) e
          · exact frK (kV.same (u1.trans u2)) e
        have g3 := gV.same u
        have h3 : H3 T3 = some (.tup [v, .bl up, .int wd, .bl sh]) := hT3
        exact q T3 v (.bl up) (.int wd) (.bl sh) d _ _ _ H3 k3 ⟨h3, zT, Da.keep (Keeps.of u) _ _ da, .bl up, .int wd, .bl sh, smd, Sm.bl up, Sm.int (by have := gd.w; omega), Sm.bl sh, one0 smd (clean_bl _) (clean_int _) (clean_bl _)⟩
      · have r00 : ¬ r = 0 := fun z => c (decide_eq_true (congrArg V.int z))
        refine ⟨_, rfl, rfl, _, rfl, ?_⟩
        refine ite2 (fun c2 => ?_) (fun c2 => ?_)
        · refine ⟨_, rfl, _, rfl, R, _, rfl, gD2.at_, fun T1 H1' u1 hT1 m1 => ?_⟩
          rw [show (some (2 : Int)) = some ((2 : Nat) : Int) from rfl, cut_to] at hT1
          have hp1' := pen_same kpD.pen u1
          have g1' := gD2.same u1
          refine ⟨_, rfl, _, rfl, p, _, _, rfl, hp1', ⟨by decide, by decide⟩, fun v d HV kpV da0 smd => ?_⟩
          have da : Da Z HV v d := Da.zed (fun b o _ n z => n (fun e => frK (kHD.same u1) e z)) _ _ da0
          have gV := g1'.kp hp1' kpV
          have hT1V := kpV.keep _ _ hT1 (pen_ne hp1' hT1 (fun _ _ z => by cases z))
          refine ⟨_, rfl, R, _, 3, _, rfl, rfl, SqT.of gV.at_, i3, ts, fun T2 hT2 => ?_⟩
          have u2 := up2 (o := .tup [v, .bl sh]) hT2
          refine ⟨T1, T2, _, _, rfl, rfl, u2 _ _ hT1V, upd_same, (by show 2 + 2 ≤ sizeLine; decide), fun T3 H3 u3 hT3 m3 => ?_⟩
          have u := u2.trans u3
          have kV := (kHD.same u1).trans kpV
          have k3 := kV.same u
          have zT : ¬ Z T3 := by
            rcases m3 with e | e | e
            · rw [e]
              rcases m1 with e | e
              · rw [e]
                exact zR
              · exact frK kHD e
            · rw [e]
              exact frK kV hT2
            · exact frK (kV.same u2) e
          have h3 : H3 T3 = some (.tup [.ref l, .bl up, v, .bl sh]) := hT3
          have g3 := gV.same u
          have el := g3.li
          exact q T3 (.ref l) (.bl up) v (.bl sh) _ _ d _ H3 k3 ⟨h3, zT, .tup el zl (DaAll.ints ns), .bl up, Da.keep (Keeps.of u) _ _ da, .bl sh, Sm.ints rg (by omega), Sm.bl up, smd, Sm.bl sh, one2 (clean_tup ns) (clean_bl _) smd (clean_bl _)⟩
        · have r22 : ¬ r = 2 := fun z => c2 (decide_eq_true (congrArg V.int z))
          have r13 : r = 1 ∨ r = 3 := by omega
          rcases r13 with hr1 | hr3
          · subst hr1
            refine ⟨_, rfl, _, rfl, _, rfl, R, _, 1, _, rfl, rfl, SqT.of gD2.at_, i1, _, rfl, ?_⟩
            refine ⟨_, rfl, p, rfl, kpD.pen, fun vb db HB kpB dab0 smb => ?_⟩
            have dab : Da Z HB vb db := Da.zed (fun b o _ n z => n (fun e => frK kHD e z)) _ _ dab0
            have gB := gD2.kp kpD.pen kpB
            refine ⟨(by show 6 ≤ sizeLine; decide), fun L4 hL4 => ?_⟩
            have u4 := up2 (o := .lst [.int 0, .int 1, .non, .str "", .bl (!up), vb]) hL4
            obtain ⟨HC, eHC⟩ : ∃ G, G = upd HB L4 (.lst [.int 0, .int 1, .non, .str "", .bl (!up), vb]) := ⟨_, rfl⟩
            have hC : HC L4 = some (.lst [.int 0, .int 1, .non, .str "", .bl (!up), vb]) := by
              rw [eHC]
              exact upd_same
            rw [← eHC] at u4 ⊢
            have hpC := pen_same kpB.pen u4
            have gC := gB.same u4
            have nL4 : L4 ≠ p := pen_ne hpC hC (fun _ _ z => by injection z with z; injection z with _ z; injection z with _ z; cases z)
            refine ⟨p, L4, _, rfl, hpC, hC, nL4, ⟨(by show 0 < 6; decide), (by show 6 ≤ 1000; decide)⟩, fun v HV hv kpV => ?_⟩
            have gV := gC.kp hpC kpV
            have od : Odd Z HC v := by
              simp only [List.mem_cons, List.not_mem_nil, or_false] at hv
              rcases hv with rfl | rfl | rfl | rfl | rfl | rfl
              · exact ⟨_, .int _, Sm.int (by decide)⟩
              · exact ⟨_, .int _, Sm.int (by decide)⟩
              · exact ⟨_, .non, Sm.non⟩
              · exact ⟨_, .str _, Sm.str (by decide +kernel)⟩
              · exact ⟨_, .bl _, Sm.bl _⟩
              · exact (show Odd Z HB _ from ⟨db, dab, smb⟩).same u4
            obtain ⟨d, da, smd⟩ := od.keep (Kp.keepsO kpV zp)
            refine ⟨_, rfl, _, rfl, _, rfl, R, _, rfl, gV.at_, fun T1 H1' u1 hT1 m1 => ?_⟩
            rw [show (some (1 : Int)) = some ((1 : Nat) : Int) from rfl, cut_to] at hT1
            refine ⟨_, rfl, os, fun T2 hT2 => ?_⟩
            have u2 := up2 (o := .tup [v]) hT2
            refine ⟨T1, T2, _, _, rfl, rfl, u2 _ _ hT1, upd_same, (by show 1 + 1 ≤ sizeLine; decide), fun T3 H3 u3 hT3 m3 => ?_⟩
            have u13 := u1.trans (u2.trans u3)
            refine ⟨_, rfl, _, rfl, _, _, rfl, rfl, _, rfl, R, _, rfl, (gV.same u13).at_, fun T4 H4 u4' hT4 m4 => ?_⟩
            rw [show (some ((1 : Int) + 1)) = some ((2 : Nat) : Int) from rfl, cut_from] at hT4
            refine ⟨T3, T4, _, _, rfl, rfl, u4' _ _ hT3, hT4, (by show (1 + 1) + 2 ≤ sizeLine; decide), fun T5 H5 u5 hT5 m5 => ?_⟩
            have u := u13.trans (u4'.trans u5)
            have kV := ((kHD.trans kpB).same u4).trans kpV
            have k5 := kV.same u
            have zT : ¬ Z T5 := by
              rcases m5 with e | e | e
              · rw [e]
                rcases m3 with e | e | e
                · rw [e]
                  rcases m1 with e | e
                  · rw [e]
                    exact zR
                  · exact frK kV e
                · rw [e]
                  exact frK (kV.same u1) hT2
                · exact frK (kV.same (u1.trans u2)) e
              · rw [e]
                rcases m4 with e | e
                · rw [e]
                  exact zR
                · exact frK (kV.same u13) e
              · exact frK (kV.same (u13.trans u4')) e
            have h5 : H5 T5 = some (.tup [.ref l, v, .int wd, .bl sh]) := hT5
            have g5 := gV.same u
            have el := g5.li
            exact q T5 (.ref l) v (.int wd) (.bl sh) _ d _ _ H5 k5 ⟨h5, zT, .tup el zl (DaAll.ints ns), Da.keep (Keeps.of u) _ _ da, .int wd, .bl sh, Sm.ints rg (by omega), smd, Sm.int (by have := gd.w; omega), Sm.bl sh, one1 (clean_tup ns) smd (clean_int _) (clean_bl _)⟩
          · subst hr3
            refine ⟨_, rfl, _, rfl, _, rfl, R, _, 3, _, rfl, rfl, SqT.of gD2.at_, i3, _, rfl, ?_⟩
            refine ⟨_, rfl, p, rfl, kpD.pen, fun vb db HB kpB dab0 smb => ?_⟩
            have dab : Da Z HB vb db := Da.zed (fun b o _ n z => n (fun e => frK kHD e z)) _ _ dab0
            have gB := gD2.kp kpD.pen kpB
            refine ⟨(by show 6 ≤ sizeLine; decide), fun L4 hL4 => ?_⟩
            have u4 := up2 (o := .lst [.int 0, .int 1, .non, .str "", .bl (!sh), vb]) hL4
            obtain ⟨HC, eHC⟩ : ∃ G, G = upd HB L4 (.lst [.int 0, .int 1, .non, .str "", .bl (!sh), vb]) := ⟨_, rfl⟩
            have hC : HC L4 = some (.lst [.int 0, .int 1, .non, .str "", .bl (!sh), vb]) := by
              rw [eHC]
              exact upd_same
            rw [← eHC] at u4 ⊢
            have hpC := pen_same kpB.pen u4
            have gC := gB.same u4
            have nL4 : L4 ≠ p := pen_ne hpC hC (fun _ _ z => by injection z with z; injection z with _ z; injection z with _ z; cases z)
            refine ⟨p, L4, _, rfl, hpC, hC, nL4, ⟨(by show 0 < 6; decide), (by show 6 ≤ 1000; decide)⟩, fun v HV hv kpV => ?_⟩
            have gV := gC.kp hpC kpV
            have od : Odd Z HC v := by
              simp only [List.mem_cons, List.not_mem_nil, or_false] at hv
              rcases hv with rfl | rfl | rfl | rfl | rfl | rfl
              · exact ⟨_, .int _, Sm.int (by decide)⟩
              · exact ⟨_, .int _, Sm.int (by decide)⟩
              · exact ⟨_, .non, Sm.non⟩
              · exact ⟨_, .str _, Sm.str (by decide +kernel)⟩
              · exact ⟨_, .bl _, Sm.bl _⟩
              · exact (show Odd Z HB _ from ⟨db, dab, smb⟩).same u4
            obtain ⟨d, da, smd⟩ := od.keep (Kp.keepsO kpV zp)
            refine ⟨_, rfl, _, rfl, _, rfl, R, _, rfl, gV.at_, fun T1 H1' u1 hT1 m1 => ?_⟩
            rw [show (some (3 : Int)) = some ((3 : Nat) : Int) from rfl, cut_to] at hT1
            refine ⟨_, rfl, os, fun T2 hT2 => ?_⟩
            have u2 := up2 (o := .tup [v]) hT2
            refine ⟨T1, T2, _, _, rfl, rfl, u2 _ _ hT1, upd_same, (by show 3 + 1 ≤ sizeLine; decide), fun T3 H3 u3 hT3 m3 => ?_⟩
            have u13 := u1.trans (u2.trans u3)
            refine ⟨_, rfl, _, rfl, _, _, rfl, rfl, _, rfl, R, _, rfl, (gV.same u13).at_, fun T4 H4 u4' hT4 m4 => ?_⟩
            rw [show (some ((3 : Int) + 1)) = some ((4 : Nat) : Int) from rfl, cut_from] at hT4
            refine ⟨T3, T4, _, _, rfl, rfl, u4' _ _ hT3, hT4, (by show (3 + 1) + 0 ≤ sizeLine; decide), fun T5 H5 u5 hT5 m5 => ?_⟩
            have u := u13.trans (u4'.trans u5)
            have kV := ((kHD.trans kpB).same u4).trans kpV
            have k5 := kV.same u
            have zT : ¬ Z T5 := by
              rcases m5 with e | e | e
              · rw [e]
                rcases m3 with e | e | e
                · rw [e]
                  rcases m1 with e | e
                  · rw [e]
                    exact zR
                  · exact frK kV e
                · rw [e]
                  exact frK (kV.same u1) hT2
                · exact frK (kV.same (u1.trans u2)) e
              · rw [e]
                rcases m4 with e | e
                · rw [e]
                  exact zR
                · exact frK (kV.same u13) e
              · exact frK (kV.same (u13.trans u4')) e
            have h5 : H5 T5 = some (.tup [.ref l, .bl up, .int wd, v]) := hT5
            have g5 := gV.same u
            have el := g5.li
            exact q T5 (.ref l) (.bl up) (.int wd) v _ _ _ d H5 k5 ⟨h5, zT, .tup el zl (DaAll.ints ns), .bl up, .int wd, Da.keep (Keeps.of u) _ _ da, Sm.ints rg (by omega), Sm.bl up, Sm.int (by have := gd.w; omega), smd, one3 (clean_tup ns) (clean_bl _) (clean_int _) smd⟩
end
end K2
set_option Elab.async false
set_option linter.all false
set_option maxRecDepth 100000
set_option maxHeartbeats 4000000
namespace K2
open PySem PySem.Spec PyProof.Rows L2 Bb
/-! a row made into rules, and all that they say -/
/-- the class Rules with its methods; the errors' classes -/
structure Own (K : PySem.W.Frag) (mg : Str → Option Value) (C CN CC : Addr) : Prop where
  r : RulesT K mg C
  ini : ∃ a d dvs, FunD K "__init__" "Rules.__init__" (defArgs sInit) (defBody sInit) (defScope sInit) dvs [] a d ∧ dvs.length = 4 ∧ Mk K C a
  len : ∃ a d, Fn K "__len__" "Rules.__len__" sLen a d ∧ PySem.W.findIn K (.ref C) "__len__" = some (some (.ref a)) ∧ PySem.W.isFn K (.ref a) = true
  eq : ∃ a d, Fn K "__eq__" "Rules.__eq__" sEq a d ∧ PySem.W.findIn K (.ref C) "__eq__" = some (some (.ref a)) ∧ PySem.W.isFn K (.ref a) = true
  rep : ∃ a d, Fn K "__repr__" "Rules.__repr__" sRepr a d ∧ PySem.W.findIn K (.ref C) "__repr__" = some (some (.ref a)) ∧ PySem.W.isFn K (.ref a) = true
  ne : PySem.W.findIn K (.ref C) "__ne__" = some (some (.builtin "object.__ne__"))
  ob : PySem.W.subIn K (.ref C) (.type "object") = some true
  nn : PySem.W.subIn K (.ref C) (.type "NoneType") = some false
  nb : NotB K C
  en : ErrT K mg "NoRules" CN
  er : Er K mg CC CN "norules"
  cc : mg "ClubError" = some (.ref CC)
  np : ∃ CP, mg "NoPlace" = some (.ref CP)
/-- the law's defs that all_right, alike want -/
structure Hr (K : PySem.W.Frag) (mg : Str → Option Value) : Prop where
  hlp : Hlp K mg
  hset : mg "set" = none
  num : ∃ a d, Fn K "_law_number" "_law_number" sNum a d ∧ mg "_law_number" = some (.ref a)
  aret : ∃ a d, Fn K "_law_are_terms" "_law_are_terms" sAreT a d ∧ mg "_law_are_terms" = some (.ref a)
  made : ∃ a d, Fn K "_law_made" "_law_made" sMade a d ∧ mg "_law_made" = some (.ref a)
  text : ∃ a d, Fn K "_law_text" "_law_text" sText a d ∧ mg "_law_text" = some (.ref a)
  kind : ∃ a d, Fn K "_law_kind" "_law_kind" sKind a d ∧ mg "_law_kind" = some (.ref a)
  came : ∃ a d, Fn K "_law_came" "_law_came" sCame a d ∧ mg "_law_came" = some (.ref a)
theorem Row.zed {Z : Addr → Prop} {H : Hp} {R : Addr} {v0 v1 v2 v3 : V} {d0 d1 d2 d3 : PyData} (r : Row Z H R v0 v1 v2 v3 d0 d1 d2 d3) : Row (fun _ => False) H R v0 v1 v2 v3 d0 d1 d2 d3 :=
  ⟨r.at_, fun z => z, Da.zed (fun _ _ _ _ z => z) _ _ r.a0, Da.zed (fun _ _ _ _ z => z) _ _ r.a1, Da.zed (fun _ _ _ _ z => z) _ _ r.a2, Da.zed (fun _ _ _ _ z => z) _ _ r.a3, r.s0, r.s1, r.s2, r.s3, r.one⟩
theorem sm_norm {d : PyData} (s : Sm d) : Sm (norm d) := by
  cases d with
  | none => exact sm_t0
  | _ => exact s
theorem one_norm {a b c d : PyData} (h : PyData.hasDictAll [a, b, c, d] = true → noLists [a, b, c, d] = true) : PyData.hasDictAll [norm a, b, c, d] = true → noLists [norm a, b, c, d] = true := by
  cases a with
  | none => exact h
  | _ => exact h
/-- what a row of four shows -/
theorem row_shown {d0 d1 d2 d3 : PyData} (s0 : Sm d0) (s1 : Sm d1) (s2 : Sm d2) (s3 : Sm d3) (one : PyData.hasDictAll [d0, d1, d2, d3] = true → noLists [d0, d1, d2, d3] = true) :
    ((PyData.tuple [d0, d1, d2, d3]).hasDict = true → noList (.tuple [d0, d1, d2, d3]) = true) ∧ (PyData.tuple [d0, d1, d2, d3]).showable = true ∧ (PyData.tuple [d0, d1, d2, d3]).depth ≤ 60 ∧ (PyData.tuple [d0, d1, d2, d3]).shown.length ≤ sizeLine := by
  have l0 := s0.ln
  have l1 := s1.ln
  have l2 := s2.ln
  have l3 := s3.ln
  have p0 := s0.dp
  have p1 := s1.dp
  have p2 := s2.dp
  have p3 := s3.dp
  refine ⟨one, ?_, ?_, ?_⟩
  · show (d0.showable && (d1.showable && (d2.showable && (d3.showable && true)))) = true
    rw [s0.sh, s1.sh, s2.sh, s3.sh]
    rfl
  · show max d0.depth (max d1.depth (max d2.depth (max d3.depth 0))) + 1 ≤ 60
    omega
  · have h1 := tupleText_le (PyData.shownAll [d0, d1, d2, d3])
    have e : piled (PyData.shownAll [d0, d1, d2, d3]) = (d0.shown.length + 2) + ((d1.shown.length + 2) + ((d2.shown.length + 2) + ((d3.shown.length + 2) + 0))) := by
      show piled [d0.shown, d1.shown, d2.shown, d3.shown] = _
      rw [piled_cons, piled_cons, piled_cons, piled_cons]
      rfl
    have sz := sizeLine_eq
    show (tupleText (PyData.shownAll [d0, d1, d2, d3])).length ≤ sizeLine
    omega
theorem row_da {Z : Addr → Prop} {H : Hp} {R : Addr} {v0 v1 v2 v3 : V} {d0 d1 d2 d3 : PyData} (r : Row Z H R v0 v1 v2 v3 d0 d1 d2 d3) : Da Z H (.ref R) (.tuple [d0, d1, d2, d3]) :=
  .tup r.at_ r.nz (.cons r.a0 (.cons r.a1 (.cons r.a2 (.cons r.a3 .nil))))
abbrev qRight : Str := (Str.ofString "_law_all_right") ++ (Str.ofString ".<locals>.<lambda>")
def spRight (Pt : Addr) (qn : Str) : Sp := fun vs H Q _ => ∃ (Z : Addr → Prop) (R : Addr) (v0 v1 v2 v3 : V) (d0 d1 d2 d3 : PyData), vs = [.ref R] ∧ Row Z H R v0 v1 v2 v3 d0 d1 d2 d3 ∧ LamX.Tabs [(Pt, qn)] H ∧ ∀ H', LamX.ExtN H H' → LamX.Tabs [(Pt, qn)] H' → Q (.bl true) H'
abbrev nRight : List Str := ["_law_row", "_law_kept", "_law_told", "_law_due", "_law_one"]
theorem scRight : FnScope nRight ["_law_row"] (defScope sRight) := ⟨rfl, rfl, rfl, by decide +kernel, rfl, by decide +kernel, by decide +kernel⟩
end K2
set_option Elab.async false
set_option linter.all false
set_option maxRecDepth 100000
set_option maxHeartbeats 4000000
namespace K2
open PySem PySem.Spec PyProof.Rows L2 Bb
theorem same_text {s : Str} : (!decide (V.str s = V.str s)) = false := by simp
def qR : Str := (envOfC (Str.ofString "_law_all_right") (defScope sRight) 0 0 .none).qual ++ "<lambda>"
section
variable {P : Program} {w : World} {K : PySem.W.Frag} {mg : Str → Option Value} {base : Heap} {f : Addr} {fd : FuncData}
theorem ok_right {C CN CC c Pt : Addr} (F : Fn K "_law_all_right" "_law_all_right" sRight f fd) (hcode : fd.code = .ref c) (TB : LamX.TabB base mg c Pt) (h : Hr K mg) (o : Own K mg C CN CC) : FnG P w K mg base L2.CX0 9 f fd ["_law_row"] (spRight Pt qR) := by
  have T := h.hlp.fr
  have R := o.r
  obtain ⟨aNu, dNu, FNu, gNu⟩ := h.num
  obtain ⟨aAr, dAr, FAr, gAr⟩ := h.aret
  obtain ⟨aMa, dMa, FMa, gMa⟩ := h.made
  obtain ⟨aTe, dTe, FTe, gTe⟩ := h.text
  obtain ⟨aKi, dKi, FKi, gKi⟩ := h.kind
  obtain ⟨aCa, dCa, FCa, gCa⟩ := h.came
  obtain ⟨aIn, dIn, dvs, FIn, hdv, MK⟩ := o.ini
  obtain ⟨aLe, dLe, FLe, lLe, iLe⟩ := o.len
  obtain ⟨aRe, dRe, FRe, lRe, iRe⟩ := o.rep
  obtain ⟨CP, gNP⟩ := o.np
  have GAr : FnOk P w K mg base L2.CX0 2 aAr dAr ["_law_row"] spAreT := ok_aret FAr FNu gNu T h.hset
  have GMa : FnOk P w K mg base (L2.CX P w) 6 aMa dMa ["_law_row"] (spMade C CN) := ok_made FMa FIn hdv MK h.hlp R o.en
  have GTe : FnG P w K mg base L2.CX0 1 aTe dTe ["_law_row"] spText := ok_text FTe T
  have GLe : FnOk P w K mg base L2.CX0 1 aLe dLe ["self"] (spLen C) := ok_len FLe T R
  have GRe : FnG P w K mg base L2.CX0 1 aRe dRe ["self"] (spRepr C) := ok_repr FRe R
  have bAr : Binds K dAr ["_law_row"] [] := FAr.bindsN fun _ _ _ _ _ _ us hl => match us, hl with | [_], _ => rfl
  have bMa : Binds K dMa ["_law_row"] [] := FMa.bindsN fun _ _ _ _ _ _ us hl => match us, hl with | [_], _ => rfl
  have bTe : Binds K dTe ["_law_row"] [] := FTe.bindsN fun _ _ _ _ _ _ us hl => match us, hl with | [_], _ => rfl
  have bLe : Binds K dLe ["self"] [] := FLe.bindsN fun _ _ _ _ _ _ us hl => match us, hl with | [_], _ => rfl
  have bRe : Binds K dRe ["self"] [] := FRe.bindsN fun _ _ _ _ _ _ us hl => match us, hl with | [_], _ => rfl
  have bCa : Binds K dCa ["_law_call"] [] := FCa.bindsN fun _ _ _ _ _ _ us hl => match us, hl with | [_], _ => rfl
  obtain ⟨oc, od, dV, kV, doc, pm, an, cdC, ct, osl, rfl, lkC, hcC, _, _⟩ := FCa.ex
  refine fnG F scRight (fun vs H Q E h => ?_) (fun cdv A outer s H vs Q E gd hr hcd hh => ?_)
  · obtain ⟨Z, R, v0, v1, v2, v3, d0, d1, d2, d3, rfl, _⟩ := h
    rfl
  · obtain ⟨Z, Rr, v0, v1, v2, v3, d0, d1, d2, d3, rfl, row, tb, q⟩ := hh
    have ecd := hcd c hcode
    let X := (cxOf L2.CX0 P w K mg base nRight "_law_all_right" (defScope sRight) f cdv A outer s H E).nox
    have gdX : X.A.guards = some [] := gd
    have rep := call_reprA (X := X) gdX hr.units
    have repO := call_reprOwn (X := X) GRe gdX (hr.mono (by decide)) lRe iRe bRe pass0
    let qn : Str := X.env.qual ++ "<lambda>"
    let Ts : List (Addr × Str) := [(Pt, qR)]
    have eq0 : X.env.qual ++ (Str.ofString "<lambda>") = qR := rfl
    refine' ⟨_, PSs.nox ?d, ?r⟩
    case d =>
      refine' pss_cons (ps_par (i := 1) (j := 2) rfl scRight.nd rfl rfl (by decide) rfl rfl (pa_cons ?e1 (pa_cons ?lam pa_nil)) ?sw) ?a1
      case sw => rfl
      case e1 => exact pe_callB rep rfl T.rep_ boot_repr (pa_cons (pv 0) pa_nil)
      case lam =>
        refine LamX.pe_lamcall (TT := TCame [(CN, "norules")]) (x := "_law_came") (a := "_law_call") (T := Ts) (c := c) (P := Pt) (k := 6) (t := fun E' => tCall (spMade C CN) [] E' (tCons (tVar 0) tNil)) rfl gCa FCa.kp lkC hcC bCa scCame rfl (.inl rfl) ?lg TB ecd (List.mem_cons_self) ?lu hr (LamX.lamS_by (sc := defScope sRight) (by decide +kernel)) rfl (fun _ _ _ _ _ => rfl) ?lb
        case lg =>
          refine came_gives (kt := [(CN, "norules")]) (m := 6) hr FKi gKi T o.cc gNP (fun D z hm => ?_)
          have e : (D, z) = (CN, Str.ofString "norules") := by simpa using hm
          injection e with e1 e2
          rw [e1, e2]
          exact o.er
        case lu =>
          intro p hp _
          have e : p = (Pt, qR) := by simpa [Ts] using hp
          rw [e]
          rfl
        case lb =>
          intro A' outer' s' H' E' f' c' hr'
          exact pe_call GMa hr' rfl gMa FMa.kp bMa .nil (passes_call (takes_of rfl rfl rfl rfl) (fun _ _ _ _ h => h)) (pa_cons (pv 0) pa_nil)
      case a1 =>
        refine' pss_cons (ps_set (i := 3) scRight.nd rfl (.inl rfl) (pe_op op_catC (pe_tup (pa_cons (pe_ifExp (pt_cmpR op_isN (pe_ix ix_tup (pv 0) pe_int (fun _ _ => rfl)) pe_non (nomark _)) (pe_tup pa_nil) (pe_ix ix_tup (pv 0) pe_int (fun _ _ => rfl))) pa_nil)) (pe_slice sl_tupC (pv 0) (po_some pe_int) po_none))) ?a2
        case a2 =>
          refine' pss_cons (ps_if (pt_not (pt_val (pe_call GAr (hr.mono (by decide)) rfl gAr FAr.kp bAr .nil pass0 (pa_cons (pv 3) pa_nil)))) (pss_one (ps_ret (pe_and (pe_cmpR (op_eqD hr.units) (pv 2) (pe_tup (pa_cons pe_str (pa_cons pe_str pa_nil))) (nomark _)) (pe_one (pe_cmpR op_eq (pe_callB rep rfl T.rep_ boot_repr (pa_cons (pv 0) pa_nil)) (pv 1) (nomark _)))))) pss_nil) ?a3
          case a3 =>
            refine' pss_cons (ps_if (PW.pt (pw_or (pt_cmpR op_ne (pe_ix ix_tup (pv 2) pe_int (fun _ _ => rfl)) pe_str (nomark _)) (pw_or1 (pt_not (pt_val (pe_callB call_isi rfl T.isi boot_isinstance (pa_cons (pe_ix ix_tup (pv 2) pe_int (fun _ _ => rfl)) (pa_cons (pe_glob rfl R.gC (v := .ref C) rfl) pa_nil)))))))) (pss_one (ps_ret pe_bl)) pss_nil) ?a4
            case a4 =>
              refine' pss_cons (ps_set (i := 4) scRight.nd rfl (.inl rfl) (pe_ix ix_tup (pv 2) pe_int (fun _ _ => rfl))) ?a5
              case a5 =>
                refine' pss_cons (ps_if (PW.pt (pw_or (pt_cmpR op_ne (pe_callB rep rfl T.rep_ boot_repr (pa_cons (pe_tup (pa_cons (pe_fld (pv 4) rfl) (pa_cons (pe_fld (pv 4) rfl) (pa_cons (pe_fld (pv 4) rfl) (pa_cons (pe_fld (pv 4) rfl) pa_nil))))) pa_nil)) (pe_callB rep rfl T.rep_ boot_repr (pa_cons (pv 3) pa_nil)) (nomark _)) (pw_or1 (pt_cmpR op_ne (pe_callB rep rfl T.rep_ boot_repr (pa_cons (pv 0) pa_nil)) (pv 1) (nomark _))))) (pss_one (ps_ret pe_bl)) pss_nil) ?a6
                case a6 =>
                  exact pss_one (ps_ret (pe_and (pe_cmpR op_eq (pe_callB (call_lenOwn GLe (hr.mono (by decide)) lLe iLe bLe pass0) rfl T.len_ boot_len (pa_cons (pv 4) pa_nil)) (pe_op op_add (pe_callB call_len_seq rfl T.len_ boot_len (pa_cons (pe_ix ix_tup (pv 3) pe_int (fun _ _ => rfl)) pa_nil)) pe_int) (nomark _)) (pe_one (pe_cmpR op_eq (pe_callB repO rfl T.rep_ boot_repr (pa_cons (pv 4) pa_nil)) (pe_callG GTe gdX (hr.mono (by decide)) rfl gTe FTe.kp bTe pass0 (pa_cons (pv 3) pa_nil)) (nomark _)))))
    case r =>
      have i0 : ∀ {a b c d : V}, atI [a, b, c, d] (0 : Int) = some a := fun {a b c d} => at_of (j := 0) rfl rfl
      have j0 : ∀ {a b : V}, atI [a, b] (0 : Int) = some a := fun {a b} => at_of (j := 0) rfl rfl
      have j1 : ∀ {a b : V}, atI [a, b] (1 : Int) = some b := fun {a b} => at_of (j := 1) rfl rfl
      have os : 1 ≤ sizeLine := by decide
      have ts : 2 ≤ sizeLine := by decide
      obtain ⟨w1, w2, w3, w4⟩ := row_shown row.s0 row.s1 row.s2 row.s3 row.one
      obtain ⟨y1, y2, y3, y4⟩ := row_shown (sm_norm row.s0) row.s1 row.s2 row.s3 (one_norm row.one)
      refine ⟨_, rfl, Z, _, _, rfl, row_da row, w1, w2, w3, w4, ?_⟩
      refine ⟨tb, fun H1 en tb1 => ?_⟩
      have row1 := row.keep (Keeps.ext en)
      refine ⟨_, rfl, Z, Rr, v0, v1, v2, v3, d0, d1, d2, d3, rfl, row1, fun x l ns up wd sh H2 e0 ok e1 e2 hw e3 sm2 hx at_ => ?_, fun nt H2 sm2 => ?_⟩
      · -- told
        refine ⟨ts, fun t ht => ?_⟩
        have s3 := sm2.trans (up2 (o := .tup [.str "told", .ref x]) ht)
        have ht3 : (upd H2 t (.tup [.str "told", .ref x])) t = some (.tup [.str "told", .ref x]) := upd_same
        have at3 := at_.same (up2 (o := .tup [.str "told", .ref x]) ht)
        generalize hH3 : upd H2 t (.tup [.str "told", .ref x]) = H3 at *
        have row3 := row1.keep (Keeps.of s3)
        refine ⟨_, _, rfl, _, rfl, Rr, _, 0, _, rfl, rfl, SqT.of row3.at_, i0, rfl, _, rfl, ?_⟩
        refine ite2 (fun c => ?_) (fun c => ?_)
        · have ev : v0 = .non := of_decide_eq_true c
          refine ⟨Nat.zero_le _, fun t0 ht0 => ⟨os, fun T1 hT1 => ?_⟩⟩
          have u0 := up2 (o := .tup []) ht0
          have u1 := up2 (o := .tup [.ref t0]) hT1
          have et0 : (upd (upd H3 t0 (.tup [])) T1 (.tup [.ref t0])) t0 = some (.tup []) := u1 _ _ upd_same
          refine ⟨_, rfl, _, rfl, Rr, _, rfl, (u0.trans u1) _ _ row3.at_, fun T2 H4 u2 hT2 _ => ?_⟩
          rw [show (some (1 : Int)) = some ((1 : Nat) : Int) from rfl, cut_from] at hT2
          refine ⟨T1, T2, _, _, rfl, rfl, u2 _ _ upd_same, hT2, (by show 1 + 3 ≤ sizeLine; decide), fun D HD u3 hD _ => ?_⟩
          have sD := (u0.trans u1).trans (u2.trans u3)
          have hD' : HD D = some (.tup [.ref t0, v1, v2, v3]) := hD
          have r4 := (row3.keep (Keeps.of sD)).zed
          have en0 : norm d0 = .tuple [] := by
            have a0 := row3.a0
            rw [ev] at a0
            cases a0
            rfl
          have rD : Row (fun _ => False) HD D (.ref t0) v1 v2 v3 (norm d0) d1 d2 d3 := ⟨hD', fun z => z, by rw [en0]; exact .tup ((u2.trans u3) _ _ et0) (fun z => z) .nil, r4.a1, r4.a2, r4.a3, sm_norm row.s0, row.s1, row.s2, row.s3, one_norm row.one⟩
          clear u0 u1 u2 u3 et0 hT1 hT2 ht0 en0 hD
          have tm : isTerms (norm d0) d1 d2 d3 := ⟨⟨ns, e0, ok⟩, ⟨up, e1⟩, ⟨wd, e2, hw⟩, ⟨sh, e3⟩⟩
          refine ⟨_, rfl, _, D, _, v1, v2, v3, _, d1, d2, d3, rfl, rD, fun b HE sE hb => ?_⟩
          have hbt := hb.mpr tm
          subst hbt
          refine ⟨_, rfl, iteF ?_⟩
          have rE := rD.keep (Keeps.of sE)
          have sDE := sD.trans sE
          have htE := sDE _ _ ht3
          have atE := at3.same sDE
          have rowE := row3.keep (Keeps.of sDE)
          obtain ⟨dx, hxE⟩ := atE.ob
          refine ⟨_, rfl, t, _, 0, _, rfl, rfl, SqT.of htE, j0, rfl, ?_⟩
          rw [same_text]
          refine ⟨false, rfl, iteF ?_⟩
          refine ⟨_, rfl, t, _, 1, _, rfl, rfl, SqT.of htE, j1, _, _, _, _, _, rfl, .own C, .base (.ins hxE R.cl R.ha R.hn R.ht R.hm), R.kit, _, rfl, iteF ?_⟩
          refine ⟨_, rfl, t, _, 1, _, rfl, rfl, SqT.of htE, j1, ?_⟩
          refine ⟨_, rfl, x, C, dx, _, _, rfl, hxE, R.cl, R.nL, f_limits _ _ _ _, _, rfl, x, C, dx, _, _, rfl, hxE, R.cl, R.nU, f_up _ _ _ _, _, rfl, x, C, dx, _, _, rfl, hxE, R.cl, R.nW, f_wind _ _ _ _, _, rfl, x, C, dx, _, _, rfl, hxE, R.cl, R.nS, f_shares _ _ _ _, (by show 4 ≤ sizeLine; decide), fun T9 hT9 => ?_⟩
          have u9 := up2 (o := .tup [.ref l, .bl up, .int wd, .bl sh]) hT9
          have h9 : (upd HE T9 (.tup [.ref l, .bl up, .int wd, .bl sh])) T9 = some (.tup [.ref l, .bl up, .int wd, .bl sh]) := upd_same
          have at9 := atE.same u9
          have rE9 := rE.keep (Keeps.of u9)
          have row9 := rowE.keep (Keeps.of u9)
          have hx9 := u9 _ _ hxE
          have r9 : Row (fun _ => False) _ T9 (.ref l) (.bl up) (.int wd) (.bl sh) (norm d0) d1 d2 d3 :=
            ⟨h9, fun z => z, by rw [e0]; exact .tup at9.li (fun z => z) (DaAll.ints ns), by rw [e1]; exact .bl up, by rw [e2]; exact .int wd, by rw [e3]; exact .bl sh, sm_norm row.s0, row.s1, row.s2, row.s3, one_norm row.one⟩
          refine ⟨_, _, _, rfl, row_da r9, y1, y2, y3, y4, ?_⟩
          refine ⟨_, rfl, _, _, _, rfl, row_da rE9, y1, y2, y3, y4, rfl, ?_⟩
          rw [same_text]
          refine ⟨false, rfl, iteF ?_⟩
          refine ⟨_, rfl, Z, _, _, rfl, row_da row9, w1, w2, w3, w4, _, rfl, rfl, ?_⟩
          rw [same_text]
          refine ⟨false, rfl, iteF ?_⟩
          have l4 := ok.len
          refine ⟨_, rfl, x, dx, _, rfl, hx9, x, l, ns, up, wd, sh, rfl, at9, fun HF sF => ⟨_, rfl, ⟨by omega, by omega⟩, ?_⟩⟩
          have rF := rE9.keep (Keeps.of sF)
          have a0F := rF.a0
          have a1F := rF.a1
          have a2F := rF.a2
          have a3F := rF.a3
          rw [e0] at a0F
          rw [e1] at a1F
          rw [e2] at a2F
          rw [e3] at a3F
          obtain ⟨l', eu, hl'⟩ := da_tup a0F
          have hDF := rF.at_
          refine ⟨_, rfl, D, _, 0, _, rfl, rfl, SqT.of hDF, i0, l', _, congrArg (fun z => [z]) eu, .inr (SqT.of hl'), _, _, rfl, rfl, rfl, _, rfl, ?_⟩
          have el : decide (V.int (((ns.length + 1 : Nat) : Nat) : Int) = V.int ((((ns.map V.int).length : Nat) : Int) + 1)) = true := by
            rw [List.length_map]
            simp
          rw [el]
          refine iteT ?_
          have atF := at9.same sF
          obtain ⟨dxF, hxF⟩ := atF.ob
          refine ⟨_, rfl, x, dxF, _, rfl, hxF, x, l, ns, up, wd, sh, rfl, atF, hw, _, rfl, ?_⟩
          have hDF2 : HF D = some (.tup [.ref l', .bl up, .int wd, .bl sh]) := by
            rw [hDF, eu]
            cases a1F
            cases a2F
            cases a3F
            rfl
          refine ⟨_, rfl, D, l', ns, up, wd, sh, rfl, hDF2, hl', ok, hw, fun HG sG => ⟨rfl, ?_⟩⟩
          have et : decide (V.str (txt ns up wd sh) = V.str (txt ns up wd sh)) = true := decide_eq_true rfl
          rw [et]
          have sAll := (s3.trans sDE).trans (u9.trans (sF.trans sG))
          exact q HG (en.trans (LamX.ExtN.of sAll)) (tb1.ext sAll)
        · have nv : v0 ≠ .non := fun z => c (decide_eq_true z)
          refine ⟨_, rfl, Rr, _, 0, _, rfl, rfl, SqT.of row3.at_, i0, os, fun T1 hT1 => ?_⟩
          have u1 := up2 (o := .tup [v0]) hT1
          refine ⟨_, rfl, _, rfl, Rr, _, rfl, u1 _ _ row3.at_, fun T2 H4 u2 hT2 _ => ?_⟩
          rw [show (some (1 : Int)) = some ((1 : Nat) : Int) from rfl, cut_from] at hT2
          refine ⟨T1, T2, _, _, rfl, rfl, u2 _ _ upd_same, hT2, (by show 1 + 3 ≤ sizeLine; decide), fun D HD u3 hD _ => ?_⟩
          have sD := u1.trans (u2.trans u3)
          have hD' : HD D = some (.tup [v0, v1, v2, v3]) := hD
          have r4 := (row3.keep (Keeps.of sD)).zed
          have rD : Row (fun _ => False) HD D v0 v1 v2 v3 (norm d0) d1 d2 d3 := ⟨hD', fun z => z, da_norm r4.a0 nv, r4.a1, r4.a2, r4.a3, sm_norm row.s0, row.s1, row.s2, row.s3, one_norm row.one⟩
          clear u1 u2 u3 hT1 hT2 hD
          have tm : isTerms (norm d0) d1 d2 d3 := ⟨⟨ns, e0, ok⟩, ⟨up, e1⟩, ⟨wd, e2, hw⟩, ⟨sh, e3⟩⟩
          refine ⟨_, rfl, _, D, _, v1, v2, v3, _, d1, d2, d3, rfl, rD, fun b HE sE hb => ?_⟩
          have hbt := hb.mpr tm
          subst hbt
          refine ⟨_, rfl, iteF ?_⟩
          have rE := rD.keep (Keeps.of sE)
          have sDE := sD.trans sE
          have htE := sDE _ _ ht3
          have atE := at3.same sDE
          have rowE := row3.keep (Keeps.of sDE)
          obtain ⟨dx, hxE⟩ := atE.ob
          refine ⟨_, rfl, t, _, 0, _, rfl, rfl, SqT.of htE, j0, rfl, ?_⟩
          rw [same_text]
          refine ⟨false, rfl, iteF ?_⟩
          refine ⟨_, rfl, t, _, 1, _, rfl, rfl, SqT.of htE, j1, _, _, _, _, _, rfl, .own C, .base (.ins hxE R.cl R.ha R.hn R.ht R.hm), R.kit, _, rfl, iteF ?_⟩
          refine ⟨_, rfl, t, _, 1, _, rfl, rfl, SqT.of htE, j1, ?_⟩
          refine ⟨_, rfl, x, C, dx, _, _, rfl, hxE, R.cl, R.nL, f_limits _ _ _ _, _, rfl, x, C, dx, _, _, rfl, hxE, R.cl, R.nU, f_up _ _ _ _, _, rfl, x, C, dx, _, _, rfl, hxE, R.cl, R.nW, f_wind _ _ _ _, _, rfl, x, C, dx, _, _, rfl, hxE, R.cl, R.nS, f_shares _ _ _ _, (by show 4 ≤ sizeLine; decide), fun T9 hT9 => ?_⟩
          have u9 := up2 (o := .tup [.ref l, .bl up, .int wd, .bl sh]) hT9
          have h9 : (upd HE T9 (.tup [.ref l, .bl up, .int wd, .bl sh])) T9 = some (.tup [.ref l, .bl up, .int wd, .bl sh]) := upd_same
          have at9 := atE.same u9
          have rE9 := rE.keep (Keeps.of u9)
          have row9 := rowE.keep (Keeps.of u9)
          have hx9 := u9 _ _ hxE
          have r9 : Row (fun _ => False) _ T9 (.ref l) (.bl up) (.int wd) (.bl sh) (norm d0) d1 d2 d3 :=
            ⟨h9, fun z => z, by rw [e0]; exact .tup at9.li (fun z => z) (DaAll.ints ns), by rw [e1]; exact .bl up, by rw [e2]; exact .int wd, by rw [e3]; exact .bl sh, sm_norm row.s0, row.s1, row.s2, row.s3, one_norm row.one⟩
          refine ⟨_, _, _, rfl, row_da r9, y1, y2, y3, y4, ?_⟩
          refine ⟨_, rfl, _, _, _, rfl, row_da rE9, y1, y2, y3, y4, rfl, ?_⟩
          rw [same_text]
          refine ⟨false, rfl, iteF ?_⟩
          refine ⟨_, rfl, Z, _, _, rfl, row_da row9, w1, w2, w3, w4, _, rfl, rfl, ?_⟩
          rw [same_text]
          refine ⟨false, rfl, iteF ?_⟩
          have l4 := ok.len
          refine ⟨_, rfl, x, dx, _, rfl, hx9, x, l, ns, up, wd, sh, rfl, at9, fun HF sF => ⟨_, rfl, ⟨by omega, by omega⟩, ?_⟩⟩
          have rF := rE9.keep (Keeps.of sF)
          have a0F := rF.a0
          have a1F := rF.a1
          have a2F := rF.a2
          have a3F := rF.a3
          rw [e0] at a0F
          rw [e1] at a1F
          rw [e2] at a2F
          rw [e3] at a3F
          obtain ⟨l', eu, hl'⟩ := da_tup a0F
          have hDF := rF.at_
          refine ⟨_, rfl, D, _, 0, _, rfl, rfl, SqT.of hDF, i0, l', _, congrArg (fun z => [z]) eu, .inr (SqT.of hl'), _, _, rfl, rfl, rfl, _, rfl, ?_⟩
          have el : decide (V.int (((ns.length + 1 : Nat) : Nat) : Int) = V.int ((((ns.map V.int).length : Nat) : Int) + 1)) = true := by
            rw [List.length_map]
            simp
          rw [el]
          refine iteT ?_
          have atF := at9.same sF
          obtain ⟨dxF, hxF⟩ := atF.ob
          refine ⟨_, rfl, x, dxF, _, rfl, hxF, x, l, ns, up, wd, sh, rfl, atF, hw, _, rfl, ?_⟩
          have hDF2 : HF D = some (.tup [.ref l', .bl up, .int wd, .bl sh]) := by
            rw [hDF, eu]
            cases a1F
            cases a2F
            cases a3F
            rfl
          refine ⟨_, rfl, D, l', ns, up, wd, sh, rfl, hDF2, hl', ok, hw, fun HG sG => ⟨rfl, ?_⟩⟩
          have et : decide (V.str (txt ns up wd sh) = V.str (txt ns up wd sh)) = true := decide_eq_true rfl
          rw [et]
          have sAll := (s3.trans sDE).trans (u9.trans (sF.trans sG))
          exact q HG (en.trans (LamX.ExtN.of sAll)) (tb1.ext sAll)
      · refine ⟨rfl, CN, "norules", List.mem_cons_self, rfl, fun H3' sm3 t ht => ?_⟩
        have s3 := sm2.trans (sm3.trans (up2 (o := .tup [.str "no", .str "norules"]) ht))
        have ht3 : (upd H3' t (.tup [.str "no", .str "norules"])) t = some (.tup [.str "no", .str "norules"]) := upd_same
        generalize hH3 : upd H3' t (.tup [.str "no", .str "norules"]) = H3 at *
        have row3 := row1.keep (Keeps.of s3)
        refine ⟨_, _, rfl, _, rfl, Rr, _, 0, _, rfl, rfl, SqT.of row3.at_, i0, rfl, _, rfl, ?_⟩
        refine ite2 (fun c => ?_) (fun c => ?_)
        · have ev : v0 = .non := of_decide_eq_true c
          refine ⟨Nat.zero_le _, fun t0 ht0 => ⟨os, fun T1 hT1 => ?_⟩⟩
          have u0 := up2 (o := .tup []) ht0
          have u1 := up2 (o := .tup [.ref t0]) hT1
          have et0 : (upd (upd H3 t0 (.tup [])) T1 (.tup [.ref t0])) t0 = some (.tup []) := u1 _ _ upd_same
          refine ⟨_, rfl, _, rfl, Rr, _, rfl, (u0.trans u1) _ _ row3.at_, fun T2 H4 u2 hT2 _ => ?_⟩
          rw [show (some (1 : Int)) = some ((1 : Nat) : Int) from rfl, cut_from] at hT2
          refine ⟨T1, T2, _, _, rfl, rfl, u2 _ _ upd_same, hT2, (by show 1 + 3 ≤ sizeLine; decide), fun D HD u3 hD _ => ?_⟩
          have sD := (u0.trans u1).trans (u2.trans u3)
          have hD' : HD D = some (.tup [.ref t0, v1, v2, v3]) := hD
          have r4 := (row3.keep (Keeps.of sD)).zed
          have en0 : norm d0 = .tuple [] := by
            have a0 := row3.a0
            rw [ev] at a0
            cases a0
            rfl
          have rD : Row (fun _ => False) HD D (.ref t0) v1 v2 v3 (norm d0) d1 d2 d3 := ⟨hD', fun z => z, by rw [en0]; exact .tup ((u2.trans u3) _ _ et0) (fun z => z) .nil, r4.a1, r4.a2, r4.a3, sm_norm row.s0, row.s1, row.s2, row.s3, one_norm row.one⟩
          clear u0 u1 u2 u3 et0 hT1 hT2 ht0 en0 hD
          refine ⟨_, rfl, _, D, _, v1, v2, v3, _, d1, d2, d3, rfl, rD, fun b HE sE hb => ?_⟩
          have hbf : b = false := by
            cases b with
            | false => rfl
            | true => exact absurd (hb.mp rfl) nt
          subst hbf
          refine ⟨_, rfl, iteT ?_⟩
          have sDE := sD.trans sE
          have htE := sDE _ _ ht3
          have rowE := row3.keep (Keeps.of sDE)
          refine ⟨_, rfl, ts, fun T9 hT9 => ?_⟩
          have u9 := up2 (o := .tup [.str "no", .str "norules"]) hT9
          refine ⟨.tuple [.str "no", .str "norules"], .tuple [.str "no", .str "norules"], .tup (SqT.of (u9 _ _ htE)) (.cons (.str _) (.cons (.str _) .nil)), .tup (SqT.of upd_same) (.cons (.str _) (.cons (.str _) .nil)), by decide +kernel, by decide +kernel, _, rfl, ?_⟩
          have ee : PyData.eqv (.tuple [.str "no", .str "norules"]) (.tuple [.str "no", .str "norules"]) = true := by decide +kernel
          rw [ee]
          refine iteT ?_
          have row9 := rowE.keep (Keeps.of u9)
          refine ⟨_, rfl, Z, _, _, rfl, row_da row9, w1, w2, w3, w4, _, rfl, rfl, ?_⟩
          have et : ∀ z : Str, decide (V.str z = V.str z) = true := fun z => decide_eq_true rfl
          rw [et]
          have sAll := (s3.trans sDE).trans u9
          exact q _ (en.trans (LamX.ExtN.of sAll)) (tb1.ext sAll)
        · have nv : v0 ≠ .non := fun z => c (decide_eq_true z)
          refine ⟨_, rfl, Rr, _, 0, _, rfl, rfl, SqT.of row3.at_, i0, os, fun T1 hT1 => ?_⟩
          have u1 := up2 (o := .tup [v0]) hT1
          refine ⟨_, rfl, _, rfl, Rr, _, rfl, u1 _ _ row3.at_, fun T2 H4 u2 hT2 _ => ?_⟩
          rw [show (some (1 : Int)) = some ((1 : Nat) : Int) from rfl, cut_from] at hT2
          refine ⟨T1, T2, _, _, rfl, rfl, u2 _ _ upd_same, hT2, (by show 1 + 3 ≤ sizeLine; decide), fun D HD u3 hD _ => ?_⟩
          have sD := u1.trans (u2.trans u3)
          have hD' : HD D = some (.tup [v0, v1, v2, v3]) := hD
          have r4 := (row3.keep (Keeps.of sD)).zed
          have rD : Row (fun _ => False) HD D v0 v1 v2 v3 (norm d0) d1 d2 d3 := ⟨hD', fun z => z, da_norm r4.a0 nv, r4.a1, r4.a2, r4.a3, sm_norm row.s0, row.s1, row.s2, row.s3, one_norm row.one⟩
          clear u1 u2 u3 hT1 hT2 hD
          refine ⟨_, rfl, _, D, _, v1, v2, v3, _, d1, d2, d3, rfl, rD, fun b HE sE hb => ?_⟩
          have hbf : b = false := by
            cases b with
            | false => rfl
            | true => exact absurd (hb.mp rfl) nt
          subst hbf
          refine ⟨_, rfl, iteT ?_⟩
          have sDE := sD.trans sE
          have htE := sDE _ _ ht3
          have rowE := row3.keep (Keeps.of sDE)
          refine ⟨_, rfl, ts, fun T9 hT9 => ?_⟩
          have u9 := up2 (o := .tup [.str "no", .str "norules"]) hT9
          refine ⟨.tuple [.str "no", .str "norules"], .tuple [.str "no", .str "norules"], .tup (SqT.of (u9 _ _ htE)) (.cons (.str _) (.cons (.str _) .nil)), .tup (SqT.of upd_same) (.cons (.str _) (.cons (.str _) .nil)), by decide +kernel, by decide +kernel, _, rfl, ?_⟩
          have ee : PyData.eqv (.tuple [.str "no", .str "norules"]) (.tuple [.str "no", .str "norules"]) = true := by decide +kernel
          rw [ee]
          refine iteT ?_
          have row9 := rowE.keep (Keeps.of u9)
          refine ⟨_, rfl, Z, _, _, rfl, row_da row9, w1, w2, w3, w4, _, rfl, rfl, ?_⟩
          have et : ∀ z : Str, decide (V.str z = V.str z) = true := fun z => decide_eq_true rfl
          rw [et]
          have sAll := (s3.trans sDE).trans u9
          exact q _ (en.trans (LamX.ExtN.of sAll)) (tb1.ext sAll)
end
end K2
set_option Elab.async false
set_option linter.all false
set_option maxRecDepth 100000
set_option maxHeartbeats 4000000
namespace K2
open PySem PySem.Spec PyProof.Rows L2 Bb
/-! rules compared -/
abbrev four (ns : List Int) (up : Bool) (wd : Int) (sh : Bool) : PyData := .tuple [.tuple (ns.map PyData.int), .bool up, .int wd, .bool sh]
def same4 (ns ms : List Int) (up up' : Bool) (wd wd' : Int) (sh sh' : Bool) : Bool := decide (ns = ms ∧ up = up' ∧ wd = wd' ∧ sh = sh')
theorem eqv_four (ns ms : List Int) (up up' : Bool) (wd wd' : Int) (sh sh' : Bool) : PyData.eqv (four ns up wd sh) (four ms up' wd' sh') = same4 ns ms up up' wd wd' sh sh' := by
  unfold same4
  by_cases h1 : ns = ms <;> by_cases h2 : up = up' <;> by_cases h3 : wd = wd' <;> by_cases h4 : sh = sh' <;> simp [four, PyData.eqv, PyData.eqvAll, eqv_ints, h1, h2, h3, h4]
theorem shaped_four (ns : List Int) (up : Bool) (wd : Int) (sh : Bool) : SeqAt.shaped (four ns up wd sh) = true := by
  unfold SeqAt.shaped
  simp [four, PyData.canLay0, PyData.canLayAll0, lay_ints, PyData.depth, PyData.depthAll, depth_ints]
theorem Good.dp {K : PySem.W.Frag} {H : Hp} {R l : Addr} {ns : List Int} {up : Bool} {wd : Int} {sh : Bool} (g : Good H R l ns up wd sh) : Dp K H (.ref R) (four ns up wd sh) :=
  .tup (SqT.of g.at_) (.cons (.tup (SqT.of g.li) (dp_ints ns)) (.cons (.bl up) (.cons (.int wd) (.cons (.bl sh) .nil))))
theorem Good.row {H : Hp} {R l : Addr} {ns : List Int} {up : Bool} {wd : Int} {sh : Bool} (g : Good H R l ns up wd sh) : Row (fun _ => False) H R (.ref l) (.bl up) (.int wd) (.bl sh) (.tuple (ns.map PyData.int)) (.bool up) (.int wd) (.bool sh) := by
  have l4 := g.ok.len
  have s0 : Sm (.tuple (ns.map PyData.int)) := Sm.ints (fun n hn => by have := g.ok.rng n hn; omega) (by omega)
  exact ⟨g.at_, fun z => z, .tup g.li (fun z => z) (DaAll.ints ns), .bl up, .int wd, .bl sh, s0, Sm.bl up, Sm.int (by have := g.w; omega), Sm.bl sh, one0 s0 (clean_bl _) (clean_int _) (clean_bl _)⟩
theorem Good.terms {H : Hp} {R l : Addr} {ns : List Int} {up : Bool} {wd : Int} {sh : Bool} (g : Good H R l ns up wd sh) : isTerms (.tuple (ns.map PyData.int)) (.bool up) (.int wd) (.bool sh) := ⟨⟨ns, rfl, g.ok⟩, ⟨up, rfl⟩, ⟨wd, rfl, g.w⟩, ⟨sh, rfl⟩⟩
theorem made_of {C CN : Addr} {H : Hp} {R l : Addr} {ns : List Int} {up : Bool} {wd : Int} {sh : Bool} {Q : VK} {E : XK} (g : Good H R l ns up wd sh) (yes : ∀ x l' H', Same H H' → H x = none → At C H' x l' ns up wd sh → Q (.ref x) H') : spMade C CN [.ref R] H Q E := by
  refine ⟨_, R, _, _, _, _, _, _, _, _, rfl, g.row, fun x l' ms up' wd' sh' H' e0 ok e1 e2 hw e3 sm hx at_ => ?_, fun nt => absurd g.terms nt⟩
  have en : ns = ms := by
    have e : PyData.tuple (ns.map PyData.int) = .tuple (ms.map PyData.int) := e0
    injection e with e
    exact (List.map_inj_right (fun a b h => by injection h)).mp e
  subst en
  cases e1
  cases e2
  cases e3
  exact yes x l' H' sm hx at_
theorem made_yes {C : Addr} {H : Hp} {ns : List Int} {up : Bool} {wd : Int} {sh : Bool} {Pr : Addr → Hp → Prop} (yes : ∀ x l' H', Same H H' → H x = none → At C H' x l' ns up wd sh → Pr x H') :
    ∀ (x l : Addr) (ms : List Int) (up' : Bool) (wd' : Int) (sh' : Bool) (H' : Hp), norm (.tuple (ns.map PyData.int)) = .tuple (ms.map PyData.int) → OkL ms → PyData.bool up = .bool up' → PyData.int wd = .int wd' → (-99 ≤ wd' ∧ wd' ≤ 99) → PyData.bool sh = .bool sh' → Same H H' → H x = none → At C H' x l ms up' wd' sh' → Pr x H' := by
  intro x l' ms up' wd' sh' H' e0 ok e1 e2 hw e3 sm hx at_
  have en : ns = ms := by
    have e : PyData.tuple (ns.map PyData.int) = .tuple (ms.map PyData.int) := e0
    injection e with e
    exact (List.map_inj_right (fun a b h => by injection h)).mp e
  subst en
  cases e1
  cases e2
  cases e3
  exact yes x l' H' sm hx at_
theorem spEq_dec {C : Addr} {H : Hp} {p q l m : Addr} {ns ms : List Int} {up up' : Bool} {wd wd' : Int} {sh sh' : Bool} {Q : VK} {E : XK} (a : At C H p l ns up wd sh) (b : At C H q m ms up' wd' sh') (h : Q (.bl (same4 ns ms up up' wd wd' sh sh')) H) : spEq C [.ref p, .ref q] H Q E := by
  refine ⟨p, q, l, m, ns, ms, up, up', wd, wd', sh, sh', rfl, a, b, fun e1 e2 e3 e4 => ?_, fun n => ?_⟩
  · have e : same4 ns ms up up' wd wd' sh sh' = true := decide_eq_true ⟨e1, e2, e3, e4⟩
    rw [e] at h
    exact h
  · have e : same4 ns ms up up' wd wd' sh sh' = false := decide_eq_false n
    rw [e] at h
    exact h
theorem same4_self (ns : List Int) (up : Bool) (wd : Int) (sh : Bool) : same4 ns ns up up wd wd sh sh = true := decide_eq_true ⟨rfl, rfl, rfl, rfl⟩
theorem same4_symm (ns ms : List Int) (up up' : Bool) (wd wd' : Int) (sh sh' : Bool) : same4 ns ms up up' wd wd' sh sh' = same4 ms ns up' up wd' wd sh' sh := by
  unfold same4
  rw [decide_eq_decide]
  constructor <;> rintro ⟨h1, h2, h3, h4⟩ <;> exact ⟨h1.symm, h2.symm, h3.symm, h4.symm⟩
theorem same_bl {b : Bool} : (!decide (V.bl b = V.bl b)) = false := by simp
theorem not_bl {b : Bool} : decide (V.bl (!b) = V.bl b) = false := by cases b <;> decide
def spEqU (C : Addr) : Sp := fun vs H Q E => spEq C vs H Q E ∨ spEqX C vs H Q E
theorem ok_eqU {P : Program} {w : World} {K : PySem.W.Frag} {mg : Str → Option Value} {base : Heap} {f : Addr} {fd : FuncData} {CX : CXT} {k : Nat} {ps : List Str} {C : Addr} (F : FnOk P w K mg base CX k f fd ps (spEq C)) (G : FnOk P w K mg base CX k f fd ps (spEqX C)) : FnOk P w K mg base CX k f fd ps (spEqU C) :=
  ⟨fun vs H Q E h => h.elim (F.len vs H Q E) (G.len vs H Q E), fun A outer s H ar us vs Q E hr env bd v h => h.elim (F.run A outer s H ar us vs Q E hr env bd v) (G.run A outer s H ar us vs Q E hr env bd v)⟩
end K2
set_option Elab.async false
set_option linter.all false
set_option maxRecDepth 100000
set_option maxHeartbeats 4000000
namespace K2
open PySem PySem.Spec PyProof.Rows L2 Bb
def IsGood (H : Hp) (v : V) : Prop := ∃ R l ns up wd sh, v = .ref R ∧ Good H R l ns up wd sh
theorem IsGood.same {H H' : Hp} {v : V} (g : IsGood H v) (s : Same H H') : IsGood H' v := by
  obtain ⟨R, l, ns, up, wd, sh, e, g⟩ := g
  exact ⟨R, l, ns, up, wd, sh, e, g.same s⟩
def spAlike : Sp := fun vs H Q _ => ∃ (R l L : Addr) (ns : List Int) (up : Bool) (wd : Int) (sh : Bool) (xs : List V), vs = [.ref R, .ref L] ∧ Good H R l ns up wd sh ∧ H L = some (.lst xs) ∧ (∀ v ∈ xs, IsGood H v) ∧ ∀ H', Same H H' → Q (.bl true) H'
section
variable {P : Program} {w : World} {K : PySem.W.Frag} {mg : Str → Option Value} {base : Heap} {f : Addr} {fd : FuncData}
abbrev nAlike : List Str := ["_law_row", "_law_others", "_law_one", "_law_other", "_law_equal", "_law_there"]
theorem scAlike : FnScope nAlike ["_law_row", "_law_others"] (defScope sAlike) := ⟨rfl, rfl, rfl, by decide +kernel, rfl, by decide +kernel, by decide +kernel⟩
theorem ok_alike {C CN CC : Addr} (F : Fn K "_law_alike" "_law_alike" sAlike f fd) (h : Hr K mg) (o : Own K mg C CN CC) : FnOk P w K mg base L2.CX0 8 f fd ["_law_row", "_law_others"] spAlike := by
  have T := h.hlp.fr
  have R := o.r
  obtain ⟨aNu, dNu, FNu, gNu⟩ := h.num
  obtain ⟨aAr, dAr, FAr, gAr⟩ := h.aret
  obtain ⟨aMa, dMa, FMa, gMa⟩ := h.made
  obtain ⟨aIn, dIn, dvs, FIn, hdv, MK⟩ := o.ini
  obtain ⟨aEq, dEq, FEq, lEq, iEq⟩ := o.eq
  have GAr : FnOk P w K mg base L2.CX0 2 aAr dAr ["_law_row"] spAreT := ok_aret FAr FNu gNu T h.hset
  have GMa : FnOk P w K mg base (L2.CX P w) 6 aMa dMa ["_law_row"] (spMade C CN) := ok_made FMa FIn hdv MK h.hlp R o.en
  have GEq : FnOk P w K mg base L2.CX0 1 aEq dEq ["self", "other"] (spEq C) := ok_eq FEq T R
  have GEx : FnOk P w K mg base L2.CX0 1 aEq dEq ["self", "other"] (spEqX C) := ok_eqX FEq T R o.nb
  have GEu : FnOk P w K mg base L2.CX0 1 aEq dEq ["self", "other"] (spEqU C) := ok_eqU GEq GEx
  have bAr : Binds K dAr ["_law_row"] [] := FAr.bindsN fun _ _ _ _ _ _ us hl => match us, hl with | [_], _ => rfl
  have bMa : Binds K dMa ["_law_row"] [] := FMa.bindsN fun _ _ _ _ _ _ us hl => match us, hl with | [_], _ => rfl
  have bEq : Binds K dEq ["self", "other"] [] := FEq.bindsN fun _ _ _ _ _ _ us hl => match us, hl with | [_, _], _ => rfl
  refine F.ok scAlike (fun vs H Q E h => ?_) (fun cdv A outer s H vs Q E hr hh => ?_)
  · obtain ⟨R, l, L, ns, up, wd, sh, xs, rfl, _⟩ := h
    rfl
  · obtain ⟨Rr, l, L, ns, up, wd, sh, xs, rfl, gd, hL, gs, q⟩ := hh
    refine' ⟨_, PSs.nox ?d, ?r⟩
    case d =>
      refine' pss_cons (ps_set (i := 2) scAlike.nd rfl (.inl rfl) (pe_call GMa (hr.mono (by decide)) rfl gMa FMa.kp bMa .nil passL (pa_cons (pv 0) pa_nil))) ?a1
      case a1 =>
        refine' pss_cons (ps_for PassesOwn.never rfl (pi_list (pv 1)) (pg_name (i := 3) scAlike.nd rfl (Or.inl rfl)) ?l1) ?a2
        case l1 =>
          refine' pss_cons (ps_set (i := 4) scAlike.nd rfl (.inl rfl) (pe_cmpR (op_eqD hr.units) (pv 3) (pv 0) (nomark _))) ?b1
          case b1 =>
            refine' pss_one (ps_if (pt_val (pe_call GAr (hr.mono (by decide)) rfl gAr FAr.kp bAr .nil pass0 (pa_cons (pv 3) pa_nil))) ?b2 pss_never)
            case b2 =>
              refine' pss_cons (ps_set (i := 5) scAlike.nd rfl (.inl rfl) (pe_call GMa (hr.mono (by decide)) rfl gMa FMa.kp bMa .nil passL (pa_cons (pv 3) pa_nil))) ?b3
              case b3 =>
                exact pss_one (ps_if (PW.pt (pw_or (pt_cmpR op_ne (pe_cmpR (op_eqOwn GEq (hr.mono (by decide)) lEq iEq bEq pass0) (pv 2) (pv 5) (nomark _)) (pv 4) (nomark _))
                  (pw_or (pt_cmpR op_eq (pe_cmpR (op_neOwn GEq (hr.mono (by decide)) lEq iEq o.ne o.ob bEq pass0) (pv 2) (pv 5) (nomark _)) (pv 4) (nomark _))
                  (pw_or1 (pt_cmpR op_ne (pe_cmpR (op_eqOwn GEq (hr.mono (by decide)) lEq iEq bEq pass0) (pv 5) (pv 2) (nomark _)) (pv 4) (nomark _)))))) (pss_one (ps_ret pe_bl)) pss_nil)
        case a2 =>
          exact pss_one (ps_ret (pe_and (pe_cmpR (op_eqOwn GEq (hr.mono (by decide)) lEq iEq bEq pass0) (pv 2) (pe_call GMa (hr.mono (by decide)) rfl gMa FMa.kp bMa .nil passL (pa_cons (pv 0) pa_nil)) (nomark _))
            (pe_and (pe_cmpR (op_neOwnX GEx (hr.mono (by decide)) lEq iEq o.ne o.ob bEq pass0) (pv 2) (pv 0) (nomark _))
            (pe_one (pe_cmpR (op_inOwn GEu (hr.mono (by decide)) lEq iEq o.nn bEq pass0) (pv 2) (pe_lst (pa_cons pe_non (pa_cons (pe_call GMa (hr.mono (by decide)) rfl gMa FMa.kp bMa .nil passL (pa_cons (pv 0) pa_nil)) pa_nil))) rfl)))))
    case r =>
      refine ⟨_, rfl, _, Rr, _, _, _, _, _, _, _, _, rfl, gd.row, made_yes fun x l1 H1 s1 hx at1 => ?_, fun nt => absurd gd.terms nt⟩
      have g1 := gd.same s1
      have hL1 := s1 _ _ hL
      refine ⟨_, rfl, L, rfl, ⟨_, SqL.of hL1⟩, for_list (K := K) (a := L) (xs := xs) (fun i σ H' => ∃ v3 v4 v5 : Option V, σ = [some (.ref Rr), some (.ref L), some (.ref x), v3, v4, v5] ∧ Same H1 H')
        ⟨none, none, none, rfl, Same.refl _⟩ (fun i σ H' _ ⟨_, _, _, _, sm⟩ => SqL.of (sm _ _ hL1)) ?_ ?_⟩
      · rintro i y σ H2 hy ⟨v3, v4, v5, rfl, sm⟩
        obtain ⟨Ry, m, ms, up', wd', sh', rfl, gy⟩ := gs y (List.mem_of_getElem? hy)
        have gy2 := gy.same (s1.trans sm)
        have g2 := g1.same sm
        have at2 := at1.same sm
        refine ⟨_, rfl, _, rfl, four ms up' wd' sh', four ns up wd sh, gy2.dp, g2.dp, shaped_four _ _ _ _, shaped_four _ _ _ _, ?_⟩
        rw [eqv_four]
        refine ⟨_, rfl, _, Ry, _, _, _, _, _, _, _, _, rfl, gy2.row, fun b H3 s3 hb => ?_⟩
        have hbt := hb.mpr gy2.terms
        subst hbt
        refine ⟨_, rfl, iteT ?_⟩
        refine ⟨_, rfl, _, Ry, _, _, _, _, _, _, _, _, rfl, (gy2.same s3).row, made_yes fun z m4 H4 s4 hz at4 => ?_, fun nt => absurd gy2.terms nt⟩
        have s34 := s3.trans s4
        have at2' := at2.same s34
        obtain ⟨dx, hx4⟩ := at2'.ob
        obtain ⟨dz, hz4⟩ := at4.ob
        refine ⟨_, rfl, _, rfl, x, z, dx, dz, _, _, rfl, rfl, hx4, hz4, spEq_dec at2' at4 ⟨_, rfl, _, rfl, rfl, ?_⟩⟩
        rw [same4_symm ns ms, same_bl]
        refine ⟨false, rfl, iteF ?_⟩
        refine ⟨_, rfl, _, rfl, x, z, dx, dz, _, _, rfl, rfl, hx4, hz4, spEq_dec at2' at4 ⟨_, rfl, _, rfl, rfl, ?_⟩⟩
        rw [same4_symm ns ms, not_bl]
        refine ⟨false, rfl, iteF ?_⟩
        refine ⟨_, rfl, _, rfl, z, x, dz, dx, _, _, rfl, rfl, hz4, hx4, spEq_dec at4 at2' ⟨_, rfl, _, rfl, rfl, ?_⟩⟩
        rw [same_bl]
        refine ⟨false, rfl, iteF ?_⟩
        exact ⟨_, _, _, rfl, sm.trans s34⟩
      · rintro σ H2 ⟨v3, v4, v5, rfl, sm⟩
        have g2 := g1.same sm
        have at2 := at1.same sm
        refine ⟨_, rfl, _, rfl, _, Rr, _, _, _, _, _, _, _, _, rfl, g2.row, made_yes fun z m3 H3 s3 hz at3 => ?_, fun nt => absurd g2.terms nt⟩
        have at2' := at2.same s3
        obtain ⟨dx, hx3⟩ := at2'.ob
        obtain ⟨dz, hz3⟩ := at3.ob
        refine ⟨x, z, dx, dz, _, _, rfl, rfl, hx3, hz3, spEq_dec at2' at3 ⟨_, rfl, _, rfl, ?_⟩⟩
        rw [same4_self]
        refine iteT ?_
        have g3 := g2.same s3
        refine ⟨_, rfl, _, rfl, x, dx, _, rfl, hx3, .inl ⟨_, _, row_da g3.row⟩, x, _, rfl, .inl ⟨_, _, row_da g3.row⟩, false, rfl, _, rfl, ?_⟩
        refine iteT ?_
        refine ⟨_, rfl, _, rfl, _, Rr, _, _, _, _, _, _, _, _, rfl, g3.row, made_yes fun z2 m4 H4 s4 hz2 at4 => ?_, fun nt => absurd g3.terms nt⟩
        refine ⟨(by show 2 ≤ sizeLine; decide), fun Lz hLz => ?_⟩
        have u5 := up2 (o := .lst [.non, .ref z2]) hLz
        have at5 := at4.same u5
        have atx := (at2'.same s4).same u5
        obtain ⟨dx5, hx5⟩ := atx.ob
        obtain ⟨dz5, hz5⟩ := at5.ob
        have nx : x ≠ z2 := by
          rintro rfl
          rw [hx3] at hz2
          cases hz2
        refine ⟨x, z2, Lz, dx5, dz5, _, _, rfl, rfl, upd_same, nx, hx5, hz5, .inr ⟨x, .non, rfl, .inl ⟨fun _ => False, .none, .non⟩, rfl, rfl⟩, .inl (spEq_dec at5 atx ?_)⟩
        rw [same4_self]
        exact ⟨rfl, q _ ((s1.trans sm).trans (s3.trans (s4.trans u5)))⟩
end
end K2
set_option Elab.async false
set_option linter.all false
set_option maxRecDepth 100000
set_option maxHeartbeats 4000000
namespace K2
open PySem PySem.Spec PyProof.Rows L2 Bb
/-! all that the law's own def wants of the head -/
structure All (K : PySem.W.Frag) (mg : Str → Option Value) : Prop where
  hr : Hr K mg
  hl : Hl K mg
  cell : ∃ a d, Fn K "_law_cell" "_law_cell" sCell a d ∧ mg "_law_cell" = some (.ref a)
  pen : ∃ a d, Fn K "_law_pen" "_law_pen" sPen a d ∧ mg "_law_pen" = some (.ref a)
  terms : ∃ a d, Fn K "_law_terms" "_law_terms" sTerms a d ∧ mg "_law_terms" = some (.ref a)
  odd : ∃ a d, Fn K "_law_odd" "_law_odd" sOdd a d ∧ mg "_law_odd" = some (.ref a)
  any : ∃ a d, Fn K "_law_anything" "_law_anything" sAny a d ∧ mg "_law_anything" = some (.ref a)
  bent : ∃ a d, Fn K "_law_bent" "_law_bent" sBent a d ∧ mg "_law_bent" = some (.ref a)
  right : ∃ a d, Fn K "_law_all_right" "_law_all_right" sRight a d ∧ mg "_law_all_right" = some (.ref a)
  alike : ∃ a d, Fn K "_law_alike" "_law_alike" sAlike a d ∧ mg "_law_alike" = some (.ref a)
abbrev nLaw : List Str := ["_law_script", "_law_cell_here", "_law_pen_here", "_law_row", "_law_rows", "_law_some", "_law_one", "_law_thing", "_law_turn", "_law_other"]
theorem scLaw : FnScope nLaw ["_law_script"] (defScope sLaw) := ⟨rfl, rfl, rfl, by decide +kernel, rfl, by decide +kernel, by decide +kernel⟩
/-- all_right's code object and its table -/
def CodeR (K : PySem.W.Frag) (mg : Str → Option Value) (base : Heap) (c Pt : Addr) : Prop := LamX.TabB base mg c Pt ∧ ∀ a d, Fn K "_law_all_right" "_law_all_right" sRight a d → mg "_law_all_right" = some (.ref a) → d.code = .ref c
def rLenS (K : PySem.W.Frag) : List V → Hp → VK → Prop := fun xs H Q => ∃ p ys, xs = [V.ref p] ∧ (SqL K H p ys ∨ SqT K H p ys) ∧ Q (V.int (ys.length : Nat)) H
theorem tabs_at {Ts : List (Addr × Str)} {H H' : Hp} (t : LamX.Tabs Ts H) (k : ∀ b o, H b = some o → (∀ xs, o ≠ .lst xs) → H' b = some o) : LamX.Tabs Ts H' := by
  intro q hq
  obtain ⟨ps, h1, h2, h3⟩ := t q hq
  refine ⟨ps, k _ _ h1 (fun xs z => by cases z), h2, fun pos cv hc => ?_⟩
  obtain ⟨c, e1, e2⟩ := h3 pos cv hc
  refine ⟨c, e1, k _ _ e2 (fun xs z => ?_)⟩
  unfold LamX.CodeO at z
  cases z
theorem tabs_kp {Ts : List (Addr × Str)} {H H' : Hp} {p : Addr} (t : LamX.Tabs Ts H) (hp : Pen H p) (k : Kp p H H') : LamX.Tabs Ts H' :=
  tabs_at t fun b o e n => k.keep b o e fun z => by
    obtain ⟨x, f, e2⟩ := hp
    rw [z, e2] at e
    exact n _ (Option.some.inj e).symm
theorem extN_same {H H' : Hp} (s : Same H H') : LamX.ExtN H H' := fun b o e _ => s b o e
theorem extN_kp {H H' : Hp} {p : Addr} {G : Hp} (e : LamX.ExtN G H) (np : G p = none) (k : Kp p H H') : LamX.ExtN G H' := fun b o h n => k.keep b o (e b o h n) (ne_of_none h np)
theorem same_kp {G H H' : Hp} {p : Addr} (s : Same G H) (np : G p = none) (k : Kp p H H') : Same G H' := fun b o e => k.keep b o (s b o e) (ne_of_none e np)
theorem same_up' {G H : Hp} {D : Addr} {o : HO} (s : Same G H) (n : G D = none) : Same G (upd H D o) := fun b u e => by
  rw [upd_ne (ne_of_none e n)]
  exact s b u e
theorem int_at {ns : List Int} {z0 : Int} {lo hi : Option Int} {i : Nat} {y : V} (h : ([V.int z0] ++ cutV (ns.map V.int) lo hi)[i]? = some y) : ∃ z, y = .int z := by
  have m := List.mem_of_getElem? h
  rcases List.mem_append.mp m with q | q
  · exact ⟨z0, by simpa using q⟩
  · unfold cutV at q
    have q2 := List.mem_of_mem_drop (List.mem_of_mem_take q)
    obtain ⟨z, _, e⟩ := List.mem_map.mp q2
    exact ⟨z, e.symm⟩
def IsRow (Z : Addr → Prop) (H : Hp) (v : V) : Prop := ∃ R v0 v1 v2 v3 d0 d1 d2 d3, v = .ref R ∧ Row Z H R v0 v1 v2 v3 d0 d1 d2 d3
theorem IsRow.keep {Z : Addr → Prop} {H H' : Hp} {v : V} (r : IsRow Z H v) (k : Keeps Z H H') : IsRow Z H' v := by
  obtain ⟨R, v0, v1, v2, v3, d0, d1, d2, d3, e, r⟩ := r
  exact ⟨R, v0, v1, v2, v3, d0, d1, d2, d3, e, r.keep k⟩
theorem Row.zed' {Z Z' : Addr → Prop} {H : Hp} {R : Addr} {v0 v1 v2 v3 : V} {d0 d1 d2 d3 : PyData} (r : Row Z H R v0 v1 v2 v3 d0 d1 d2 d3) (n : ∀ b o, H b = some o → ¬ Z b → ¬ Z' b) : Row Z' H R v0 v1 v2 v3 d0 d1 d2 d3 :=
  ⟨r.at_, n _ _ r.at_ r.nz, Da.zed n _ _ r.a0, Da.zed n _ _ r.a1, Da.zed n _ _ r.a2, Da.zed n _ _ r.a3, r.s0, r.s1, r.s2, r.s3, r.one⟩
theorem IsRow.zed' {Z Z' : Addr → Prop} {H : Hp} {v : V} (r : IsRow Z H v) (n : ∀ b o, H b = some o → ¬ Z b → ¬ Z' b) : IsRow Z' H v := by
  obtain ⟨R, v0, v1, v2, v3, d0, d1, d2, d3, e, r⟩ := r
  exact ⟨R, v0, v1, v2, v3, d0, d1, d2, d3, e, r.zed' n⟩
theorem Good.isRow {Z : Addr → Prop} {H : Hp} {R l : Addr} {ns : List Int} {up : Bool} {wd : Int} {sh : Bool} (g : Good H R l ns up wd sh) (nR : ¬ Z R) (nl : ¬ Z l) : IsRow Z H (.ref R) := by
  have r := g.row
  exact ⟨R, _, _, _, _, _, _, _, _, rfl, ⟨r.at_, nR, .tup g.li nl (DaAll.ints ns), .bl up, .int wd, .bl sh, r.s0, r.s1, r.s2, r.s3, r.one⟩⟩
theorem good_of {Z : Addr → Prop} {H : Hp} {R : Addr} {v0 v1 v2 v3 : V} {d0 d1 d2 d3 : PyData} (r : Row Z H R v0 v1 v2 v3 d0 d1 d2 d3) (t : isTerms d0 d1 d2 d3) : ∃ l ns up wd sh, Good H R l ns up wd sh := by
  obtain ⟨⟨ns, e0, ok⟩, ⟨up, e1⟩, ⟨wd, e2, w0, w1⟩, ⟨sh, e3⟩⟩ := t
  subst e0 e1 e2 e3
  obtain ⟨l, eu, hl⟩ := da_tup r.a0
  have a1 := r.a1
  have a2 := r.a2
  have a3 := r.a3
  cases a1
  cases a2
  cases a3
  subst eu
  exact ⟨l, ns, up, wd, sh, r.at_, hl, ok, w0, w1⟩
theorem isGood_upd {H : Hp} {v : V} {D : Addr} {xs ys : List V} (g : IsGood H v) (e : H D = some (.lst xs)) : IsGood (upd H D (.lst ys)) v := by
  obtain ⟨R, l, ns, up, wd, sh, ev, g⟩ := g
  have n : ∀ {a : Addr} {zs : List V}, H a = some (.tup zs) → (upd H D (.lst ys)) a = some (.tup zs) := fun h => by
    rw [upd_ne (by rintro rfl; rw [h] at e; cases e)]
    exact h
  exact ⟨R, l, ns, up, wd, sh, ev, n g.at_, n g.li, g.ok, g.w⟩
/-- a row that was bent stays clear of the pen and of a list that is written -/
theorem clear_of {H H' : Hp} {l R p D : Addr} {ns : List Int} {up : Bool} {wd : Int} {sh : Bool} {xs : List V} (hp : Pen H p) (hD : H D = some (.lst xs)) (g : Good H R l ns up wd sh) : ∀ b o, H' b = some o → ¬ Zb H l R b → ¬ (b = p ∨ b = D) := by
  intro b o _ n z
  refine n ?_
  rcases z with rfl | rfl
  · exact ⟨pen_old hp, fun e => pen_ne hp g.li (fun _ _ z => by cases z) e.symm, fun e => pen_ne hp g.at_ (fun _ _ z => by cases z) e.symm⟩
  · refine ⟨fun e => (by rw [hD] at e; cases e), fun e => ?_, fun e => ?_⟩
    · have := g.li
      rw [← e, hD] at this
      cases this
    · have := g.at_
      rw [← e, hD] at this
      cases this
def spLaw (K : PySem.W.Frag) (Pt : Addr) : Sp := fun vs H Q _ => ∃ (a : Addr) (ns : List Int), vs = [.ref a] ∧ SqL K H a (ns.map V.int) ∧ ns.length ≤ 63 ∧ H Pt = some (.tbl #[]) ∧ ∀ H', Q (.bl true) H'
section
variable {P : Program} {w : World} {K : PySem.W.Frag} {mg : Str → Option Value} {base : Heap} {f : Addr} {fd : FuncData}
theorem ok_law {C CN CC c Pt : Addr} (F : Fn K "law" "law" sLaw f fd) (CR : CodeR K mg base c Pt) (h : All K mg) (o : Own K mg C CN CC) : FnG P w K mg base L2.CX0 10 f fd ["_law_script"] (spLaw K Pt) := by
  have T := h.hr.hlp.fr
  have R := o.r
  obtain ⟨aCe, dCe, FCe, gCe⟩ := h.cell
  obtain ⟨aPe, dPe, FPe, gPe⟩ := h.pen
  obtain ⟨aTe, dTe, FTe, gTe⟩ := h.terms
  obtain ⟨aOd, dOd, FOd, gOd⟩ := h.odd
  obtain ⟨aAn, dAn, FAn, gAn⟩ := h.any
  obtain ⟨aBe, dBe, FBe, gBe⟩ := h.bent
  obtain ⟨aRi, dRi, FRi, gRi⟩ := h.right
  obtain ⟨aAl, dAl, FAl, gAl⟩ := h.alike
  obtain ⟨aNu, dNu, FNu, gNu⟩ := h.hr.num
  obtain ⟨aAr, dAr, FAr, gAr⟩ := h.hr.aret
  obtain ⟨aMa, dMa, FMa, gMa⟩ := h.hr.made
  obtain ⟨aIn, dIn, dvs, FIn, hdv, MK⟩ := o.ini
  obtain ⟨aEq, dEq, FEq, lEq, iEq⟩ := o.eq
  have GCe : FnOk P w K mg base L2.CX0 1 aCe dCe ["_law_script", "_law_k"] (spCell K) := ok_cell FCe T
  have GPe : FnOk P w K mg base L2.CX0 1 aPe dPe ["_law_cell_here"] spPen := ok_pen FPe T
  have GTe : FnOk P w K mg base L2.CX0 3 aTe dTe ["_law_pen_here"] spTerms := ok_terms FTe h.hl
  have GAn : FnOk P w K mg base L2.CX0 3 aAn dAn ["_law_pen_here"] spThingD := ok_any FAn h.hl
  have GBe : FnOk P w K mg base L2.CX0 4 aBe dBe ["_law_pen_here", "_law_row"] spBent := ok_bent FBe FAn gAn FOd gOd h.hl
  have GRi : FnG P w K mg base L2.CX0 9 aRi dRi ["_law_row"] (spRight Pt qR) := ok_right FRi (CR.2 _ _ FRi gRi) CR.1 h.hr o
  have GAl : FnOk P w K mg base L2.CX0 8 aAl dAl ["_law_row", "_law_others"] spAlike := ok_alike FAl h.hr o
  have GAr : FnOk P w K mg base L2.CX0 2 aAr dAr ["_law_row"] spAreT := ok_aret FAr FNu gNu T h.hr.hset
  have GMa : FnOk P w K mg base (L2.CX P w) 6 aMa dMa ["_law_row"] (spMade C CN) := ok_made FMa FIn hdv MK h.hr.hlp R o.en
  have GEx : FnOk P w K mg base L2.CX0 1 aEq dEq ["self", "other"] (spEqX C) := ok_eqX FEq T R o.nb
  have bCe : Binds K dCe ["_law_script", "_law_k"] [] := FCe.bindsN fun _ _ _ _ _ _ us hl => match us, hl with | [_, _], _ => rfl
  have bPe : Binds K dPe ["_law_cell_here"] [] := FPe.bindsN fun _ _ _ _ _ _ us hl => match us, hl with | [_], _ => rfl
  have bTe : Binds K dTe ["_law_pen_here"] [] := FTe.bindsN fun _ _ _ _ _ _ us hl => match us, hl with | [_], _ => rfl
  have bAn : Binds K dAn ["_law_pen_here"] [] := FAn.bindsN fun _ _ _ _ _ _ us hl => match us, hl with | [_], _ => rfl
  have bBe : Binds K dBe ["_law_pen_here", "_law_row"] [] := FBe.bindsN fun _ _ _ _ _ _ us hl => match us, hl with | [_, _], _ => rfl
  have bRi : Binds K dRi ["_law_row"] [] := FRi.bindsN fun _ _ _ _ _ _ us hl => match us, hl with | [_], _ => rfl
  have bAl : Binds K dAl ["_law_row", "_law_others"] [] := FAl.bindsN fun _ _ _ _ _ _ us hl => match us, hl with | [_, _], _ => rfl
  have bAr : Binds K dAr ["_law_row"] [] := FAr.bindsN fun _ _ _ _ _ _ us hl => match us, hl with | [_], _ => rfl
  have bMa : Binds K dMa ["_law_row"] [] := FMa.bindsN fun _ _ _ _ _ _ us hl => match us, hl with | [_], _ => rfl
  have bEq : Binds K dEq ["self", "other"] [] := FEq.bindsN fun _ _ _ _ _ _ us hl => match us, hl with | [_, _], _ => rfl
  refine fnG F scLaw (fun vs H Q E h => ?_) (fun cdv A outer s H vs Q E gd hr hcd hh => ?_)
  · obtain ⟨a, ns, rfl, _⟩ := h
    rfl
  · obtain ⟨a, ns, rfl, ha, hn, hPt, back⟩ := hh
    let X := (cxOf L2.CX0 P w K mg base nLaw "law" (defScope sLaw) f cdv A outer s H E).nox
    have gdX : X.A.guards = some [] := gd
    have rep := call_reprA (X := X) gdX hr.units
    refine' ⟨_, PSs.nox ?d, ?r⟩
    case d =>
      refine' pss_cons (ps_for PassesOwn.never rfl (pi_list (pe_op op_cat (pe_lst (pa_cons (pe_call GCe (hr.mono (by decide)) rfl gCe FCe.kp bCe .nil pass0 (pa_cons (pv 0) (pa_cons pe_int pa_nil))) pa_nil)) (pe_slice sl_list (pv 0) (po_some pe_int) (po_some pe_int)))) (pg_name (i := 1) scLaw.nd rfl (Or.inl rfl)) ?l1) ?z0
      case l1 =>
        refine' pss_cons (ps_set (i := 2) scLaw.nd rfl (.inr rfl) (pe_call GPe (hr.mono (by decide)) rfl gPe FPe.kp bPe .nil pass0 (pa_cons (pv 1) pa_nil))) ?w0
        case w0 =>
          refine' pss_cons (ps_set (i := 3) scLaw.nd rfl (.inr rfl) (pe_call GTe (hr.mono (by decide)) rfl gTe FTe.kp bTe .nil pass0 (pa_cons (pv 2) pa_nil))) ?w1
          case w1 =>
            refine' pss_cons (ps_set (i := 4) scLaw.nd rfl (.inl rfl) (pe_op op_cat (pe_lst (pa_cons (pv 3) pa_nil)) (pe_lc (own := [("_law_turn", 8)]) (g := gName 8) (tt := tYes) rfl scLaw.nd (pi_range1 rfl T.rng_ (pa_cons pe_int pa_nil)) (blkOk_by (N := nLaw) (sc := defScope sLaw) (by decide +kernel)) (fun _ _ _ _ _ => pg_name (i := 8) scLaw.nd rfl (Or.inl rfl)) (fun _ _ _ _ _ => pts_nil)
              (fun _ _ _ _ _ => pe_call GBe (hr.mono (by decide)) rfl gBe FBe.kp bBe .nil pass0 (pa_cons (pv 2) (pa_cons (pv 3) pa_nil)))))) ?w2
            case w2 =>
              refine' pss_cons (ps_set (i := 4) scLaw.nd rfl (.inl rfl) (pe_op op_cat (pv 4) (pe_lc (own := [("_law_other", 9)]) (g := gName 9) (tt := tB (tCall spAreT [] E0 (tCons (tVar 9) tNil))) rfl scLaw.nd (pi_list (pe_slice sl_list (pv 4) po_none (po_some pe_int))) (blkOk_by (N := nLaw) (sc := defScope sLaw) (by decide +kernel)) (fun _ _ _ _ _ => pg_name (i := 9) scLaw.nd rfl (Or.inl rfl))
                (fun _ _ _ _ _ => pts_one (pt_val (pe_call GAr (hr.mono (by decide)) rfl gAr FAr.kp bAr .nil pass0 (pa_cons (pv 9) pa_nil))))
                (fun _ _ _ _ _ => pe_call GBe (hr.mono (by decide)) rfl gBe FBe.kp bBe .nil pass0 (pa_cons (pv 2) (pa_cons (pv 9) pa_nil)))))) ?w3
              case w3 =>
                refine' pss_cons (ps_expr (pe_bm PySem.F.plainAttrs_list PySem.F.slot_list_append PySem.F.type_list_append mt_append (pv 4) (pa_cons (pe_tup (pa_cons pe_non (pa_cons pe_bl (pa_cons pe_int (pa_cons pe_bl pa_nil))))) pa_nil))) ?w4
                case w4 =>
                  refine' pss_cons (ps_if (pt_not (pt_val (pe_callB (cr_all rfl) rfl T.all_ (by decide +kernel) (pa_cons (pe_lc (own := [("_law_other", 9)]) (g := gName 9) (tt := tYes) rfl scLaw.nd (pi_list (pv 4)) (blkOk_by (N := nLaw) (sc := defScope sLaw) (by decide +kernel)) (fun _ _ _ _ _ => pg_name (i := 9) scLaw.nd rfl (Or.inl rfl)) (fun _ _ _ _ _ => pts_nil)
                    (fun _ _ _ _ _ => pe_callG GRi gdX hr rfl gRi FRi.kp bRi pass0 (pa_cons (pv 9) pa_nil))) pa_nil)))) (pss_one (ps_ret pe_bl)) pss_nil) ?w5
                  case w5 =>
                    refine' pss_cons (ps_set (i := 5) scLaw.nd rfl (.inl rfl) (pe_op op_cat (pe_lc (own := [("_law_other", 9)]) (g := gName 9) (tt := tB (tCall spAreT [] E0 (tCons (tVar 9) tNil))) rfl scLaw.nd (pi_list (pv 4)) (blkOk_by (N := nLaw) (sc := defScope sLaw) (by decide +kernel)) (fun _ _ _ _ _ => pg_name (i := 9) scLaw.nd rfl (Or.inl rfl))
                      (fun _ _ _ _ _ => pts_one (pt_val (pe_call GAr (hr.mono (by decide)) rfl gAr FAr.kp bAr .nil pass0 (pa_cons (pv 9) pa_nil)))) (fun _ _ _ _ _ => pv 9))
                      (pe_lst (pa_cons (pe_call GTe (hr.mono (by decide)) rfl gTe FTe.kp bTe .nil pass0 (pa_cons (pv 2) pa_nil)) (pa_cons pe_non (pa_cons (pe_tup pa_nil) (pa_cons (pe_callB rep rfl T.rep_ boot_repr (pa_cons (pv 3) pa_nil)) (pa_cons pe_int pa_nil)))))))) ?w6
                    case w6 =>
                      refine' pss_cons (ps_if (pt_not (pt_val (pe_call GAl (hr.mono (by decide)) rfl gAl FAl.kp bAl .nil pass0 (pa_cons (pv 3) (pa_cons (pe_lc (own := [("_law_other", 9)]) (g := gName 9) (tt := tAnd (tB (tCB (rIsi K) (tCons (tVar 9) (tCons (tC (.ty "tuple")) tNil)))) (tTest (tOp rEq (tCB (rLenS K) (tCons (tVar 9) tNil)) (tC (.int 4))))) rfl scLaw.nd (pi_list (pv 5)) (blkOk_by (N := nLaw) (sc := defScope sLaw) (by decide +kernel)) (fun _ _ _ _ _ => pg_name (i := 9) scLaw.nd rfl (Or.inl rfl))
                        ?flt (fun _ _ _ _ _ => pv 9)) pa_nil))))) (pss_one (ps_ret pe_bl)) pss_nil) ?w7
                      case flt =>
                        intro _ _ _ _ _
                        exact pts_one (PW.pt (pw_and (pt_val (pe_callB call_isi rfl T.isi boot_isinstance (pa_cons (pv 9) (pa_cons (pe_bltn rfl T.tup_ (by decide +kernel) (v := .ty "tuple") rfl) pa_nil)))) (pw_and1 (pt_cmpR op_eq (pe_callB call_len_seq rfl T.len_ boot_len (pa_cons (pv 9) pa_nil)) pe_int (nomark _)))))
                      case w7 =>
                        refine' pss_cons (ps_set (i := 6) scLaw.nd rfl (.inl rfl) (pe_call GMa (hr.mono (by decide)) rfl gMa FMa.kp bMa .nil passL (pa_cons (pv 3) pa_nil))) ?w8
                        case w8 =>
                          exact pss_one (ps_for PassesOwn.never rfl (pi_list (pe_lst (pa_cons pe_non (pa_cons (pe_tup pa_nil) (pa_cons (pe_callB rep rfl T.rep_ boot_repr (pa_cons (pv 3) pa_nil)) (pa_cons pe_int (pa_cons pe_bl (pa_cons (pe_lst (pa_cons (pv 6) pa_nil)) (pa_cons (pe_call GAn (hr.mono (by decide)) rfl gAn FAn.kp bAn .nil pass0 (pa_cons (pv 2) pa_nil)) pa_nil))))))))) (pg_name (i := 7) scLaw.nd rfl (Or.inl rfl))
                            (pss_one (ps_if (PW.pt (pw_or (pt_cmpR (op_eqOwnX GEx (hr.mono (by decide)) lEq iEq bEq pass0) (pv 6) (pv 7) (nomark _)) (pw_or1 (pt_not (pt_cmpR (op_neOwnX GEx (hr.mono (by decide)) lEq iEq o.ne o.ob bEq pass0) (pv 6) (pv 7) (nomark _)))))) (pss_one (ps_ret pe_bl)) pss_nil)))
      case z0 =>
        exact pss_one (ps_ret pe_bl)
    case r =>
      let Ts : List (Addr × Str) := [(Pt, qR)]
      have os : 1 ≤ sizeLine := by decide
      have t0 : LamX.Tabs [(Pt, qR)] H := by
        intro q hq
        have e : q = (Pt, qR) := by simpa using hq
        rw [e]
        exact LamX.TabS.nil hPt
      refine ⟨_, rfl, a, ns, rfl, ha, hn, fun z0 => ⟨os, fun l1 h1 => ?_⟩⟩
      have s1 := up2 (o := .lst [.int z0]) h1
      refine ⟨_, rfl, _, rfl, _, rfl, a, _, rfl, sql_same ha s1, fun l2 h2 => ?_⟩
      have s2 := up2 (o := .lst (cutV (ns.map V.int) (some 1) (some 5))) h2
      refine ⟨l1, l2, _, _, rfl, rfl, s2 _ _ upd_same, upd_same, ?_, fun l3 h3 => ?_⟩
      · have q1 := cutV_length (ns.map V.int) (some 1) (some 5)
        rw [List.length_map] at q1
        have q2 : ([V.int z0].length : Nat) = 1 := rfl
        exact Nat.le_of_lt (small1000 (by omega))
      have s3 := up2 (o := .lst ([.int z0] ++ cutV (ns.map V.int) (some 1) (some 5))) h3
      obtain ⟨H0, eH0⟩ : ∃ G, G = upd (upd (upd H l1 (.lst [.int z0])) l2 (.lst (cutV (ns.map V.int) (some 1) (some 5)))) l3 (.lst ([.int z0] ++ cutV (ns.map V.int) (some 1) (some 5))) := ⟨_, rfl⟩
      have hL0 : H0 l3 = some (.lst ([.int z0] ++ cutV (ns.map V.int) (some 1) (some 5))) := by
        rw [eH0]
        exact upd_same
      have tb0 : LamX.Tabs [(Pt, qR)] H0 := by
        rw [eH0]
        exact t0.ext (s1.trans (s2.trans s3))
      rw [← eH0]
      refine ⟨l3, rfl, ⟨_, SqL.of hL0⟩, for_list (K := K) (a := l3) (xs := [.int z0] ++ cutV (ns.map V.int) (some 1) (some 5)) (fun i σ H' => ∃ v1 v2 v3 v4 v5 v6 v7 v8 v9 : Option V, σ = [some (.ref a), v1, v2, v3, v4, v5, v6, v7, v8, v9] ∧ LamX.ExtN H0 H' ∧ LamX.Tabs [(Pt, qR)] H')
        ⟨none, none, none, none, none, none, none, none, none, rfl, LamX.ExtN.refl _, tb0⟩ (fun i σ H' _ ⟨_, _, _, _, _, _, _, _, _, _, e, _⟩ => SqL.of (e _ _ hL0 (fun _ z => by cases z))) ?_ ?_⟩
      · rintro i y σ Hi hy ⟨v1, v2, v3, v4, v5, v6, v7, v8, v9, rfl, eN, tb⟩
        obtain ⟨z, rfl⟩ := int_at hy
        refine ⟨_, rfl, z, rfl, fun p H1 hp sm1 pn1 => ?_⟩
        refine ⟨_, rfl, p, rfl, pn1, fun Tr l ls up wd sh H2 kp2 nT hT hl okl hw => ?_⟩
        have g2 : Good H2 Tr l ls up wd sh := ⟨hT, hl, okl, hw⟩
        have sI2 : Same Hi H2 := same_kp sm1 hp kp2
        -- ten bent ones
        refine ⟨_, rfl, os, fun A hA => ?_⟩
        have u3 := up2 (o := .lst [.ref Tr]) hA
        obtain ⟨H3, eH3⟩ : ∃ G, G = upd H2 A (.lst [.ref Tr]) := ⟨_, rfl⟩
        have hA3 : H3 A = some (.lst [.ref Tr]) := by
          rw [eH3]
          exact upd_same
        rw [← eH3] at u3 ⊢
        have g3 := g2.same u3
        have pn3 := pen_same kp2.pen u3
        have sI3 := sI2.trans u3
        refine ⟨10, rfl, by decide, by decide, fun D1 hD1 => lc_range (lo := 0) (n := 10) (fun i H' => ∃ acc, H' D1 = some (.lst acc) ∧ acc.length = i ∧ (∀ v ∈ acc, IsRow (fun b => b = p ∨ b = D1) H' v) ∧ Kp p H3 H')
          ⟨[], upd_same, rfl, fun v hv => (by cases hv), (Kp.refl pn3).same (up2 hD1)⟩ ?_ ?_⟩
        · rintro i H' hi ⟨acc, hD, len, rows, kp⟩
          have g' := g3.kp pn3 kp
          refine ⟨rfl, ?_⟩
          unfold tYes
          dsimp only
          rw [if_pos rfl]
          refine ⟨_, rfl, _, rfl, p, Tr, l, ls, up, wd, sh, rfl, kp.pen, g', fun R' v0 v1 v2 v3 d0 d1 d2 d3 H4 kp4 row4 => ?_⟩
          have nDp : D1 ≠ p := by
            rintro rfl
            exact pen_old pn3 hD1
          refine ⟨acc, kp4.keep _ _ hD nDp, small1000 (by omega), acc ++ [.ref R'], upd_same, by simp [len], fun v hv => ?_, ?_⟩
          · have kD : Keeps (fun b => b = p ∨ b = D1) H4 (upd H4 D1 (.lst (acc ++ [.ref R']))) := fun b o e _ n => by
              rw [upd_ne (fun z => n (.inr z))]
              exact e
            rcases List.mem_append.mp hv with z | z
            · exact ((rows v z).keep (fun b o e _ n => kp4.keep b o e (fun q => n (.inl q)))).keep kD
            · rw [List.mem_singleton.mp z]
              exact (IsRow.zed' ⟨R', v0, v1, v2, v3, d0, d1, d2, d3, rfl, row4⟩ (clear_of kp.pen hD g')).keep kD
          · refine ⟨fun b o e n => ?_, ?_⟩
            · rw [upd_ne (ne_of_none e hD1)]
              exact (kp.trans kp4).keep b o e n
            · obtain ⟨x, f, e⟩ := kp4.pen
              exact ⟨x, f, by rw [upd_ne (Ne.symm nDp)]; exact e⟩
        rintro H4 ⟨acc1, hD4, len1, rows1, kp4⟩
        have g4 := g3.kp pn3 kp4
        have nAp : A ≠ p := pen_ne pn3 hA3 (fun _ _ z => by injection z with z; injection z with _ z; cases z)
        refine ⟨A, D1, _, _, rfl, rfl, kp4.keep _ _ hA3 nAp, hD4, ?_, fun L1 hL1 => ?_⟩
        · exact Nat.le_of_lt (small1000 (by rw [len1]; show 1 + 10 ≤ 1000; decide))
        have u5 := up2 (o := .lst ([.ref Tr] ++ acc1)) hL1
        obtain ⟨H5, eH5⟩ : ∃ G, G = upd H4 L1 (.lst ([.ref Tr] ++ acc1)) := ⟨_, rfl⟩
        have hL5 : H5 L1 = some (.lst ([.ref Tr] ++ acc1)) := by
          rw [eH5]
          exact upd_same
        rw [← eH5] at u5 ⊢
        have kp5 := kp4.same u5
        have g5 := g4.same u5
        have sI5 : Same Hi H5 := same_kp sI3 hp kp5
        have pn5 := kp5.pen
        have ntp : ∀ {G : Hp} {b : Addr} {zs : List V}, Pen G p → G b = some (.tup zs) → b ≠ p := fun hp e => pen_ne hp e (fun _ _ z => by cases z)
        have all1 : ∀ v ∈ ([.ref Tr] ++ acc1 : List V), IsRow (Zp p) H5 v := by
          intro v hv
          rcases List.mem_append.mp hv with z | z
          · rw [List.mem_singleton.mp z]
            exact g5.isRow (ntp pn5 g5.at_) (ntp pn5 g5.li)
          · exact ((rows1 v z).zed' (fun b o _ n q => n (.inl q))).keep (Keeps.of u5)
        -- the first four bent once more
        refine ⟨_, rfl, _, rfl, _, rfl, L1, _, rfl, SqL.of hL5, fun S hS => ?_⟩
        have u6 := up2 (o := .lst (cutV ([.ref Tr] ++ acc1) none (some 4))) hS
        obtain ⟨H6, eH6⟩ : ∃ G, G = upd H5 S (.lst (cutV ([.ref Tr] ++ acc1) none (some 4))) := ⟨_, rfl⟩
        have hS6 : H6 S = some (.lst (([V.ref Tr] ++ acc1).take 4)) := by
          rw [eH6, upd_same, show (some (4 : Int)) = some ((4 : Nat) : Int) from rfl, cut_to]
        rw [← eH6] at u6 ⊢
        have hL6 := u6 _ _ hL5
        have pn6 := pen_same pn5 u6
        have g6 := g5.same u6
        have sI6 := sI5.trans u6
        have all6 : ∀ v ∈ ([.ref Tr] ++ acc1 : List V), IsRow (Zp p) H6 v := fun v hv => (all1 v hv).keep (Keeps.of u6)
        have nS : S ≠ p := by
          rintro rfl
          exact pen_old pn5 hS
        have nL1 : L1 ≠ p := by
          rintro rfl
          exact pen_old kp4.pen hL1
        refine ⟨S, rfl, ⟨_, SqL.of hS6⟩, fun D2 hD2 => lc_list (K := K) (a := S) (xs := ([V.ref Tr] ++ acc1).take 4) (fun i H' => ∃ acc, H' D2 = some (.lst acc) ∧ acc.length ≤ i ∧ (∀ v ∈ acc, IsRow (fun b => b = p ∨ b = D2) H' v) ∧ Kp p H6 H')
          ⟨[], upd_same, Nat.le_refl _, fun v hv => (by cases hv), (Kp.refl pn6).same (up2 hD2)⟩ (fun i H' _ ⟨_, _, _, _, kp⟩ => SqL.of (kp.keep _ _ hS6 nS)) ?_ ?_⟩
        · rintro i y H' hy ⟨acc, hD, len, rows, kp⟩
          have hyt := List.mem_of_getElem? hy
          have ilt := (List.getElem?_eq_some_iff.mp hy).1
          rw [List.length_take] at ilt
          have nDp : D2 ≠ p := by
            rintro rfl
            exact pen_old pn6 hD2
          obtain ⟨Ry, w0, w1, w2, w3, e0, e1, e2, e3, rfl, ry⟩ := ((all6 y (List.mem_of_mem_take hyt)).keep (Kp.keeps kp))
          refine ⟨rfl, _, rfl, _, Ry, w0, w1, w2, w3, e0, e1, e2, e3, rfl, ry, fun b H7 s7 hb => ⟨_, rfl, ?_⟩⟩
          refine ite2 (fun c => ?_) (fun c => ?_)
          · obtain ⟨ly, my, upy, wdy, shy, gy⟩ := good_of (ry.keep (Keeps.of s7)) (hb.mp c)
            have pn7 := pen_same kp.pen s7
            have hD7 := s7 _ _ hD
            refine ⟨_, rfl, _, rfl, p, Ry, ly, my, upy, wdy, shy, rfl, pn7, gy, fun R' v0 v1 v2 v3 d0 d1 d2 d3 H8 kp8 row8 => ?_⟩
            refine ⟨acc, kp8.keep _ _ hD7 nDp, small1000 (by omega), acc ++ [.ref R'], upd_same, by simp; omega, fun v hv => ?_, ?_⟩
            · have kD : Keeps (fun b => b = p ∨ b = D2) H8 (upd H8 D2 (.lst (acc ++ [.ref R']))) := fun b o e _ n => by
                rw [upd_ne (fun z => n (.inr z))]
                exact e
              rcases List.mem_append.mp hv with z | z
              · exact (((rows v z).keep (Keeps.of s7)).keep (fun b o e _ n => kp8.keep b o e (fun q => n (.inl q)))).keep kD
              · rw [List.mem_singleton.mp z]
                exact (IsRow.zed' ⟨R', v0, v1, v2, v3, d0, d1, d2, d3, rfl, row8⟩ (clear_of pn7 hD7 gy)).keep kD
            · have kk := (kp.same s7).trans kp8
              refine ⟨fun b o e n => ?_, ?_⟩
              · rw [upd_ne (ne_of_none e hD2)]
                exact kk.keep b o e n
              · obtain ⟨x, f, e⟩ := kp8.pen
                exact ⟨x, f, by rw [upd_ne (Ne.symm nDp)]; exact e⟩
          · exact ⟨acc, s7 _ _ hD, by omega, fun v hv => (rows v hv).keep (Keeps.of s7), kp.same s7⟩
        rintro H7 ⟨acc2, hD7, len2, rows2, kp7⟩
        rw [List.length_take] at len2
        have g7 := g6.kp pn6 kp7
        have hL7 := kp7.keep _ _ hL6 nL1
        have sI7 : Same Hi H7 := same_kp sI6 hp kp7
        obtain ⟨R3, eR3⟩ : ∃ R3 : List V, R3 = ([V.ref Tr] ++ acc1) ++ acc2 := ⟨_, rfl⟩
        have lenR3 : R3.length ≤ 15 := by
          rw [eR3, List.length_append, List.length_append, len1, List.length_singleton]
          omega
        refine ⟨L1, D2, _, _, rfl, rfl, hL7, hD7, ?_, fun L3 hL3 => ?_⟩
        · rw [eR3, List.length_append] at lenR3
          exact Nat.le_of_lt (small1000 (by omega))
        rw [← eR3]
        have u8 := up2 (o := .lst R3) hL3
        have nL3 : L3 ≠ p := by
          rintro rfl
          exact pen_old kp7.pen hL3
        have all7 : ∀ v ∈ R3, IsRow (fun b => b = p ∨ b = L3) H7 v := by
          intro v hv
          have z7 : ∀ {Z : Addr → Prop}, Z p → IsRow Z H7 v → IsRow (fun b => b = p ∨ b = L3) H7 v := fun {Z} zp r => r.zed' fun b o e n q => by
            rcases q with q | q
            · exact n (by rw [q]; exact zp)
            · rw [q, hL3] at e
              cases e
          rw [eR3] at hv
          rcases List.mem_append.mp hv with z | z
          · exact z7 (Z := Zp p) rfl ((all6 v z).keep (Kp.keeps kp7))
          · exact z7 (.inl rfl) (rows2 v z)
        obtain ⟨H8, eH8⟩ : ∃ G, G = upd H7 L3 (.lst R3) := ⟨_, rfl⟩
        have hL8 : H8 L3 = some (.lst R3) := by
          rw [eH8]
          exact upd_same
        rw [← eH8] at u8 ⊢
        -- one more row
        refine ⟨_, rfl, .inl ⟨rfl, _, SqL.of hL8⟩, (by show 4 ≤ sizeLine; decide), fun T0 hT0 => ?_⟩
        have u9 := up2 (o := .tup [.non, .bl true, .int 20, .bl false]) hT0
        obtain ⟨H9, eH9⟩ : ∃ G, G = upd H8 T0 (.tup [.non, .bl true, .int 20, .bl false]) := ⟨_, rfl⟩
        have hT9 : H9 T0 = some (.tup [.non, .bl true, .int 20, .bl false]) := by
          rw [eH9]
          exact upd_same
        rw [← eH9] at u9 ⊢
        have hL9 := u9 _ _ hL8
        refine ⟨L3, _, _, rfl, rfl, hL9, small1000 (by omega), ?_⟩
        have g9 := (g7.same u8).same u9
        have pn9 := pen_same (pen_same kp7.pen u8) u9
        obtain ⟨H10, eH10⟩ : ∃ G, G = upd H9 L3 (.lst (R3 ++ [.ref T0])) := ⟨_, rfl⟩
        have hL10 : H10 L3 = some (.lst (R3 ++ [.ref T0])) := by
          rw [eH10]
          exact upd_same
        have k10 : Keeps (fun b => b = p ∨ b = L3) H9 H10 := fun b o e _ n => by
          rw [eH10, upd_ne (fun z => n (.inr z))]
          exact e
        have sI10 : Same Hi H10 := by
          rw [eH10]
          exact same_up' ((sI7.trans u8).trans u9) (Same.free sI7 hL3)
        have pn10 : Pen H10 p := by
          obtain ⟨x, f, e⟩ := pn9
          exact ⟨x, f, by rw [eH10, upd_ne (Ne.symm nL3)]; exact e⟩
        have ntl : ∀ {b : Addr} {zs : List V}, H9 b = some (.tup zs) → b ≠ L3 := fun e z => by
          rw [z, hL9] at e
          cases e
        have k9t : ∀ {b : Addr} {zs : List V}, H9 b = some (.tup zs) → H10 b = some (.tup zs) := fun e => by
          rw [eH10, upd_ne (ntl e)]
          exact e
        have g10 : Good H10 Tr l ls up wd sh := ⟨k9t g9.at_, k9t g9.li, g9.ok, g9.w⟩
        have sm20 : Sm (.int 20) := Sm.int (by decide)
        have allR : ∀ v ∈ R3 ++ [.ref T0], IsRow (fun b => b = p ∨ b = L3) H10 v := by
          intro v hv
          rcases List.mem_append.mp hv with z | z
          · exact (((all7 v z).keep (Keeps.of u8)).keep (Keeps.of u9)).keep k10
          · rw [List.mem_singleton.mp z]
            refine ⟨T0, _, _, _, _, _, _, _, _, rfl, ⟨k9t hT9, fun q => ?_, .non, .bl true, .int 20, .bl false, Sm.non, Sm.bl _, sm20, Sm.bl _, by decide +kernel⟩⟩
            rcases q with q | q
            · exact ntp pn9 hT9 q
            · exact ntl hT9 q
        rw [← eH10]
        have lenR : (R3 ++ [V.ref T0]).length ≤ 16 := by
          rw [List.length_append, List.length_singleton]
          omega
        obtain ⟨RR, eRR⟩ : ∃ RR : List V, RR = R3 ++ [V.ref T0] := ⟨_, rfl⟩
        rw [← eRR] at hL10 allR lenR
        have tb10 : LamX.Tabs [(Pt, qR)] H10 := tb.ext sI10
        -- each by itself
        refine ⟨_, rfl, L3, rfl, ⟨_, SqL.of hL10⟩, fun D4 hD4 => lc_list (K := K) (a := L3) (xs := RR) (fun i H' => LamX.ExtN H10 H' ∧ LamX.Tabs [(Pt, qR)] H' ∧ H' D4 = some (.lst ((List.replicate i true).map V.bl)))
          ⟨extN_same (up2 hD4), tb10.ext (up2 hD4), upd_same⟩ (fun i H' _ ⟨e, _, _⟩ => SqL.of (e _ _ hL10 (fun _ z => by cases z))) ?_ ?_⟩
        · rintro i y H' hy ⟨e', tb', hD⟩
          have ilt := (List.getElem?_eq_some_iff.mp hy).1
          obtain ⟨Ry, w0, w1, w2, w3, e0, e1, e2, e3, rfl, ry⟩ := allR y (List.mem_of_getElem? hy)
          refine ⟨rfl, ?_⟩
          unfold tYes
          dsimp only
          rw [if_pos rfl]
          refine ⟨_, rfl, _, Ry, w0, w1, w2, w3, e0, e1, e2, e3, rfl, ry.keep (Keeps.ext e'), tb', fun H2' en2 tb2 => ?_⟩
          have hD2 := en2 _ _ hD (fun _ z => by cases z)
          refine ⟨_, hD2, small1000 (by simp; omega), ?_, ?_, ?_⟩
          · intro b o eb n
            rw [upd_ne (ne_of_none eb hD4)]
            exact en2 _ _ (e' _ _ eb n) n
          · refine tabs_at tb2 fun b o eb n => ?_
            by_cases z : b = D4
            · rw [z, hD2] at eb
              exact absurd (Option.some.inj eb).symm (n _)
            · rw [upd_ne z]
              exact eb
          · rw [upd_same, List.replicate_succ', List.map_append]
            rfl
        rintro H11 ⟨e11, tb11, hD11⟩
        refine ⟨D4, _, rfl, SqL.of hD11, _, rfl, ?_⟩
        have et : (List.replicate RR.length true).all id = true := by simp
        rw [et]
        refine iteF ?_
        have eI11 : LamX.ExtN Hi H11 := (extN_same sI10).trans e11
        have hL11 := e11 _ _ hL10 (fun _ z => by cases z)
        have all11 : ∀ v ∈ RR, IsRow (fun b => b = p ∨ b = L3) H11 v := fun v hv => (allR v hv).keep (Keeps.ext e11)
        have g11 : Good H11 Tr l ls up wd sh := ⟨e11 _ _ g10.at_ (fun _ z => by cases z), e11 _ _ g10.li (fun _ z => by cases z), g10.ok, g10.w⟩
        have pn11 : Pen H11 p := by
          obtain ⟨x, f, e⟩ := pn10
          exact ⟨x, f, e11 _ _ e (fun _ z => by cases z)⟩
        -- the good ones, and others
        refine ⟨_, rfl, L3, rfl, ⟨_, SqL.of hL11⟩, fun D5 hD5 => lc_list (K := K) (a := L3) (xs := RR) (fun i H' => Same H11 H' ∧ ∃ acc, H' D5 = some (.lst acc) ∧ acc.length ≤ i ∧ ∀ v ∈ acc, IsGood H' v)
          ⟨up2 hD5, [], upd_same, Nat.le_refl _, fun v hv => by cases hv⟩ (fun i H' _ ⟨s', _⟩ => SqL.of (s' _ _ hL11)) ?_ ?_⟩
        · rintro i y H' hy ⟨s', acc, hD, len, gs⟩
          have ilt := (List.getElem?_eq_some_iff.mp hy).1
          obtain ⟨Ry, w0, w1, w2, w3, e0, e1, e2, e3, rfl, ry⟩ := (all11 y (List.mem_of_getElem? hy)).keep (Keeps.of s')
          refine ⟨rfl, _, rfl, _, Ry, w0, w1, w2, w3, e0, e1, e2, e3, rfl, ry, fun b H7' s7' hb => ⟨_, rfl, ?_⟩⟩
          refine ite2 (fun c => ?_) (fun c => ?_)
          · obtain ⟨ly, my, upy, wdy, shy, gy⟩ := good_of (ry.keep (Keeps.of s7')) (hb.mp c)
            have hDs := s7' _ _ hD
            refine ⟨_, rfl, acc, hDs, small1000 (by omega), same_upd (s'.trans s7') hD5, acc ++ [.ref Ry], upd_same, by simp; omega, fun v hv => ?_⟩
            rcases List.mem_append.mp hv with z | z
            · exact isGood_upd ((gs v z).same s7') hDs
            · rw [List.mem_singleton.mp z]
              exact isGood_upd ⟨Ry, ly, my, upy, wdy, shy, rfl, gy⟩ hDs
          · exact ⟨s'.trans s7', acc, s7' _ _ hD, by omega, fun v hv => (gs v hv).same s7'⟩
        rintro H12 ⟨s12, acc5, hD12, len5, gs5⟩
        have g12 := g11.same s12
        have pn12 := pen_same pn11 s12
        have e12 := eI11.trans (extN_same s12)
        have tb12 := tb11.ext s12
        refine ⟨_, rfl, p, rfl, pn12, fun T6 l6 ns6 up6 wd6 sh6 H13 kp13 nT6 hT6 hl6 ok6 hw6 => ?_⟩
        have g6' : Good H13 T6 l6 ns6 up6 wd6 sh6 := ⟨hT6, hl6, ok6, hw6⟩
        have g13 := g12.kp pn12 kp13
        have e13 := extN_kp e12 hp kp13
        have tb13 := tabs_kp tb12 pn12 kp13
        have nD5 : D5 ≠ p := by
          rintro rfl
          exact pen_old pn11 hD5
        have hD13 := kp13.keep _ _ hD12 nD5
        have gs13 : ∀ v ∈ acc5, IsGood H13 v := fun v hv => by
          obtain ⟨Rv, lv, mv, upv, wdv, shv, ev, gv⟩ := gs5 v hv
          exact ⟨Rv, lv, mv, upv, wdv, shv, ev, gv.kp pn12 kp13⟩
        refine ⟨Nat.zero_le _, fun t7 ht7 => ?_⟩
        have u14 := up2 (o := .tup []) ht7
        have r14 := (g13.same u14).row
        obtain ⟨x1, x2, x3, x4⟩ := row_shown r14.s0 r14.s1 r14.s2 r14.s3 r14.one
        refine ⟨_, rfl, _, _, _, rfl, row_da r14, x1, x2, x3, x4, ?_⟩
        refine ⟨(by show 5 ≤ sizeLine; decide), fun B hB => ?_⟩
        obtain ⟨zt, ezt⟩ : ∃ zt : Str, zt = (PyData.tuple [.tuple (ls.map PyData.int), .bool up, .int wd, .bool sh]).shown := ⟨_, rfl⟩
        have u15 := up2 (o := .lst [.ref T6, .non, .ref t7, .str zt, .int 20]) hB
        rw [← ezt]
        have u145 := u14.trans u15
        refine ⟨D5, B, _, _, rfl, rfl, u145 _ _ hD13, upd_same, ?_, fun S5 hS5 => ?_⟩
        · exact Nat.le_of_lt (small1000 (by show acc5.length + 5 ≤ 1000; omega))
        have u16 := up2 (o := .lst (acc5 ++ [.ref T6, .non, .ref t7, .str zt, .int 20])) hS5
        have u146 := u145.trans u16
        obtain ⟨H14, eH14⟩ : ∃ G, G = upd (upd (upd H13 t7 (.tup [])) B (.lst [.ref T6, .non, .ref t7, .str zt, .int 20])) S5 (.lst (acc5 ++ [.ref T6, .non, .ref t7, .str zt, .int 20])) := ⟨_, rfl⟩
        have hS14 : H14 S5 = some (.lst (acc5 ++ [.ref T6, .non, .ref t7, .str zt, .int 20])) := by
          rw [eH14]
          exact upd_same
        have ht14 := (u15.trans u16) _ _ (upd_same (H := H13) (a := t7) (o := .tup []))
        rw [← eH14] at u146 ht14 ⊢
        have g14 := g13.same u146
        have lenS : (acc5 ++ [.ref T6, .non, .ref t7, .str zt, .int 20] : List V).length ≤ 30 := by
          rw [List.length_append]
          show acc5.length + 5 ≤ 30
          omega
        have kinds : ∀ v ∈ (acc5 ++ [.ref T6, .non, .ref t7, .str zt, .int 20] : List V), IsGood H14 v ∨ v = .non ∨ v = .ref t7 ∨ v = .str zt ∨ v = .int 20 := by
          intro v hv
          rcases List.mem_append.mp hv with z | z
          · exact .inl ((gs13 v z).same u146)
          · simp only [List.mem_cons, List.not_mem_nil, or_false] at z
            rcases z with rfl | z
            · exact .inl ⟨T6, l6, ns6, up6, wd6, sh6, rfl, g6'.same u146⟩
            · exact .inr z
        obtain ⟨SS, eSS⟩ : ∃ SS : List V, SS = acc5 ++ [.ref T6, .non, .ref t7, .str zt, .int 20] := ⟨_, rfl⟩
        rw [← eSS] at hS14 kinds lenS
        have e14 := e13.trans (extN_same u146)
        have tb14 := tb13.ext u146
        have pn14 := pen_same kp13.pen u146
        -- compared
        refine ⟨_, rfl, _, rfl, S5, rfl, ⟨_, SqL.of hS14⟩, fun D7 hD7 => lc_list (K := K) (a := S5) (xs := SS) (fun i H' => Same H14 H' ∧ ∃ acc, H' D7 = some (.lst acc) ∧ acc.length ≤ i ∧ ∀ v ∈ acc, IsGood H' v)
          ⟨up2 hD7, [], upd_same, Nat.le_refl _, fun v hv => by cases hv⟩ (fun i H' _ ⟨s', _⟩ => SqL.of (s' _ _ hS14)) ?_ ?_⟩
        · rintro i y H' hy ⟨s', acc, hD, len, gs⟩
          have ilt := (List.getElem?_eq_some_iff.mp hy).1
          have ky := kinds y (List.mem_of_getElem? hy)
          rcases ky with gy | rfl | rfl | rfl | rfl
          · obtain ⟨Ry, ly, my, upy, wdy, shy, rfl, gy0⟩ := gy
            have gy := gy0.same s'
            refine ⟨rfl, _, rfl, _, _, _, _, _, rfl, .ty "tuple", .base (.tup gy.at_), kit_ty (by decide +kernel), _, rfl, iteT ?_⟩
            refine ⟨_, rfl, Ry, _, rfl, .inr (SqT.of gy.at_), rfl, _, rfl, ?_⟩
            refine iteT ?_
            refine ⟨_, rfl, acc, hD, small1000 (by omega), same_upd s' hD7, acc ++ [.ref Ry], upd_same, by simp; omega, fun v hv => ?_⟩
            rcases List.mem_append.mp hv with z | z
            · exact isGood_upd (gs v z) hD
            · rw [List.mem_singleton.mp z]
              exact isGood_upd ⟨Ry, ly, my, upy, wdy, shy, rfl, gy⟩ hD
          · refine ⟨rfl, _, rfl, _, _, _, _, _, rfl, .ty "tuple", .base .non, kit_ty (by decide +kernel), _, rfl, iteF ?_⟩
            exact iteF ⟨s', acc, hD, by omega, gs⟩
          · refine ⟨rfl, _, rfl, _, _, _, _, _, rfl, .ty "tuple", .base (.tup (s' _ _ ht14)), kit_ty (by decide +kernel), _, rfl, iteT ?_⟩
            refine ⟨_, rfl, t7, _, rfl, .inr (SqT.of (s' _ _ ht14)), rfl, _, rfl, ?_⟩
            exact iteF ⟨s', acc, hD, by omega, gs⟩
          · refine ⟨rfl, _, rfl, _, _, _, _, _, rfl, .ty "tuple", .base (.str zt), kit_ty (by decide +kernel), _, rfl, iteF ?_⟩
            exact iteF ⟨s', acc, hD, by omega, gs⟩
          · refine ⟨rfl, _, rfl, _, _, _, _, _, rfl, .ty "tuple", .base (.int 20), kit_ty (by decide +kernel), _, rfl, iteF ?_⟩
            exact iteF ⟨s', acc, hD, by omega, gs⟩
        rintro H15 ⟨s15, acc7, hD15, len7, gs15⟩
        have g15 := g14.same s15
        refine ⟨Tr, l, D7, ls, up, wd, sh, acc7, rfl, g15, hD15, gs15, fun H16 s16 => ⟨_, rfl, iteF ?_⟩⟩
        have g16 := g15.same s16
        refine ⟨_, rfl, _, Tr, _, _, _, _, _, _, _, _, rfl, g16.row, made_yes fun x lx H17 s17 hx at17 => ?_, fun nt => absurd g16.terms nt⟩
        have g17 := g16.same s17
        have s147 := (s15.trans s16).trans s17
        have pn17 := pen_same pn14 s147
        -- beside things of other kinds
        refine ⟨Nat.zero_le _, fun t8 ht8 => ?_⟩
        have u18 := up2 (o := .tup []) ht8
        obtain ⟨H18, eH18⟩ : ∃ G, G = upd H17 t8 (.tup []) := ⟨_, rfl⟩
        have ht18 : H18 t8 = some (.tup []) := by
          rw [eH18]
          exact upd_same
        rw [← eH18] at u18 ⊢
        have r18 := (g17.same u18).row
        obtain ⟨y1, y2, y3, y4⟩ := row_shown r18.s0 r18.s1 r18.s2 r18.s3 r18.one
        refine ⟨_, rfl, _, _, _, rfl, row_da r18, y1, y2, y3, y4, ?_⟩
        rw [← ezt]
        refine ⟨_, rfl, os, fun A9 hA9 => ?_⟩
        have u19 := up2 (o := .lst [.ref x]) hA9
        obtain ⟨H19, eH19⟩ : ∃ G, G = upd H18 A9 (.lst [.ref x]) := ⟨_, rfl⟩
        have hA19 : H19 A9 = some (.lst [.ref x]) := by
          rw [eH19]
          exact upd_same
        rw [← eH19] at u19 ⊢
        have u189 := u18.trans u19
        have pn19 := pen_same pn17 u189
        refine ⟨_, rfl, p, rfl, pn19, fun va da H20 kp20 hva sva => ?_⟩
        have n8 : t8 ≠ p := by
          rintro rfl
          exact pen_old pn17 ht8
        have n9 : A9 ≠ p := pen_ne pn19 hA19 (fun _ _ z => by injection z with z; injection z with _ z; cases z)
        refine ⟨(by show 7 ≤ sizeLine; decide), fun B2 hB2 => ?_⟩
        have u21 := up2 (o := .lst [.non, .ref t8, .str zt, .int 20, .bl true, .ref A9, va]) hB2
        obtain ⟨H21, eH21⟩ : ∃ G, G = upd H20 B2 (.lst [.non, .ref t8, .str zt, .int 20, .bl true, .ref A9, va]) := ⟨_, rfl⟩
        have hB21 : H21 B2 = some (.lst [.non, .ref t8, .str zt, .int 20, .bl true, .ref A9, va]) := by
          rw [eH21]
          exact upd_same
        rw [← eH21] at u21 ⊢
        have ht21 := u21 _ _ (kp20.keep _ _ (u19 _ _ ht18) n8)
        have hA21 := u21 _ _ (kp20.keep _ _ hA19 n9)
        have sD : ∀ {b : Addr} {o : HO}, H17 b = some o → (∀ a f : Int, o ≠ .lst [.int a, .int f]) → H21 b = some o := fun {b o} e n => u21 _ _ (kp20.keep _ _ (u189 _ _ e) (pen_ne pn17 e n))
        obtain ⟨dx, hx17⟩ := at17.ob
        have hx21 := sD hx17 (fun _ _ z => by cases z)
        have e14 : LamX.ExtN Hi H14 := e14
        have e19 : LamX.ExtN Hi H19 := (e14.trans (extN_same s147)).trans (extN_same u189)
        have ex21 : LamX.ExtN H0 H21 := eN.trans ((extN_kp e19 hp kp20).trans (extN_same u21))
        have tb21 : LamX.Tabs [(Pt, qR)] H21 := (tabs_kp ((tb14.ext s147).ext u189) pn19 kp20).ext u21
        have bts : ∀ v ∈ ([.non, .ref t8, .str zt, .int 20, .bl true, .ref A9, va] : List V), Bt H21 v := by
          intro v hv
          simp only [List.mem_cons, List.not_mem_nil, or_false] at hv
          rcases hv with rfl | rfl | rfl | rfl | rfl | rfl | rfl
          · exact .inl ⟨fun _ => False, _, .non⟩
          · exact .inl ⟨fun _ => False, _, .tup ht21 (fun z => z) .nil⟩
          · exact .inl ⟨fun _ => False, _, .str zt⟩
          · exact .inl ⟨fun _ => False, _, .int 20⟩
          · exact .inl ⟨fun _ => False, _, .bl true⟩
          · exact .inr ⟨A9, _, rfl, hA21⟩
          · exact .inl ⟨_, _, (hva.keep (Keeps.of u21))⟩
        refine ⟨B2, rfl, ⟨_, SqL.of hB21⟩, for_list (K := K) (a := B2) (xs := [.non, .ref t8, .str zt, .int 20, .bl true, .ref A9, va]) (fun i σ H' => ∃ v7 : Option V, σ = [some (.ref a), some (.int z), some (.ref p), some (.ref Tr), some (.ref L3), some (.ref S5), some (.ref x), v7, v8, v9] ∧ H' = H21)
          ⟨v7, rfl, rfl⟩ (fun i σ H' _ ⟨_, _, e⟩ => by rw [e]; exact SqL.of hB21) ?_ ?_⟩
        · rintro i y σ H' hy ⟨v7, rfl, rfl⟩
          have bt := bts y (List.mem_of_getElem? hy)
          refine ⟨_, rfl, _, rfl, x, dx, _, rfl, hx21, bt, x, y, rfl, bt, false, rfl, _, rfl, iteF ?_⟩
          refine ⟨_, rfl, _, rfl, x, dx, _, rfl, hx21, bt, x, y, rfl, bt, false, rfl, _, rfl, ?_⟩
          exact iteF ⟨_, rfl, rfl⟩
        · rintro σ H' ⟨v7, rfl, rfl⟩
          exact ⟨_, _, _, _, _, _, _, _, _, rfl, ex21, tb21⟩
      · rintro σ Hi ⟨v1, v2, v3, v4, v5, v6, v7, v8, v9, rfl, eN, tb⟩
        exact back _
end
end K2
set_option Elab.async false
set_option linter.all false
set_option maxRecDepth 100000
set_option maxHeartbeats 0
namespace K2
open PySem PySem.Spec PyProof.Rows L2 Bb
/-! the head: facts by names, the run -/
def d_is_number : He.DefD := ⟨("is_number", none), "is_number", "is_number", defArgs sIsNum, defBody sIsNum, defScope sIsNum, [], []⟩
def d_is_number_from : He.DefD := ⟨("is_number_from", none), "is_number_from", "is_number_from", defArgs sFrom, defBody sFrom, defScope sFrom, [], []⟩
def d_is_wind : He.DefD := ⟨("is_wind", none), "is_wind", "is_wind", defArgs sIsWind, defBody sIsWind, defScope sIsWind, [], []⟩
def d_are_limits : He.DefD := ⟨("are_limits", none), "are_limits", "are_limits", defArgs sAre, defBody sAre, defScope sAre, [], []⟩
def d__law_cell : He.DefD := ⟨("_law_cell", none), "_law_cell", "_law_cell", defArgs sCell, defBody sCell, defScope sCell, [], []⟩
def d__law_pen : He.DefD := ⟨("_law_pen", none), "_law_pen", "_law_pen", defArgs sPen, defBody sPen, defScope sPen, [], []⟩
def d__law_draw : He.DefD := ⟨("_law_draw", none), "_law_draw", "_law_draw", defArgs sDraw, defBody sDraw, defScope sDraw, [], []⟩
def d__law_pick : He.DefD := ⟨("_law_pick", none), "_law_pick", "_law_pick", defArgs sPick, defBody sPick, defScope sPick, [], []⟩
def d__law_kind : He.DefD := ⟨("_law_kind", none), "_law_kind", "_law_kind", defArgs sKind, defBody sKind, defScope sKind, [], []⟩
def d__law_came : He.DefD := ⟨("_law_came", none), "_law_came", "_law_came", defArgs sCame, defBody sCame, defScope sCame, [], []⟩
def d__law_anything : He.DefD := ⟨("_law_anything", none), "_law_anything", "_law_anything", defArgs sAny, defBody sAny, defScope sAny, [], []⟩
def d__law_odd : He.DefD := ⟨("_law_odd", none), "_law_odd", "_law_odd", defArgs sOdd, defBody sOdd, defScope sOdd, [], []⟩
def d__law_number : He.DefD := ⟨("_law_number", none), "_law_number", "_law_number", defArgs sNum, defBody sNum, defScope sNum, [], []⟩
def d__law_terms : He.DefD := ⟨("_law_terms", none), "_law_terms", "_law_terms", defArgs sTerms, defBody sTerms, defScope sTerms, [], []⟩
def d__law_are_terms : He.DefD := ⟨("_law_are_terms", none), "_law_are_terms", "_law_are_terms", defArgs sAreT, defBody sAreT, defScope sAreT, [], []⟩
def d__law_made : He.DefD := ⟨("_law_made", none), "_law_made", "_law_made", defArgs sMade, defBody sMade, defScope sMade, [], []⟩
def d__law_text : He.DefD := ⟨("_law_text", none), "_law_text", "_law_text", defArgs sText, defBody sText, defScope sText, [], []⟩
def d__law_bent : He.DefD := ⟨("_law_bent", none), "_law_bent", "_law_bent", defArgs sBent, defBody sBent, defScope sBent, [], []⟩
def d__law_all_right : He.DefD := ⟨("_law_all_right", none), "_law_all_right", "_law_all_right", defArgs sRight, defBody sRight, defScope sRight, [], []⟩
def d__law_alike : He.DefD := ⟨("_law_alike", none), "_law_alike", "_law_alike", defArgs sAlike, defBody sAlike, defScope sAlike, [], []⟩
def d_law : He.DefD := ⟨("law", none), "law", "law", defArgs sLaw, defBody sLaw, defScope sLaw, [], []⟩
def d_Rules___init__ : He.DefD := ⟨("Rules", some "__init__"), "__init__", "Rules.__init__", defArgs sInit, defBody sInit, defScope sInit, [.non, .bl true, .int 20, .bl true], []⟩
def d_Rules___eq__ : He.DefD := ⟨("Rules", some "__eq__"), "__eq__", "Rules.__eq__", defArgs sEq, defBody sEq, defScope sEq, [], []⟩
def d_Rules___len__ : He.DefD := ⟨("Rules", some "__len__"), "__len__", "Rules.__len__", defArgs sLen, defBody sLen, defScope sLen, [], []⟩
def d_Rules___repr__ : He.DefD := ⟨("Rules", some "__repr__"), "__repr__", "Rules.__repr__", defArgs sRepr, defBody sRepr, defScope sRepr, [], []⟩
def hfn : List He.DefD := ([d_is_number, d_is_number_from, d_is_wind, d_are_limits, d__law_cell, d__law_pen, d__law_draw, d__law_pick, d__law_kind, d__law_came, d__law_anything, d__law_odd, d__law_number, d__law_terms, d__law_are_terms, d__law_made, d__law_text, d__law_bent, d__law_all_right, d__law_alike] : List He.DefD) ++ ([d_law, d_Rules___init__, d_Rules___eq__, d_Rules___len__, d_Rules___repr__] : List He.DefD)
def hfa : List He.Fa := ([.glo "is_number", .glo "is_number_from", .glo "is_wind", .glo "are_limits", .glo "_law_cell", .glo "_law_pen", .glo "_law_draw", .glo "_law_pick", .glo "_law_kind", .glo "_law_came", .glo "_law_anything", .glo "_law_odd", .glo "_law_number", .glo "_law_terms", .glo "_law_are_terms", .glo "_law_made", .glo "_law_text", .glo "_law_bent", .glo "_law_all_right", .glo "_law_alike"] : List He.Fa) ++ ([.glo "law", .glo "NoMark", .glo "NoWay", .glo "NoRules", .glo "NoAge", .glo "NoPerson", .glo "NoDay", .glo "NoDeed", .glo "NoSheet", .glo "NoWord", .glo "NoBook", .glo "NoText", .glo "NoName", .glo "ClubError", .glo "NoPlace", .glo "Rules", .free "isinstance", .free "int", .free "bool", .free "tuple"] : List He.Fa) ++ ([.free "list", .free "len", .free "all", .free "zip", .free "range", .free "enumerate", .free "sorted", .free "repr", .free "ValueError", .free "LookupError", .free "set", .int "MOST_LIMITS" 4, .int "LEAST_LIMIT" 1, .int "MOST_LIMIT" 99, .int "MOST_WIND" 99, .cls "Rules", .noat "Rules" "limits", .noat "Rules" "up", .noat "Rules" "wind", .noat "Rules" "shares"] : List He.Fa) ++ ([.meth "Rules" "__len__", .meth "Rules" "__eq__", .meth "Rules" "__repr__", .mkr "Rules", .exc "NoRules", .exm "NoRules" "ClubError" true] : List He.Fa)
def htf : List He.Defn := [("_law_all_right", none)]
def excB (K : PySem.W.Frag) (D : Addr) : Bool :=
  He.eqO (PySem.W.findIn K (.ref D) "__getattribute__") (some (some (.builtin "BaseException.__getattribute__"))) && (He.eqO (PySem.W.findIn K (.ref D) "__getattr__") (some none) && (decide (PySem.W.subIn K (.ref D) (.type "BaseException") = some true) && (PySem.W.hasDictIn K D &&
  (He.eqO (PySem.W.findIn K (.ref D) "__class__") (some (some (.builtin "object.__class__"))) && (He.eqO (PySem.W.specialIn K (.builtin "object.__class__") "__get__") (some (some (.builtin "getset_descriptor.__get__"))) && (decide (PySem.W.takesIn K (.builtin "object.__class__") = some true) && decide (PySem.W.mroIn K D (.type "object") = some true)))))))
theorem excB_ok {K : PySem.W.Frag} {D : Addr} (h : excB K D = true) : ExcC K D := by
  obtain ⟨h1, h⟩ := He.ba h
  obtain ⟨h2, h⟩ := He.ba h
  obtain ⟨h3, h⟩ := He.ba h
  obtain ⟨h4, h⟩ := He.ba h
  obtain ⟨h5, h⟩ := He.ba h
  obtain ⟨h6, h⟩ := He.ba h
  obtain ⟨h7, h8⟩ := He.ba h
  exact ⟨He.eqO_ok h1, He.eqO_ok h2, of_decide_eq_true h3, h4, He.eqO_ok h5, He.eqO_ok h6, of_decide_eq_true h7, of_decide_eq_true h8⟩
/-- the class D of errors is the j-th of the law's -/
def kdB (K : PySem.W.Frag) (D : Addr) (j : Nat) : Bool :=
  (List.range 12).all (fun i => decide (PySem.W.kitOne K (.ref D) (.ref (He.ga K (kOrd.getD i ""))) = some (decide (i = j)))) && (decide (PySem.W.kitOne K (.ref D) (.type "ValueError") = some true) && (decide (PySem.W.kitOne K (.ref D) (.type "LookupError") = some false) && excB K D))
def insB (K : PySem.W.Frag) (C : Addr) : Bool :=
  He.eqO (PySem.W.findIn K (.ref C) "__class__") (some (some (.builtin "object.__class__"))) && (He.eqO (PySem.W.specialIn K (.builtin "object.__class__") "__get__") (some (some (.builtin "getset_descriptor.__get__"))) && (decide (PySem.W.takesIn K (.builtin "object.__class__") = some true) && (decide (PySem.W.mroIn K C (.type "object") = some true) &&
  (decide (PySem.W.kitOne K (.ref C) (.ref C) = some true) && (He.eqO (PySem.W.findIn K (.ref C) "__ne__") (some (some (.builtin "object.__ne__"))) && (decide (PySem.W.subIn K (.ref C) (.type "object") = some true) &&
  (decide (PySem.W.subIn K (.ref C) (.type "NoneType") = some false) && tyNames.all (fun n => decide (PySem.W.kitOne K (.type n) (.ref C) = some false)))))))))
def hex (K : PySem.W.Frag) : Bool := kdB K (He.ga K "NoRules") 2 && insB K (He.ga K "Rules")
abbrev R : PySem.W.OpenRow := PySem.W.OpenLaw.row PySem.Challenge.rw_bestsbook_k02_rules_made_and_shown
abbrev hk : PySem.W.Hook := He.hookX 5 hfa hfn [] htf hex
def ob (s : PySem.W.SharedT) : He.AlX := He.obsX 5 hfa hfn [] htf hex (HandSHeadRun.getT s)
theorem ob_eq (s : PySem.W.SharedT) : ob s = hk.obs s.abs := He.obsX_eq (HandSHeadRun.getT_eq s)
def loose : List Str := (["_wall", "ClubError", "NoPlace", "NoMark", "NoWay", "NoRules", "NoAge", "NoPerson", "NoDay", "NoDeed", "NoSheet", "NoWord", "NoName", "NoBook", "NoText", "MOST_WIND", "is_number", "is_number_from", "is_wind", "MOST_LIMITS"] : List Str) ++ (["LEAST_LIMIT", "MOST_LIMIT", "are_limits", "Rules", "_law_cell", "_law_pen", "_law_draw", "_law_pick", "_law_kind", "_law_came", "_law_anything", "_law_odd", "_law_number", "_law_terms", "_law_are_terms", "_law_made", "_law_text", "_law_bent", "_law_all_right", "_law_alike"] : List Str)
theorem run (w : World) : HandSHeadRun.RunEq R (PySem.W.view R.prog [44]) hk ob 6000 loose w := by
  intro os
  kernel_rfl
end K2
set_option Elab.async false
set_option linter.all false
set_option maxRecDepth 100000
set_option maxHeartbeats 0
namespace K2
open PySem PySem.Spec PyProof.Rows L2 Bb
section
variable {K : PySem.W.Frag} {h : Heap} {mg : Str → Option Value}
abbrev SD (K : PySem.W.Frag) : Prop := He.SaysD hfa hfn K
theorem z_free (X : K.In h) (G : h.Ns mainGlobals mg) (c : SD K) : Free mg := ⟨(He.free_ok X G (c.fact 36 (f := .free "isinstance") rfl)), (He.free_ok X G (c.fact 37 (f := .free "int") rfl)), (He.free_ok X G (c.fact 38 (f := .free "bool") rfl)), (He.free_ok X G (c.fact 39 (f := .free "tuple") rfl)), (He.free_ok X G (c.fact 40 (f := .free "list") rfl)), (He.free_ok X G (c.fact 41 (f := .free "len") rfl)), (He.free_ok X G (c.fact 42 (f := .free "all") rfl)), (He.free_ok X G (c.fact 43 (f := .free "zip") rfl)), (He.free_ok X G (c.fact 44 (f := .free "range") rfl)), (He.free_ok X G (c.fact 45 (f := .free "enumerate") rfl)), (He.free_ok X G (c.fact 46 (f := .free "sorted") rfl)), (He.free_ok X G (c.fact 47 (f := .free "repr") rfl)), (He.free_ok X G (c.fact 48 (f := .free "ValueError") rfl)), (He.free_ok X G (c.fact 49 (f := .free "LookupError") rfl))⟩
theorem z_cons (X : K.In h) (G : h.Ns mainGlobals mg) (c : SD K) : Cons mg := ⟨He.int_ok X G (c.fact 51 (f := .int "MOST_LIMITS" 4) rfl), He.int_ok X G (c.fact 52 (f := .int "LEAST_LIMIT" 1) rfl), He.int_ok X G (c.fact 53 (f := .int "MOST_LIMIT" 99) rfl), He.int_ok X G (c.fact 54 (f := .int "MOST_WIND" 99) rfl)⟩
theorem z_is_number (X : K.In h) (G : h.Ns mainGlobals mg) (c : SD K) : ∃ a d, Fn K "is_number" "is_number" sIsNum a d ∧ mg "is_number" = some (.ref a) := by
  obtain ⟨fd, F⟩ := c.def_ 0 (d := d_is_number) rfl
  exact ⟨_, fd, F, (He.glo_ok X G (c.fact 0 (f := .glo "is_number") rfl))⟩
theorem z_is_number_from (X : K.In h) (G : h.Ns mainGlobals mg) (c : SD K) : ∃ a d, Fn K "is_number_from" "is_number_from" sFrom a d ∧ mg "is_number_from" = some (.ref a) := by
  obtain ⟨fd, F⟩ := c.def_ 1 (d := d_is_number_from) rfl
  exact ⟨_, fd, F, (He.glo_ok X G (c.fact 1 (f := .glo "is_number_from") rfl))⟩
theorem z_is_wind (X : K.In h) (G : h.Ns mainGlobals mg) (c : SD K) : ∃ a d, Fn K "is_wind" "is_wind" sIsWind a d ∧ mg "is_wind" = some (.ref a) := by
  obtain ⟨fd, F⟩ := c.def_ 2 (d := d_is_wind) rfl
  exact ⟨_, fd, F, (He.glo_ok X G (c.fact 2 (f := .glo "is_wind") rfl))⟩
theorem z_are_limits (X : K.In h) (G : h.Ns mainGlobals mg) (c : SD K) : ∃ a d, Fn K "are_limits" "are_limits" sAre a d ∧ mg "are_limits" = some (.ref a) := by
  obtain ⟨fd, F⟩ := c.def_ 3 (d := d_are_limits) rfl
  exact ⟨_, fd, F, (He.glo_ok X G (c.fact 3 (f := .glo "are_limits") rfl))⟩
theorem z__law_cell (X : K.In h) (G : h.Ns mainGlobals mg) (c : SD K) : ∃ a d, Fn K "_law_cell" "_law_cell" sCell a d ∧ mg "_law_cell" = some (.ref a) := by
  obtain ⟨fd, F⟩ := c.def_ 4 (d := d__law_cell) rfl
  exact ⟨_, fd, F, (He.glo_ok X G (c.fact 4 (f := .glo "_law_cell") rfl))⟩
theorem z__law_pen (X : K.In h) (G : h.Ns mainGlobals mg) (c : SD K) : ∃ a d, Fn K "_law_pen" "_law_pen" sPen a d ∧ mg "_law_pen" = some (.ref a) := by
  obtain ⟨fd, F⟩ := c.def_ 5 (d := d__law_pen) rfl
  exact ⟨_, fd, F, (He.glo_ok X G (c.fact 5 (f := .glo "_law_pen") rfl))⟩
theorem z__law_draw (X : K.In h) (G : h.Ns mainGlobals mg) (c : SD K) : ∃ a d, Fn K "_law_draw" "_law_draw" sDraw a d ∧ mg "_law_draw" = some (.ref a) := by
  obtain ⟨fd, F⟩ := c.def_ 6 (d := d__law_draw) rfl
  exact ⟨_, fd, F, (He.glo_ok X G (c.fact 6 (f := .glo "_law_draw") rfl))⟩
theorem z__law_pick (X : K.In h) (G : h.Ns mainGlobals mg) (c : SD K) : ∃ a d, Fn K "_law_pick" "_law_pick" sPick a d ∧ mg "_law_pick" = some (.ref a) := by
  obtain ⟨fd, F⟩ := c.def_ 7 (d := d__law_pick) rfl
  exact ⟨_, fd, F, (He.glo_ok X G (c.fact 7 (f := .glo "_law_pick") rfl))⟩
theorem z__law_kind (X : K.In h) (G : h.Ns mainGlobals mg) (c : SD K) : ∃ a d, Fn K "_law_kind" "_law_kind" sKind a d ∧ mg "_law_kind" = some (.ref a) := by
  obtain ⟨fd, F⟩ := c.def_ 8 (d := d__law_kind) rfl
  exact ⟨_, fd, F, (He.glo_ok X G (c.fact 8 (f := .glo "_law_kind") rfl))⟩
theorem z__law_came (X : K.In h) (G : h.Ns mainGlobals mg) (c : SD K) : ∃ a d, Fn K "_law_came" "_law_came" sCame a d ∧ mg "_law_came" = some (.ref a) := by
  obtain ⟨fd, F⟩ := c.def_ 9 (d := d__law_came) rfl
  exact ⟨_, fd, F, (He.glo_ok X G (c.fact 9 (f := .glo "_law_came") rfl))⟩
theorem z__law_anything (X : K.In h) (G : h.Ns mainGlobals mg) (c : SD K) : ∃ a d, Fn K "_law_anything" "_law_anything" sAny a d ∧ mg "_law_anything" = some (.ref a) := by
  obtain ⟨fd, F⟩ := c.def_ 10 (d := d__law_anything) rfl
  exact ⟨_, fd, F, (He.glo_ok X G (c.fact 10 (f := .glo "_law_anything") rfl))⟩
theorem z__law_odd (X : K.In h) (G : h.Ns mainGlobals mg) (c : SD K) : ∃ a d, Fn K "_law_odd" "_law_odd" sOdd a d ∧ mg "_law_odd" = some (.ref a) := by
  obtain ⟨fd, F⟩ := c.def_ 11 (d := d__law_odd) rfl
  exact ⟨_, fd, F, (He.glo_ok X G (c.fact 11 (f := .glo "_law_odd") rfl))⟩
theorem z__law_number (X : K.In h) (G : h.Ns mainGlobals mg) (c : SD K) : ∃ a d, Fn K "_law_number" "_law_number" sNum a d ∧ mg "_law_number" = some (.ref a) := by
  obtain ⟨fd, F⟩ := c.def_ 12 (d := d__law_number) rfl
  exact ⟨_, fd, F, (He.glo_ok X G (c.fact 12 (f := .glo "_law_number") rfl))⟩
theorem z__law_terms (X : K.In h) (G : h.Ns mainGlobals mg) (c : SD K) : ∃ a d, Fn K "_law_terms" "_law_terms" sTerms a d ∧ mg "_law_terms" = some (.ref a) := by
  obtain ⟨fd, F⟩ := c.def_ 13 (d := d__law_terms) rfl
  exact ⟨_, fd, F, (He.glo_ok X G (c.fact 13 (f := .glo "_law_terms") rfl))⟩
theorem z__law_are_terms (X : K.In h) (G : h.Ns mainGlobals mg) (c : SD K) : ∃ a d, Fn K "_law_are_terms" "_law_are_terms" sAreT a d ∧ mg "_law_are_terms" = some (.ref a) := by
  obtain ⟨fd, F⟩ := c.def_ 14 (d := d__law_are_terms) rfl
  exact ⟨_, fd, F, (He.glo_ok X G (c.fact 14 (f := .glo "_law_are_terms") rfl))⟩
theorem z__law_made (X : K.In h) (G : h.Ns mainGlobals mg) (c : SD K) : ∃ a d, Fn K "_law_made" "_law_made" sMade a d ∧ mg "_law_made" = some (.ref a) := by
  obtain ⟨fd, F⟩ := c.def_ 15 (d := d__law_made) rfl
  exact ⟨_, fd, F, (He.glo_ok X G (c.fact 15 (f := .glo "_law_made") rfl))⟩
theorem z__law_text (X : K.In h) (G : h.Ns mainGlobals mg) (c : SD K) : ∃ a d, Fn K "_law_text" "_law_text" sText a d ∧ mg "_law_text" = some (.ref a) := by
  obtain ⟨fd, F⟩ := c.def_ 16 (d := d__law_text) rfl
  exact ⟨_, fd, F, (He.glo_ok X G (c.fact 16 (f := .glo "_law_text") rfl))⟩
theorem z__law_bent (X : K.In h) (G : h.Ns mainGlobals mg) (c : SD K) : ∃ a d, Fn K "_law_bent" "_law_bent" sBent a d ∧ mg "_law_bent" = some (.ref a) := by
  obtain ⟨fd, F⟩ := c.def_ 17 (d := d__law_bent) rfl
  exact ⟨_, fd, F, (He.glo_ok X G (c.fact 17 (f := .glo "_law_bent") rfl))⟩
theorem z__law_all_right (X : K.In h) (G : h.Ns mainGlobals mg) (c : SD K) : ∃ a d, Fn K "_law_all_right" "_law_all_right" sRight a d ∧ mg "_law_all_right" = some (.ref a) := by
  obtain ⟨fd, F⟩ := c.def_ 18 (d := d__law_all_right) rfl
  exact ⟨_, fd, F, (He.glo_ok X G (c.fact 18 (f := .glo "_law_all_right") rfl))⟩
theorem z__law_alike (X : K.In h) (G : h.Ns mainGlobals mg) (c : SD K) : ∃ a d, Fn K "_law_alike" "_law_alike" sAlike a d ∧ mg "_law_alike" = some (.ref a) := by
  obtain ⟨fd, F⟩ := c.def_ 19 (d := d__law_alike) rfl
  exact ⟨_, fd, F, (He.glo_ok X G (c.fact 19 (f := .glo "_law_alike") rfl))⟩
theorem z_law (X : K.In h) (G : h.Ns mainGlobals mg) (c : SD K) : ∃ a d, Fn K "law" "law" sLaw a d ∧ mg "law" = some (.ref a) := by
  obtain ⟨fd, F⟩ := c.def_ 20 (d := d_law) rfl
  exact ⟨_, fd, F, (He.glo_ok X G (c.fact 20 (f := .glo "law") rfl))⟩
theorem z_glo (X : K.In h) (G : h.Ns mainGlobals mg) (c : SD K) : ∀ (i : Nat) (x : Str), kOrd[i]? = some x → i < 12 ∧ kOrd.getD i "" = x ∧ mg x = some (.ref (He.ga K x)) := by
  intro i x e
  match i, e with
  | 0, e => cases e; exact ⟨by decide, rfl, (He.glo_ok X G (c.fact 21 (f := .glo "NoMark") rfl))⟩
  | 1, e => cases e; exact ⟨by decide, rfl, (He.glo_ok X G (c.fact 22 (f := .glo "NoWay") rfl))⟩
  | 2, e => cases e; exact ⟨by decide, rfl, (He.glo_ok X G (c.fact 23 (f := .glo "NoRules") rfl))⟩
  | 3, e => cases e; exact ⟨by decide, rfl, (He.glo_ok X G (c.fact 24 (f := .glo "NoAge") rfl))⟩
  | 4, e => cases e; exact ⟨by decide, rfl, (He.glo_ok X G (c.fact 25 (f := .glo "NoPerson") rfl))⟩
  | 5, e => cases e; exact ⟨by decide, rfl, (He.glo_ok X G (c.fact 26 (f := .glo "NoDay") rfl))⟩
  | 6, e => cases e; exact ⟨by decide, rfl, (He.glo_ok X G (c.fact 27 (f := .glo "NoDeed") rfl))⟩
  | 7, e => cases e; exact ⟨by decide, rfl, (He.glo_ok X G (c.fact 28 (f := .glo "NoSheet") rfl))⟩
  | 8, e => cases e; exact ⟨by decide, rfl, (He.glo_ok X G (c.fact 29 (f := .glo "NoWord") rfl))⟩
  | 9, e => cases e; exact ⟨by decide, rfl, (He.glo_ok X G (c.fact 30 (f := .glo "NoBook") rfl))⟩
  | 10, e => cases e; exact ⟨by decide, rfl, (He.glo_ok X G (c.fact 31 (f := .glo "NoText") rfl))⟩
  | 11, e => cases e; exact ⟨by decide, rfl, (He.glo_ok X G (c.fact 32 (f := .glo "NoName") rfl))⟩
theorem z_kd (X : K.In h) (G : h.Ns mainGlobals mg) (c : SD K) {D : Addr} {j : Fin 12} (e : kdB K D (j : Nat) = true) : Kd K mg D j := by
  obtain ⟨h1, h⟩ := He.ba e
  obtain ⟨h2, h⟩ := He.ba h
  obtain ⟨h3, h4⟩ := He.ba h
  refine ⟨fun i x hx => ?_, of_decide_eq_true h2, of_decide_eq_true h3, excB_ok h4⟩
  obtain ⟨lt, e1, e2⟩ := z_glo X G c i x hx
  have z := of_decide_eq_true (List.all_eq_true.mp h1 i (List.mem_range.mpr lt))
  rw [e1] at z
  exact ⟨_, e2, z⟩
theorem z_hlp (X : K.In h) (G : h.Ns mainGlobals mg) (c : SD K) : Hlp K mg := ⟨z_is_number X G c, z_is_number_from X G c, z_are_limits X G c, z_is_wind X G c, z_free X G c, z_cons X G c⟩
theorem z_hl (X : K.In h) (G : h.Ns mainGlobals mg) (c : SD K) : Hl K mg := ⟨z__law_draw X G c, z__law_pick X G c, z_free X G c⟩
theorem z_hr (X : K.In h) (G : h.Ns mainGlobals mg) (c : SD K) : Hr K mg := ⟨z_hlp X G c, (He.free_ok X G (c.fact 50 (f := .free "set") rfl)), z__law_number X G c, z__law_are_terms X G c, z__law_made X G c, z__law_text X G c, z__law_kind X G c, z__law_came X G c⟩
theorem z_all (X : K.In h) (G : h.Ns mainGlobals mg) (c : SD K) : All K mg := ⟨z_hr X G c, z_hl X G c, z__law_cell X G c, z__law_pen X G c, z__law_terms X G c, z__law_odd X G c, z__law_anything X G c, z__law_bent X G c, z__law_all_right X G c, z__law_alike X G c⟩
theorem z_rules (X : K.In h) (G : h.Ns mainGlobals mg) (c : SD K) (e : insB K (He.ga K "Rules") = true) : RulesT K mg (He.ga K "Rules") := by
  obtain ⟨h1, h⟩ := He.ba e
  obtain ⟨h2, h⟩ := He.ba h
  obtain ⟨h3, h⟩ := He.ba h
  obtain ⟨h4, h⟩ := He.ba h
  obtain ⟨h5, h⟩ := He.ba h
  exact ⟨He.cls_ok (c.fact 55 (f := .cls "Rules") rfl), He.noat_ok (c.fact 56 (f := .noat "Rules" "limits") rfl), He.noat_ok (c.fact 57 (f := .noat "Rules" "up") rfl), He.noat_ok (c.fact 58 (f := .noat "Rules" "wind") rfl), He.noat_ok (c.fact 59 (f := .noat "Rules" "shares") rfl), (He.glo_ok X G (c.fact 35 (f := .glo "Rules") rfl)), He.eqO_ok h1, He.eqO_ok h2, of_decide_eq_true h3, of_decide_eq_true h4, of_decide_eq_true h5⟩
theorem z_own (X : K.In h) (G : h.Ns mainGlobals mg) (c : SD K) (e : hex K = true) : Own K mg (He.ga K "Rules") (He.ga K "NoRules") (He.ga K "ClubError") := by
  obtain ⟨e1, e2⟩ := He.ba e
  obtain ⟨_, q⟩ := He.ba e2
  obtain ⟨_, q⟩ := He.ba q
  obtain ⟨_, q⟩ := He.ba q
  obtain ⟨_, q⟩ := He.ba q
  obtain ⟨_, q⟩ := He.ba q
  obtain ⟨q1, q⟩ := He.ba q
  obtain ⟨q2, q⟩ := He.ba q
  obtain ⟨q3, q4⟩ := He.ba q
  obtain ⟨f0, F0⟩ := c.def_ 21 (d := d_Rules___init__) rfl
  obtain ⟨f1, F1⟩ := c.def_ 22 (d := d_Rules___eq__) rfl
  obtain ⟨f2, F2⟩ := c.def_ 23 (d := d_Rules___len__) rfl
  obtain ⟨f3, F3⟩ := c.def_ 24 (d := d_Rules___repr__) rfl
  obtain ⟨m1, m2, m3⟩ := He.meth_ok (c.fact 60 (f := .meth "Rules" "__len__") rfl)
  obtain ⟨n1, n2, n3⟩ := He.meth_ok (c.fact 61 (f := .meth "Rules" "__eq__") rfl)
  obtain ⟨p1, p2, p3⟩ := He.meth_ok (c.fact 62 (f := .meth "Rules" "__repr__") rfl)
  obtain ⟨x1, x2, x3, x4⟩ := He.exc_ok (c.fact 64 (f := .exc "NoRules") rfl)
  exact ⟨z_rules X G c e2, ⟨_, f0, _, F0, rfl, He.mkr_ok (c.fact 63 (f := .mkr "Rules") rfl)⟩, ⟨_, f2, F2, m1, m2⟩, ⟨_, f1, F1, n1, n2⟩, ⟨_, f3, F3, p1, p2⟩, He.eqO_ok q1, of_decide_eq_true q2, of_decide_eq_true q3, fun n hn => of_decide_eq_true (List.all_eq_true.mp q4 n hn), ⟨(He.glo_ok X G (c.fact 23 (f := .glo "NoRules") rfl)), x1, x2, x3, x4⟩, ⟨⟨2, z_kd X G c e1, rfl⟩, He.exm_ok (c.fact 65 (f := .exm "NoRules" "ClubError" true) rfl)⟩, (He.glo_ok X G (c.fact 33 (f := .glo "ClubError") rfl)), ⟨_, (He.glo_ok X G (c.fact 34 (f := .glo "NoPlace") rfl))⟩⟩
theorem z_end {w : World} {fa : Addr} (X : K.In h) (G : h.Ns mainGlobals mg) (hmg : mg ("law" : Str) = some (.ref fa)) (c : He.SaysX hfa hfn [] htf hex w h K) : LawG PySem.Challenge.rw_bestsbook_k02_rules_made_and_shown w K L2.CX0 10 63 "_law_script" mg fa h := by
  have d := c.t.d
  obtain ⟨a, fd, F, g⟩ := z_law X G d
  have e0 : a = fa := by
    have := g.symm.trans hmg
    injection this with this
    injection this
  obtain ⟨aR, dR, FR, gR⟩ := z__law_all_right X G d
  have eg : aR = He.ga K "_law_all_right" := by
    have := gR.symm.trans (He.glo_ok X G (d.fact 18 (f := .glo "_law_all_right") rfl))
    injection this with this
    injection this
  obtain ⟨oc, od, dV, kV, doc, pm, an, cdv, ct, osl, efd, lk, hcd, _, _⟩ := FR.ex
  obtain ⟨cc, ec0⟩ := He.codeIn_ref hcd
  have ec : dR.code = .ref cc := by
    rw [efd]
    exact ec0
  have eo : He.codeOf K ("_law_all_right", none) = cc := He.codeOf_eq (K := K) (p := ("_law_all_right", none)) (by rw [show He.fAd K ("_law_all_right", none) = He.ga K "_law_all_right" from rfl, ← eg]; exact lk) ec
  subst e0
  have b := FunD.bindsA (ps := ["_law_script"]) F fun _ _ _ _ _ _ us hl => match us, hl with | [_], _ => rfl
  refine ⟨_, [He.cT K ("_law_all_right", none)], spLaw K (He.cT K ("_law_all_right", none)).2, ?_, ?_, ?_, fun s u => b s [u] rfl, ?_, ?_⟩
  · intro p hp
    rw [List.mem_singleton.mp hp]
    exact c.empty _ List.mem_cons_self
  · intro p hp
    rw [List.mem_singleton.mp hp]
    exact c.out _ List.mem_cons_self
  · intro p hp
    rw [List.mem_singleton.mp hp]
    exact PySem.W.codeHd_of_K X (c.hd _ List.mem_cons_self)
  · intro H a' ns hl _ ht hS
    exact ⟨a', ns, rfl, hS, hl, ht _ List.mem_cons_self, fun _ => rfl⟩
  · intro base KB NB tb
    have t0 := tb _ List.mem_cons_self
    have e1 : (He.cT K ("_law_all_right", none)).1 = cc := eo
    refine ok_law F (c := cc) ⟨?_, ?_⟩ (z_all X G d) (z_own X G d c.more)
    · rw [← e1]
      exact t0
    · intro a2 d2 F2 g2
      have ea : a2 = aR := by
        have := g2.symm.trans gR
        injection this with this
        injection this
      subst ea
      obtain ⟨_, _, _, _, _, _, _, _, _, _, _, lk2, _, _, _⟩ := F2.ex
      have := lk2.symm.trans lk
      injection this with this
      injection this with _ _ this
      injection this with this
      rw [this]
      exact ec

end
end K2
open PySem PySem.W PySem.Calls PyProof.Rows
theorem PySem.Challenge.cw_bestsbook_k02_rules_made_and_shown_holds : PySem.Challenge.rw_bestsbook_k02_rules_made_and_shown.Holds := by
  w_on; o_law
  refine HandSHeadRun.head_any (r := OpenLaw.row PySem.Challenge.rw_bestsbook_k02_rules_made_and_shown) (q := view (OpenLaw.row PySem.Challenge.rw_bestsbook_k02_rules_made_and_shown).prog [44]) (H := K2.hk) (ob := K2.ob) (M := 6000) (loose := K2.loose) (d := HandSHeadRun.topDef (OpenLaw.row PySem.Challenge.rw_bestsbook_k02_rules_made_and_shown).prog 44) (kwd := []) K2.ob_eq
    (by kernel_rfl) (fun s => by kernel_rfl) K2.run (by kernel_rfl) (by kernel_rfl) (by kernel_rfl) (by rfl) (by first | assumption | decide +kernel) (by decide +kernel) ⟨rfl, rfl, rfl, rfl, rfl, by decide +kernel⟩ ?hw ?hc
  case hw => w_witness2
  case hc =>
    refine Bb.walkG (l := PySem.Challenge.rw_bestsbook_k02_rules_made_and_shown) (n := 63) (k := 10) (x := "_law_script") (CX := fun _ => L2.CX0) rfl (by decide) (by kernel_rfl) ⟨rfl, by decide, by decide⟩ ?F (fun _ _ _ _ _ z => z)
    intro w mg fa h Y G hmg0
    obtain ⟨K, KX, c⟩ := Y
    have hmg : mg ("law" : PySem.Str) = some (.ref fa) := by
      have e : (HandSHeadRun.topDef (OpenLaw.row PySem.Challenge.rw_bestsbook_k02_rules_made_and_shown).prog 44).name = ("law" : PySem.Str) := by kernel_rfl
      rw [← e]
      exact hmg0
    exact ⟨K, KX, K2.z_end KX G hmg c⟩
