import PyProof.Rows.All
import Wide.All
import OpenK.AllK
import Wide.FinOn
import PyProof.ReprRoads
import HandS.ForMost
import HandS.Strs
import HandS.StrMore
import HandS.TupAny
import HandS.RaiseMore
import HandS.Codes
import HandS.SetFor
import KE.KDictWalk
import PyProof.Rows.SortShellAny
import HandS.Style
import HandS.DictComp
import HandS.TryOnly
import HandS.Lambda
import HandS.SortKw
import HandS.DictTup
import KE.SortKeyHeap
import KE.KNestM
import KE.SortData
import HandS.Deep
import PyProof.Rows.ReprShort
import PyProof.ReprBulk
import PySem.Challenge.RW_pagesatonce_k31_timers_in_order
set_option Elab.async false
set_option linter.all false
set_option maxRecDepth 100000
set_option maxHeartbeats 4000000
/-! Promises of defs that are called while no repr is under way (for repr of lists and tuples). -/
namespace Pg
open PySem PySem.Spec PyProof.Rows L2

section
variable {P : Program} {w : World} {K : PySem.W.Frag} {mg : Str → Option Value} {base : Heap}

/-- the promise of a def that is only called where no repr runs -/
structure FnG (P : Program) (w : World) (K : PySem.W.Frag) (mg : Str → Option Value) (base : Heap) (k : Nat) (f : Addr) (fd : FuncData) (ps : List Str) (sp : Sp) : Prop where
  few : ∀ vs H Q E, sp vs H Q E → vs.length = ps.length
  go : ∀ (A : Around) (fr : List Env) (s : Shared) (H : Hp) (gs : Args) (us : List Value) (vs : List V) (Q : VK), A.guards = some [] → Room k A → Env0 P w K mg base A fr s H →
    BindsTo s fd gs (ps.zip us) → Vals vs us → sp vs H Q E0 → codeAny (model P w) A (.call (.ref f) gs) (CR CX0 fr P w H s Q E0) s

/-- an ordinary promise serves there too -/
theorem FnG.of {k : Nat} {f : Addr} {fd : FuncData} {ps : List Str} {sp : Sp} (F : FnOk P w K mg base CX0 k f fd ps sp) : FnG P w K mg base k f fd ps sp :=
  ⟨F.len, fun A fr s H gs us vs Q _ hr e b r h => F.run A fr s H gs us vs Q E0 hr e b r h⟩

theorem FnG.mk' {x qual : Str} {st : Stmt} {f : Addr} {fd : FuncData} {N ps : List Str} {k : Nat} {sp : Sp} (D : Fun K x qual st f fd) (S : FnScope N ps (defScope st)) (few : ∀ vs H Q E, sp vs H Q E → vs.length = ps.length)
    (body : ∀ (cd : Value) (A : Around) (fr : List Env) (s : Shared) (H : Hp) (vs : List V) (Q : VK), A.guards = some [] → Room k (A.deeper (envOfC qual (defScope st) s.heap.objs.size f cd)) → sp vs H Q E0 →
      ∃ t, PSs (cxOf CX0 P w K mg base N qual (defScope st) f cd A fr s H E0).nox (defBody st) t ∧ t { nx := fun _ H' => Q .non H', rt := Q } (start N vs) H) : FnG P w K mg base (k + 1) f fd ps sp := by
  obtain ⟨_, _, _, _, _, _, cd, _, _, rfl, at_f, rec_ok⟩ := D.ex
  constructor
  · exact few
  intro A fr s H gs us vs Q hg hr e b r h
  have inK : K.In s.heap := e.mod.kin.keeps (fun c o q => (e.bs c o q).left)
  have nl : s.heap.NoLimit := e.mod.nolimit.keeps (fun c o q => (e.bs c o q).left)
  have kinds : ∀ y ∈ ps.zip us, (defScope st).names.lookup y.1 = some .local ∨
      ((defScope st).names.lookup y.1 = some .cell ∧ ((cellsFrom (s.heap.objs.size + 1) (defScope st).names []).lookup y.1).isSome = true) := by
    intro y hy
    obtain ⟨y1, y2⟩ := y
    cases S.par y1 (List.of_mem_zip hy).left with
    | inl q => left; exact q
    | inr q => right; exact ⟨q, PySem.W.cellsFrom_some _ _ _ (Or.inl q)⟩
  apply codeAny_call_function hr.depth (inK _ _ at_f) rfl S.co S.gen rfl (PySem.W.codeRec_of inK rec_ok)
  apply b
  apply wpAny_newFunctionEnv_cells S.kind kinds
  intro env he s1 x
  subst he
  refine And.intro (nl.keeps x.toInCall.keep) (codeAny_func ?_)
  obtain ⟨t, ht, q⟩ := body cd A fr s H vs Q hg (hr.deeper _) h
  have J0 := inv_start (E := E0) (CX := CX0) S hr.hd e (few _ _ _ _ h) r x
  apply wpAny_mono (ht.nox.run [] s1 _ H _ J0 q)
  · intro fl s2 hs
    match fl, hs with
    | .ret u, hs => obtain ⟨v, _, H2, J, rv, z⟩ := hs; exact ⟨v, H2, J.os, J.bare, J.base, J.hok, rv, z⟩
    | .next, hs => obtain ⟨_, H2, J, z⟩ := hs; exact ⟨V.non, H2, J.os, J.bare, J.base, J.hok, rfl, z⟩
    | .brk, hs => obtain ⟨_, _, _, z⟩ := hs; exact z.elim
    | .cont, hs => obtain ⟨_, _, _, z⟩ := hs; exact z.elim
  · intro _ _ z
    exact z

/-- a callee by its name, with all its arguments given -/
def Cal (P : Program) (w : World) (K : PySem.W.Frag) (mg : Str → Option Value) (base : Heap) (x : Str) (k : Nat) (ps : List Str) (sp : Sp) : Prop :=
  ∃ f fd, FnOk P w K mg base CX0 k f fd ps sp ∧ Binds K fd ps [] ∧ mg x = some (.ref f) ∧ PySem.W.keepIn K (.ref f) = true
def CalG (P : Program) (w : World) (K : PySem.W.Frag) (mg : Str → Option Value) (base : Heap) (x : Str) (k : Nat) (ps : List Str) (sp : Sp) : Prop :=
  ∃ f fd, FnG P w K mg base k f fd ps sp ∧ Binds K fd ps [] ∧ mg x = some (.ref f) ∧ PySem.W.keepIn K (.ref f) = true
theorem Cal.mono {x : Str} {j k : Nat} {ps : List Str} {sp : Sp} (C : Cal P w K mg base x j ps sp) (h : j ≤ k) : Cal P w K mg base x k ps sp :=
  let ⟨f, fd, F, r⟩ := C
  ⟨f, fd, F.mono h, r⟩
end

section
variable {X : Cx} {k : Nat} {x : Str} {ps : List Str} {sp : Sp} {p pos : Pos} {e : Expr} {es : List Expr} {t : TA}

theorem pe_cal (C : Cal X.prog X.w X.K X.mg X.base x k ps sp) (hr : Room k X.A) (hg : Gl X x) (ha : PA X (e :: es) t) (hdb : (x == ("__debug__" : Str)) = false := by decide)
    (he : starEach (e :: es) X.env = (false, eval e X.env) :: starEach es X.env := by rfl) (hpl : (backTo pos (starEach es X.env)).any (·.1) = false := by rfl) :
    PE X (.Call (.Name x p) (e :: es) [] pos) (tCall sp [] E0 t) := by
  obtain ⟨_, _, F, b, g, kp⟩ := C
  exact pe_call F hr hg g kp b .nil pass0 ha hdb he hpl

theorem pe_calG (C : CalG X.prog X.w X.K X.mg X.base x k ps sp) (gd : X.A.guards = some []) (hr : Room k X.A) (hg : Gl X x) (ha : PA X (e :: es) t) (hdb : (x == ("__debug__" : Str)) = false := by decide)
    (he : starEach (e :: es) X.env = (false, eval e X.env) :: starEach es X.env := by rfl) (hpl : (backTo pos (starEach es X.env)).any (·.1) = false := by rfl) :
    PE X (.Call (.Name x p) (e :: es) [] pos) (tCall sp [] E0 t) := by
  obtain ⟨f, fd, F, b, g, kp⟩ := C
  constructor
  intro pins s σ H Q I h
  apply wpAny_Call_Name_kw (ld_glob I hg g ?_ hdb)
  apply PySem.W.callWith_K (h₀ := X.base) I.ok.mod.kin kp ?_ he hpl
  apply thn (ha.run pos pins s σ H _ I h)
  rintro us s1 ⟨vs, H1, I1, r, q⟩
  refine And.intro I1.kIn ?_
  have q' : sp (vs ++ []) H1 Q E0 := q
  rw [List.append_nil] at q'
  have n1 : us.length = ps.length := by rw [← r.length]; exact F.few _ _ _ _ q'
  have bb := b s1 us I1.kIn (by rw [List.append_nil]; exact n1)
  rw [List.append_nil] at bb
  apply wpAny_call
  apply codeAny_mono (F.go X.A X.stack s1 H1 ⟨us, []⟩ us vs Q gd hr I1.env0 bb r q')
  intro res s2 z
  match res, z with
  | .ok (.ret u), z => exact I1.after z
  | .ok .next, z => exact False.elim z
  | .ok .brk, z => exact False.elim z
  | .ok .cont, z => exact False.elim z
  | .error _, z => exact False.elim z
end

/-! ### repr of data -/
section
variable {X : Cx}
/-- repr(v): v data of any depth -/
def rRepr (K : PySem.W.Frag) : List V → Hp → VK → Prop := fun xs H Q => ∃ v d, xs = [v] ∧ Dp K H v d ∧ d.showable = true ∧ d.hasDict = false ∧ d.depth ≤ 40 ∧ d.shown.length ≤ sizeLine ∧ Q (.str d.shown) H
theorem call_reprD (gd : X.A.guards = some []) (hu : X.A.units + 64 < cLine) : CallR X (.builtin "repr") (rRepr X.K) := by
  intro pins s σ H xs us Q I r h
  obtain ⟨v, d, rfl, hd, sh, nd, dep, sz, q⟩ := h
  obtain ⟨u, rfl, ru⟩ := vals1 r
  have fin : ∀ (h' : Heap) (u : Tok) (tk : Nat), (∀ b o, s.heap.get? b = some o → h'.get? b = some o) → EP X pins σ Q (.str d.shown u) { s with heap := h', toks := tk } :=
    fun h' u tk kp => ⟨.str d.shown, H, I.kept kp, ⟨u, rfl⟩, q⟩
  obtain ⟨as, rd⟩ := Dp.reads I d v u hd ru
  cases hd with
  | lst hs ha =>
    cases ru
    exact repr_of_reads' rd sh (PyData.noDict_hsm nd) gd (by omega) (fun _ _ z => z) fin sz
  | tup hs ha =>
    cases ru
    exact repr_of_reads' rd sh (PyData.noDict_hsm nd) gd (by omega) (fun _ _ z => z) fin sz
  | non =>
    cases ru
    exact PySem.P.repr_of_none (fin _ _ _ fun _ _ z => z)
  | bl b =>
    cases ru
    exact PySem.P.repr_of_bool (by simpa only [PyData.shown] using fin s.heap _ (s.toks + 1) fun _ _ z => z)
  | int i =>
    obtain ⟨t, rfl⟩ := ru
    exact PySem.P.repr_of_int (by simpa [PyData.showable] using sh) (by simpa only [PyData.shown] using fin s.heap _ (s.toks + 1) fun _ _ z => z)
  | str z =>
    obtain ⟨t, rfl⟩ := ru
    exact PySem.P.repr_of_str (by simpa only [PyData.shown] using fin s.heap _ (s.toks + 1) fun _ _ z => z) (by simpa only [PyData.shown] using sz)
end

/-! ### the law's own entry -/
section
variable {P : Program} {w : World} {K : PySem.W.Frag} {mg mb : Str → Option Value}
/-- the state in which the law is entered: at most the script is tracked -/
structure Entry (P : Program) (w : World) (K : PySem.W.Frag) (H : Hp) (h : Heap) (a : Addr) (ns : List Int) : Prop where
  only : Only H
  seq : SqL K H a (ns.map V.int)
  held : HOk P w H h
  nope : ∀ b, b ≠ a → H b = none
  off : H a = none ∨ K.lookup a = none
theorem Entry.there {s : Shared} {a : Addr} {vs : List Value} {ns : List Int} (hk : K.In s.heap) (at_a : s.heap.get? a = some { cls := .type "list", data := .seq vs.toArray }) (hi : IntsAre vs ns) (few : ns.length ≤ sizeLine) :
    ∃ H, Entry P w K H s.heap a ns := by
  have rel := vals_ints hi
  by_cases e : ∃ o, K.lookup a = some o
  · obtain ⟨o, e⟩ := e
    obtain rfl : o = { cls := .type "list", data := .seq vs.toArray } := Option.some.inj ((hk a o e).symm.trans at_a)
    have nl : ∀ b u, (fun _ => none : Hp) b = some u → False := fun b u q => by cases q
    exact ⟨fun _ => none, fun _ => Or.inl rfl, Or.inr ⟨_, vs.toArray, _, e, rfl, rfl, rfl, by rw [List.size_toArray, hi.length]; exact few, by simpa using rel⟩, fun b u q => (nl b u q).elim, fun _ _ => rfl, Or.inl rfl⟩
  · have e' : K.lookup a = none := by
      cases q : K.lookup a with
      | none => rfl
      | some o => exact absurd ⟨o, q⟩ e
    refine ⟨fun b => if b = a then some (.frz { cls := .type "list", data := .seq vs.toArray } (.lst (ns.map V.int))) else none, ?_, Or.inl (Or.inr ⟨_, if_pos rfl⟩), ?_, fun b hb => if_neg hb, Or.inr e'⟩
    · intro b
      by_cases hb : b = a
      · right; exact ⟨_, _, if_pos hb⟩
      · left; exact if_neg hb
    · intro b u q
      by_cases hb : b = a
      · subst hb
        simp only [if_pos] at q
        cases q
        exact ⟨at_a, by rw [List.length_map]; exact few, vs, _, rel, at_a⟩
      · simp [hb] at q
theorem enter_law {k : Nat} {fa a : Addr} {fd : FuncData} {x : Str} {sp : Sp} {s : Shared} {vs : List Value} {ns : List Int}
    (hk : K.In s.heap) (hn : s.heap.Ns mainGlobals mg) (hb : s.heap.Ns builtinsNs mb) (hbb : ∀ x : Str, x ≠ "__name__" → mb x = bootBuiltins x) (nl : s.heap.NoLimit) (hg : s.gens = #[])
    (at_a : s.heap.get? a = some { cls := .type "list", data := .seq vs.toArray }) (hi : IntsAre vs ns) (few : ns.length ≤ sizeLine) (hr : Room k callerA)
    (F : ∀ base : Heap, K.In base → base.Ns mainGlobals mg → FnG P w K mg base k fa fd [x] sp) (hbind : ∀ (s : Shared) (u : Value), BindsTo s fd ⟨[u], []⟩ [(x, u)])
    (hsp : ∀ H : Hp, Only H → SqL K H a (ns.map V.int) → sp [.ref a] H (fun v _ => v = .bl true) E0) :
    codeAny (model P w) callerA (.call (.ref fa) ⟨[.ref a], []⟩) (fun r s' => r = .ok (.ret (.bool true)) ∧ OldK s.heap s'.heap ∧ s'.os = s.os ∧ AllBare s'.gens) s := by
  obtain ⟨H, En⟩ := Entry.there (P := P) (w := w) hk at_a hi few
  have out : ∀ {b : Addr} {o : Obj}, s.heap.get? b = some o → b ≠ a → (hidT s.heap H).get? b = some o := fun q hne => hidT_get q (En.nope _ hne)
  have dicts : ∀ {b : Addr} {m : Str → Option Value}, s.heap.Ns b m → (hidT s.heap H).Ns b m := by
    rintro b m ⟨o, es, ep, q, d, r⟩
    refine ⟨o, es, ep, out q ?_, d, r⟩
    rintro rfl
    rw [at_a] at q
    cases q
    cases d
  have inK : K.In (hidT s.heap H) := by
    intro b o q
    by_cases hba : b = a
    · subst hba
      rcases En.off with z | z
      · exact hidT_get (hk _ _ q) z
      · rw [z] at q; cases q
    · exact out (hk _ _ q) hba
  have modl : Mod K mg (hidT s.heap H) := {
    kin := inK
    glob := dicts hn
    blt := ⟨mb, dicts hb, hbb⟩
    nolimit := by obtain ⟨mc, z1, z2⟩ := nl; exact ⟨mc, dicts z1, z2⟩ }
  have none_in : ∀ b, b ∈ frs ([] : List Env) → False := fun b z => by
    have z' : b ∈ ([] : List Addr) := z
    cases z'
  have e0 : Env0 P w K mg (hidT s.heap H) callerA [] s H := {
    frames := rfl
    mod := modl
    bs := fun b o q => of_hidT q
    bsz := Nat.le_of_eq (hidT_size _ _)
    funs := trivial
    frf := fun b z => (none_in b z).elim
    hok := En.held
    bare := .of_eq hg }
  apply codeAny_mono ((F _ inK (dicts hn)).go callerA [] s H ⟨[.ref a], []⟩ [.ref a] [.ref a] _ rfl hr e0 (hbind s (.ref a)) (.cons rfl .nil) (hsp H En.only En.seq))
  intro r s' z
  match r, z with
  | .error _, z => exact False.elim z
  | .ok .next, z => exact False.elim z
  | .ok .brk, z => exact False.elim z
  | .ok .cont, z => exact False.elim z
  | .ok (.ret u), z =>
    obtain ⟨v, H', os, bare, un, held, rv, rfl⟩ := z
    cases rv
    refine ⟨rfl, OldK.of_keep ?_, os, bare⟩
    intro b o q
    rcases En.only b with y | ⟨ob, xs, y⟩
    · exact un.keep b o q y (none_in b) (by intro y2; cases y2)
    · have y1 := (En.held b _ y).left
      have y2 := (held b _ (un.frzs b ob _ y)).left
      rw [y1] at q
      cases q
      exact y2
end

/-- the goal that k_head leaves, from the law's promise -/
theorem walkG {l : PySem.W.OpenLaw} {n k : Nat} {q : Program} {loose : List Str} {XP : (Str → Option Value) → Heap → Prop} {YP : World → Heap → Prop} {d : DefRec} {K : Params → PySem.W.Frag} {sp : PySem.W.Frag → Sp} {x : Str}
    (hn : l.most = some n) (few : n ≤ sizeLine) (hdf : d.params.defaults = []) (hr : Room k callerA) (hY : ∀ (w : World) (h : Heap), YP w h → (K w.params).In h)
    (F : ∀ (w : World) (mg : Str → Option Value) (fa : Addr) (h : Heap), (K w.params).In h → h.Ns mainGlobals mg → mg d.name = some (.ref fa) →
      ∃ fd : FuncData, (∀ (s : Shared) (u : Value), BindsTo s fd ⟨[u], []⟩ [(x, u)]) ∧ ∀ base : Heap, (K w.params).In base → base.Ns mainGlobals mg → FnG l.prog w (K w.params) mg base k fa fd [x] (sp (K w.params)))
    (hsp : ∀ (K : PySem.W.Frag) (H : Hp) (a : Addr) (ns : List Int), ns.length ≤ n → SqL K H a (ns.map V.int) → sp K [.ref a] H (fun v _ => v = .bl true) E0) :
    PySem.W.WalkO q loose XP YP l.row.toRowW d [] (fun f vs => PySem.call f vs) := by
  apply Att.attach_call hn hdf
  intro w s0 s1 mg mb fa o pm cd doc a vs ns G Y ho hd hcd hmg hobj hints hlen hg
  obtain ⟨fd, hb, hF⟩ := F w mg fa _ (hY w _ Y) G.T.g hmg
  exact enter_law (hY w _ Y) G.T.g G.T.b G.T.builtins G.T.nolimit hg hobj hints (Nat.le_trans hlen few) hr hF hb (fun H _ hS => hsp _ H a ns hlen hS)
end Pg

/-! len(set(names)) for texts, a text times a number. -/
namespace Pg
open PySem PySem.Spec PyProof.Rows L2

/-- how many different texts there are: each counted where it stands first -/
def cntS : List Str → Nat
  | [] => 0
  | x :: r => (if x ∈ r then 0 else 1) + cntS r
theorem cntS_le : ∀ l : List Str, cntS l ≤ l.length
  | [] => Nat.le_refl 0
  | x :: r => by
    have h := cntS_le r
    show (if x ∈ r then 0 else 1) + cntS r ≤ r.length + 1
    split <;> omega
theorem cntS_full : ∀ l : List Str, cntS l = l.length ↔ l.Nodup
  | [] => by simp [cntS]
  | x :: r => by
    have h := cntS_full r
    have h1 := cntS_le r
    rw [List.nodup_cons, ← h]
    show (if x ∈ r then 0 else 1) + cntS r = r.length + 1 ↔ _
    split
    · rename_i m
      constructor
      · intro z; omega
      · intro z; exact absurd m z.1
    · rename_i m
      constructor
      · intro z; exact ⟨m, by omega⟩
      · intro z; omega
theorem cntS_snoc : ∀ (l : List Str) (x : Str), cntS (l ++ [x]) = if x ∈ l then cntS l else cntS l + 1
  | [], x => by simp [cntS]
  | y :: r, x => by
    have ih := cntS_snoc r x
    show (if y ∈ r ++ [x] then 0 else 1) + cntS (r ++ [x]) = if x ∈ y :: r then (if y ∈ r then 0 else 1) + cntS r else (if y ∈ r then 0 else 1) + cntS r + 1
    rw [ih]
    by_cases e : x = y
    · subst e
      by_cases m : x ∈ r <;> simp [m] <;> omega
    · have e' : ¬ y = x := fun z => e z.symm
      by_cases m : x ∈ r <;> by_cases m2 : y ∈ r <;> simp [m, m2, e, e'] <;> omega

section
variable {prog : Program} {w : World} {A : Around} {R : Result → Shared → Prop}
theorem setOf_moved {h h' : Heap} {S : Addr} {g : Str → Bool} {c : Nat} (z : h.SetOf (PySem.strKind prog w) S g c) (kp : ∀ o, h.get? S = some o → h'.get? S = some o) : h'.SetOf (PySem.strKind prog w) S g c := by
  obtain ⟨o, es, ep, tb, ho, more⟩ := z
  exact ⟨o, es, ep, tb, kp o ho, more⟩
/-- the loop of set.update over texts -/
theorem set_texts_loop {I : Addr} {fp wr : List Addr} {G : Array GenState → Array GenState → Prop} {n : Nat} {Pv : Nat → Value → Prop} {St : Nat → Shared → Prop}
    (W : WalksS prog w A.in1 I fp wr G n Pv St) (S : Addr) (off : S ∉ fp) (xs : List Str) (hn : n = xs.length) (room : xs.length + 1 < scanBound)
    (vals : ∀ i v, Pv i v → ∃ x t, xs[i]? = some x ∧ v = .str x t) :
    ∀ (left i : Nat) (s : Shared), i + left = n → St i s → s.heap.SetOf (PySem.strKind prog w) S (fun x => decide (x ∈ xs.take i)) (cntS (xs.take i)) →
      (∀ s', Moved (S :: wr) G s s' → s'.heap.SetOf (PySem.strKind prog w) S (fun x => decide (x ∈ xs)) (cntS xs) → R (.ok (.ret .none)) s') →
      codeAny (model prog w) A (.builtin "set.update.loop" ⟨[.ref S, .ref I], []⟩) R s := by
  have offw : S ∉ wr := fun z => off (W.sub _ z)
  have sub : ∀ b ∈ wr, b ∈ S :: wr := fun b z => List.mem_cons_of_mem _ z
  intro left
  induction left with
  | zero =>
    intro i s e st set fin
    obtain rfl : i = n := by omega
    apply codeAny_builtin PyProof.Rows.F.entry_set_update_loop
    rw [Around.under_plainId PyProof.Rows.F.plain_set_update_loop _]
    show wpAny _ A.in1 (pyNext (.ref I) >>= _) _ _ s
    apply wpAny_bind
    apply W.done s _ _ st
    intro s' mv
    have all : xs.take i = xs := List.take_of_length_le (by omega)
    rw [all] at set
    show wpAny _ A.in1 (ret Value.none) _ _ s'
    exact wpAny_pure (fin s' (mv.mono sub) (setOf_moved set fun o q => mv.heap S o offw q))
  | succ left ih =>
    intro i s e st set fin
    have lt : i < n := by omega
    apply codeAny_builtin PyProof.Rows.F.entry_set_update_loop
    rw [Around.under_plainId PyProof.Rows.F.plain_set_update_loop _]
    show wpAny _ A.in1 (pyNext (.ref I) >>= _) _ _ s
    apply wpAny_bind
    apply W.item i s _ _ lt st
    intro v s' pv' st' mv
    obtain ⟨x, t, hx, rfl⟩ := vals i v pv'
    have set' := setOf_moved set fun o q => mv.heap S o offw q
    show wpAny _ A.in1 (holding [Value.str x t] (setAdd S (.str x t)) >>= _) _ _ s'
    apply wpAny_bind
    apply wpAny_holding
    unfold setAdd
    apply wpAny_holding
    apply wpAny_bind
    apply (PySem.strKind prog w).pyHash (k := x) (strKind_is _ _ _ _)
    have cle := cntS_le (xs.take i)
    rw [List.length_take] at cle
    apply wpAny_setAddHashed_of (knd := PySem.strKind prog w) (s := { s' with toks := s'.toks + 1 }) (strKind_is _ _ _ _) rfl set' (by omega)
    intro h' but set2
    have nx : xs.take (i + 1) = xs.take i ++ [x] := by
      rw [List.take_add_one, hx]
      rfl
    have set3 : h'.SetOf (PySem.strKind prog w) S (fun y => decide (y ∈ xs.take (i + 1))) (cntS (xs.take (i + 1))) := by
      refine PyProof.Rows.SetOf_congr set2 (fun y => ?_) ?_
      · rw [nx]
        simp [List.mem_append]
      · rw [nx, cntS_snoc]
        by_cases m : x ∈ xs.take i <;> simp [m]
    apply wpAny_pure
    refine ⟨plainId_quiet PyProof.Rows.F.plain_set_update_loop _, ih (i + 1) _ (by omega) ?_ set3 ?_⟩
    · apply W.frame _ s' _ _ st' (Nat.le_succ _)
      intro b hb o q
      have : b ≠ S := fun z => off (z ▸ hb)
      rw [but.2 b this]
      exact q
    · intro s2 mv2 z
      apply fin s2 _ z
      apply Moved.trans W.gtrans _ mv2
      apply (mv.mono sub).then_heap (Nat.le_succ _)
      intro b o hb q
      have : b ≠ S := fun z => hb (z ▸ List.mem_cons_self)
      rw [but.2 b this]
      exact q
end

set_option maxHeartbeats 8000000 in
/-- set(t), t a tuple of texts -/
theorem set_of_texts {prog : Program} {w : World} {A : Around} {E : Value → Shared → Prop} {s : Shared} {l : Addr} {items : Array Value} {xs : List Str} {Q : Value → Shared → Prop}
    (hot : A.handled = none) (tup : s.heap.IsTuple l items) (are : StrsAre items.toList xs) (room : xs.length + 1 < scanBound)
    (k : ∀ (h' : Heap) (tk : Nat), h'.SetOf (PySem.strKind prog w) s.heap.objs.size (fun x => decide (x ∈ xs)) (cntS xs) → (∀ b o, s.heap.get? b = some o → h'.get? b = some o) →
      Q (.ref s.heap.objs.size) { s with heap := h', toks := tk }) : wpAny (model prog w) A (call (.type "set") [.ref l]) Q E s := by
  have size : items.size = xs.length := by
    have z := StrsAre.len_eq are
    rw [Array.length_toList] at z
    exact z.symm ▸ rfl
  obtain ⟨_, _, mro⟩ := PySem.F.called_set.mro
  have made := PySem.F.called_set.made
  have sub := PySem.F.called_set.sub
  apply wpAny_call
  apply codeAny_of_tree
  show wpAny _ _ (callAny (.type "set") _) _ _ _
  apply wpAny_pure
  refine And.intro (Code.quiet_builtin _ (by decide +kernel)) ?_
  apply codeAny_builtin PySem.F.entry_type_call
  rw [Around.under_plain (weight_type_call_type "set" [.ref l] []) rfl]
  have t1 := PySem.F.called_set.notType
  have t2 := PySem.F.called_set.canCreate
  have t3 := PySem.F.typeCall_set_1 (.ref l)
  repeat (any_goals (first | assumption | wp_step))
  apply codeAny_mono (code_set_new_1 (.ref l) (E := E) (Q₁ := fun obj s1 => ∃ led : Bool, obj = .ref s.heap.objs.size ∧ s1 = { s with heap := s.heap.push { cls := .type "set", dict := none, data := .set #[] 0 (.fresh 0 0 led) } }) fun led => ⟨led, rfl, rfl⟩)
  intro r s1 hr
  match r, hr with
  | .error _, hr => exact hr
  | .ok .next, hr => exact hr.elim
  | .ok .brk, hr => exact hr.elim
  | .ok .cont, hr => exact hr.elim
  | .ok (.ret obj), hr =>
    obtain ⟨led, rfl, rfl⟩ := hr
    let so : Obj := { cls := .type "set", dict := none, data := .set #[] 0 (.fresh 0 0 led) }
    have here : (s.heap.push so).get? s.heap.objs.size = some so := Heap.get?_push_size _ rfl
    have typ : Shared.TypeIs { s with heap := s.heap.push so } (.ref s.heap.objs.size) "set" := ⟨_, here, rfl⟩
    have i1 := PySem.F.called_set.init.lookup
    have i2 := PySem.F.called_set.init.bind (.ref s.heap.objs.size)
    repeat (any_goals (first | assumption | wp_step))
    apply codeAny_mono (codeAny_call_builtin (R := wants (fun r s2 => r = .none ∧ ∃ h' tk, s2 = { s with heap := h', toks := tk } ∧
      h'.SetOf (PySem.strKind prog w) s.heap.objs.size (fun x => decide (x ∈ xs)) (cntS xs) ∧ (∀ b o, s.heap.get? b = some o → h'.get? b = some o)) E)
      PySem.F.called_set.init.plain PySem.F.entry_set_init (check_set_init_1 typ ?_))
    · intro r2 s2 hr2
      match r2, hr2 with
      | .error _, hr2 => exact hr2
      | .ok .next, hr2 => exact hr2.elim
      | .ok .brk, hr2 => exact hr2.elim
      | .ok .cont, hr2 => exact hr2.elim
      | .ok (.ret v2), hr2 =>
        obtain ⟨rfl, h', tk, rfl, set, kp⟩ := hr2
        repeat (any_goals (first | assumption | wp_step))
        exact k _ _ set kp
    · obtain ⟨⟨oc, od, oda, osl⟩, at_l, cl, nl, dl⟩ := tup
      simp only at cl dl
      subst cl
      subst dl
      have at_l2 : (s.heap.push so).get? l = some { cls := .type "tuple", dict := od, data := .seq items nl, slots := osl } := Heap.get?_push_of_some _ at_l
      have s1 := PySem.F.sub_tuple_set
      have s2 := PySem.F.sub_tuple_frozenset
      have ne : (Value.type "tuple" == Value.type "dict") = false := by decide
      have tup2 : (s.heap.push so).IsTuple l items := ⟨_, at_l2, rfl, nl, rfl⟩
      unfold Builtin.«set.__init__» noKeywords Builtin.Frozenset.updateFrom
      generalize hPI : pyIter = PI
      wp_walk
      subst hPI
      apply wpAny_pyIter_tuple tup2
      apply wpAny_bind
      apply wpAny_runValue
      have lt : l < s.heap.objs.size := Heap.lt_size at_l
      have sz : (s.heap.push so).objs.size = s.heap.objs.size + 1 := Heap.size_push ..
      have ne1 : l ≠ (s.heap.push so).objs.size := by rw [sz]; exact Nat.ne_of_lt (Nat.lt_succ_of_lt lt)
      have off : s.heap.objs.size ∉ [(s.heap.push so).objs.size, l] := by
        rw [sz]
        intro z
        rcases List.mem_cons.mp z with z | z
        · exact Nat.ne_of_lt (Nat.lt_succ_self _) z
        · rcases List.mem_cons.mp z with z | z
          · exact Nat.ne_of_gt lt z
          · cases z
      have hot3 : A.in1.in1.in1.handled = none := by simp [hot]
      apply set_texts_loop ((Walks.tuple hot3 _ l ne1 items).toS) s.heap.objs.size off xs size room ?vals items.size 0 _ (by omega) ⟨⟨_, Heap.get?_push_size _ rfl, rfl, rfl⟩, (tup2.push _)⟩ ?s0 ?fin
      case vals =>
        intro i v hv
        have hi : i < xs.length := by rw [← size]; exact (Array.getElem?_eq_some_iff.mp hv).1
        obtain ⟨t, e⟩ := SS.strs_at are i v (by rw [Array.getElem?_toList]; exact hv)
        refine ⟨xs[i], t, List.getElem?_eq_getElem hi, ?_⟩
        rw [e, List.getD_eq_getElem?_getD, List.getElem?_eq_getElem hi]
        rfl
      case s0 =>
        have here2 : ((s.heap.push so).push { cls := .type "tuple_iterator", data := .fields #[.ref l, .int 0 0] }).get? s.heap.objs.size = some so := Heap.get?_push_of_some _ here
        exact PyProof.Rows.SetOf_congr ((PyProof.Rows.setObjOf_fresh (knd := PySem.strKind prog w) led).setOf here2 (by unfold scanBound; omega)) (fun _ => rfl) rfl
      case fin =>
        intro s' mv set
        obtain ⟨h', g', d', tk', os'⟩ := s'
        obtain rfl : g' = s.gens := mv.gens
        obtain rfl : d' = s.drawn := mv.drawn
        obtain rfl : os' = s.os := mv.os
        show wpAny _ _ _ _ _ _
        apply wpAny_pure
        show wpAny _ _ (ret Value.none) _ _ _
        apply wpAny_pure
        refine ⟨rfl, h', tk', rfl, set, ?_⟩
        intro b o q
        have lb : b < s.heap.objs.size := Heap.lt_size q
        apply mv.heap b o _ (Heap.get?_push_of_some _ (Heap.get?_push_of_some _ q))
        intro z
        rcases List.mem_cons.mp z with z | z
        · exact Nat.ne_of_lt lb z
        · rcases List.mem_cons.mp z with z | z
          · rw [sz] at z
            exact Nat.ne_of_lt (Nat.lt_succ_of_lt lb) z
          · cases z

/-- len(set(t)), t a tuple of texts -/
def tCountT (K : PySem.W.Frag) (ta : TE) : TE := fun σ H Q => ta σ H fun x H1 => ∃ (l : Addr) (xs : List Str), x = .ref l ∧ SqT K H1 l (xs.map V.str) ∧ xs.length ≤ 1000 ∧ Q (.int (cntS xs : Nat)) H1
theorem pe_countT {X : Cx} {a : Expr} {ta : TE} {p p2 q pos : Pos} (hc : X.calm = true) (hg : Gl X "len") (hm : X.mg "len" = none) (hg2 : Gl X "set") (hm2 : X.mg "set" = none) (ha : PE X a ta)
    (na : starEach [a] X.env = (false, eval a X.env) :: starEach [] X.env := by rfl) : PE X (.Call (.Name "len" p) [.Call (.Name "set" p2) [a] [] q] [] pos) (tCountT X.K ta) := by
  constructor
  intro pins s σ H Q I h
  apply Call_ (ld_blt I hg hm boot_len ?_)
  apply PyProof.Rows.callWith_builtin1 (PyProof.Rows.args_cons ?_ rfl) rfl rfl
  apply Call_ (ld_blt I hg2 hm2 boot_set ?_)
  apply PyProof.Rows.callWith_type1 (PyProof.Rows.args_cons (thn (ha.run pins s σ H _ I h) ?_) na) na rfl
  rintro v s1 ⟨x, H1, I1, r1, l, xs, rfl, ht, few, z⟩
  apply PyProof.Rows.args_nil
  cases r1
  obtain ⟨its, r, tp, _⟩ := I1.tuple ht
  apply set_of_texts (I1.ok.hd hc) tp (by simpa using strsAre_of r) (by unfold scanBound; omega)
  intro h' tk set kp
  apply PyProof.Rows.args_nil
  obtain ⟨o, es, ep, tb, ho, ex, od, _, _, _, fl, nn⟩ := set
  have I2 : Inv X pins σ H1 { s1 with heap := h', toks := tk } := I1.kept kp
  have le := cntS_le xs
  apply call_len_set ho ex od fl (by rw [nn]; omega)
  exact ⟨.int (cntS xs : Nat), H1, I2.tok _, ⟨_, by rw [nn]⟩, z⟩
end Pg

/-! Loops over texts, products of texts, what the laws' helpers promise. -/
namespace Pg
open PySem PySem.Spec PyProof.Rows L2

/-! ### loops and comprehensions over a text -/
theorem for_str {z : Str} {g : TG} {tb : TS} {D : Ends} {σ : L2.St} {H : Hp} (Pv : Nat → L2.St → Hp → Prop) (h0 : Pv 0 σ H)
    (hs : ∀ i c σ H, z.cps.toList[i]? = some c → Pv i σ H → g (.str ⟨#[c]⟩) σ H fun σ2 H2 => tb { D with nx := Pv (i + 1), ct := Pv (i + 1), bk := D.nx } σ2 H2) (hd : ∀ σ H, Pv z.length σ H → D.nx σ H) :
    ∃ W : Nat → Nat → L2.St → Hp → Prop, (∃ m, W 0 m σ H) ∧ ∀ i m σ H, W i m σ H →
      ((Its z).stop i H ∧ D.nx σ H) ∨ ((Its z).go i H ∧ ∃ N : L2.St → Hp → Prop, (∀ σ' H', N σ' H' → ∃ m', m' < m ∧ W (i + 1) m' σ' H') ∧ ∀ x H', (Its z).yld i H x H' → g x σ H' fun σ2 H2 => tb { D with nx := N, ct := N, bk := D.nx } σ2 H2) := by
  refine ⟨fun i m σ H => i + m = z.length ∧ Pv i σ H, ⟨z.length, by omega, h0⟩, ?_⟩
  rintro i m σ H ⟨e, p⟩
  by_cases lt : i < z.length
  · refine Or.inr ⟨lt, Pv (i + 1), fun σ' H' q => ⟨m - 1, by omega, by omega, q⟩, ?_⟩
    rintro x H' ⟨rfl, c, hc, rfl⟩
    exact hs i c σ _ (by rw [Array.getElem?_toList]; exact hc) p
  · obtain rfl : i = z.length := by omega
    exact Or.inl ⟨Nat.le_refl _, hd σ H p⟩
theorem lc_str {z : Str} {g : TG} {tt : TT} {te : TE} {vs : List Nat} {σ : L2.St} {H1 : Hp} {D : Addr} {Qd : Hp → Prop} (Pv : Nat → Hp → Prop) (h0 : Pv 0 (upd H1 D (.lst [])))
    (hs : ∀ i c H, z.cps.toList[i]? = some c → Pv i H → g (.str ⟨#[c]⟩) (wipe σ vs) H fun σ2 H2 => wipe σ2 vs = wipe σ vs ∧ tt σ2 H2 fun b H3 =>
      if b = true then te σ2 H3 fun y H4 => ∃ acc, H4 D = some (.lst acc) ∧ acc.length < sizeLine ∧ Pv (i + 1) (upd H4 D (.lst (acc ++ [y]))) else Pv (i + 1) H3) (hd : ∀ H, Pv z.length H → Qd H) :
    ∃ W : Nat → Nat → Hp → Prop, (∃ m, W 0 m (upd H1 D (.lst []))) ∧ ∀ i m H, W i m H →
      ((Its z).stop i H ∧ Qd H) ∨ ((Its z).go i H ∧ ∃ Nx : Hp → Prop, (∀ H', Nx H' → ∃ m', m' < m ∧ W (i + 1) m' H') ∧ ∀ x H', (Its z).yld i H x H' → g x (wipe σ vs) H' fun σ2 H2 => wipe σ2 vs = wipe σ vs ∧ tt σ2 H2 fun b H3 =>
        if b = true then te σ2 H3 fun y H4 => ∃ acc, H4 D = some (.lst acc) ∧ acc.length < sizeLine ∧ Nx (upd H4 D (.lst (acc ++ [y]))) else Nx H3) := by
  refine ⟨fun i m H => i + m = z.length ∧ Pv i H, ⟨z.length, by omega, h0⟩, ?_⟩
  rintro i m H ⟨e, p⟩
  by_cases lt : i < z.length
  · refine Or.inr ⟨lt, Pv (i + 1), fun H' q => ⟨m - 1, by omega, by omega, q⟩, ?_⟩
    rintro x H' ⟨rfl, c, hc, rfl⟩
    exact hs i c _ (by rw [Array.getElem?_toList]; exact hc) p
  · obtain rfl : i = z.length := by omega
    exact Or.inl ⟨Nat.le_refl _, hd H p⟩

/-! ### a module's number -/
theorem pe_cI {X : Cx} {x : Str} {i : Int} {pos : Pos} (hg : Gl X x) (hm : ∃ t, X.mg x = some (.int i t)) (hd : (x == ("__debug__" : Str)) = false := by decide) : PE X (.Name x pos) (tC (.int i)) := by
  obtain ⟨t, e⟩ := hm
  exact pe_glob hg e ⟨t, rfl⟩ hd

/-! ### a text times a number -/
def repS (z : Str) (n : Nat) : Str := ⟨((List.replicate n z.cps.toList).flatten).toArray⟩
theorem foldl_app : ∀ (l : List (Array Nat)) (a : Array Nat), (l.foldl (· ++ ·) a).toList = a.toList ++ (l.map Array.toList).flatten
  | [], a => by simp
  | x :: r, a => by
    rw [List.foldl_cons, foldl_app r (a ++ x)]
    simp
theorem op_mulS {X : Cx} : OpR X (binaryOp .Mult) (fun x y H Q => ∃ (z : Str) (n : Nat), x = .str z ∧ y = .int n ∧ n ≤ 1000 ∧ z.length ≤ 1000 ∧ Q (.str (repS z n)) H) := by
  intro pins s σ H x y v u Q I rx ry h
  obtain ⟨z, n, rfl, rfl, n1, z1, q⟩ := h
  obtain ⟨t, rfl⟩ := rx
  obtain ⟨t', rfl⟩ := ry
  have fin : ∀ (g : Str) (u : Tok) (k : Nat), g = repS z n → EP X pins σ Q (.str g u) { s with toks := k } := by
    rintro g u k rfl
    exact ⟨.str (repS z n), H, I.tok _, ⟨u, rfl⟩, q⟩
  have big : (z.length : Int) ≤ 1000 := by omega
  have lenz : z.length = z.cps.toList.length := by simp [Str.length]
  apply PySem.P.mul_str
  · have h1 : ¬ ((n : Int) < -(2 ^ 63 : Int)) := by omega
    have h2 : ¬ ((n : Int) ≥ 2 ^ 63) := by omega
    rw [decide_eq_false h1, decide_eq_false h2]
    rfl
  · intro n0 _
    have pos : (0 : Int) < n := by omega
    have : (1000 : Int) ≤ (2 ^ 63 - 1) / n := (Int.le_ediv_iff_mul_le pos).mpr (by have : (n : Int) ≤ 1000 := by omega
                                                                                   omega)
    omega
  · intro n0 _
    have h2 : z.length * n ≤ 1000 * 1000 := Nat.mul_le_mul z1 n1
    have hl : sizeLine = 16777216 := sizeLine_eq
    show decide (z.length * ((n : Int)).toNat > sizeLine) = false
    rw [Int.toNat_natCast, hl]
    exact decide_eq_false (by omega)
  · by_cases h0 : (n : Int) < 1
    · rw [if_pos h0]
      have e : n = 0 := by omega
      subst e
      exact ⟨by decide, fin _ _ _ (Str.ext' (by simp [repS, Str.empty]))⟩
    · rw [if_neg h0]
      by_cases h1 : ((n : Int) == 1 || z.length == 0) = true
      · rw [if_pos h1]
        rcases Bool.or_eq_true_iff.mp h1 with e | e
        · have e1 : n = 1 := by have := eq_of_beq e; omega
          subst e1
          refine fin z t s.toks (Str.ext' ?_)
          simp [repS]
        · have e1 : z.cps.toList = [] := List.eq_nil_of_length_eq_zero (by rw [← lenz]; exact eq_of_beq e)
          refine fin z t s.toks (Str.ext' ?_)
          apply Array.toList_inj.mp
          rw [e1]
          simp [repS, e1]
      · rw [if_neg h1]
        have eq : (⟨(List.replicate ((n : Int)).toNat z.cps).foldl (· ++ ·) #[]⟩ : Str) = repS z n := by
          apply Str.ext'
          apply Array.toList_inj.mp
          rw [foldl_app, Int.toNat_natCast]
          simp [repS]
        rw [eq]
        refine ⟨?_, fin _ _ _ rfl⟩
        have hl : sizeLine = 16777216 := sizeLine_eq
        have : (repS z n).length = n * z.length := by simp [repS, Str.length]
        rw [this, hl]
        have h2 : n * z.length ≤ 1000 * 1000 := Nat.mul_le_mul n1 z1
        omega
end Pg
namespace Pg
open PySem PySem.Spec PyProof.Rows L2
/-- within a comprehension: the written part is the def's own -/
theorem ix_listK {X : Cx} {K : PySem.W.Frag} (h : X.K = K) : IxR X (rIxL K) := h ▸ ix_list
theorem ix_tupK {X : Cx} {K : PySem.W.Frag} (h : X.K = K) : IxR X (rIxT K) := h ▸ ix_tup
end Pg

/-! A walk over the items of a written dict of the module. -/
namespace Pg
open PySem PySem.Spec PyProof.Rows L2

/-- the entries of a written dict, as values -/
def Entries (es : Array DictEntry) (kvs : List (V × V)) : Prop := kvs.length = es.size ∧ ∀ (i : Nat) (hi : i < es.size), ∃ k v, kvs[i]? = some (k, v) ∧ RelV k es[i].key ∧ RelV v es[i].val
theorem entries3 {e0 e1 e2 : DictEntry} {k0 v0 k1 v1 k2 v2 : V} (a0 : RelV k0 e0.key) (b0 : RelV v0 e0.val) (a1 : RelV k1 e1.key) (b1 : RelV v1 e1.val) (a2 : RelV k2 e2.key) (b2 : RelV v2 e2.val) :
    Entries #[e0, e1, e2] [(k0, v0), (k1, v1), (k2, v2)] :=
  ⟨rfl, fun i hi => match i, hi with
    | 0, _ => ⟨_, _, rfl, a0, b0⟩
    | 1, _ => ⟨_, _, rfl, a1, b1⟩
    | 2, _ => ⟨_, _, rfl, a2, b2⟩
    | n + 3, hi => absurd hi (by show ¬ (n + 3 < 3); omega)⟩
/-- its items, each a new tuple -/
def ItW (kvs : List (V × V)) : It :=
  ⟨fun i _ => i < kvs.length, fun i H x H' => ∃ T k v, kvs[i]? = some (k, v) ∧ x = .ref T ∧ H T = none ∧ H' = upd H T (.tup [k, v]), fun i _ => kvs.length ≤ i⟩
theorem raw_of {K : PySem.W.Frag} {h : Heap} {d : Addr} {es : Array DictEntry} {n : Nat} (inK : K.In h) (e : K.lookup d = some ⟨.type "dict", none, .dict es n, #[]⟩) : h.DictRaw d es n :=
  ⟨_, inK _ _ e, ⟨rfl, rfl, rfl⟩, rfl⟩
theorem turn_itemsW {P : Program} {w : World} {K : PySem.W.Frag} {d : Addr} {es : Array DictEntry} {n : Nat} {kvs : List (V × V)} {elts : List Expr} {kk : Nat} {tpos : Pos} (it : Addr)
    (at_d : K.lookup d = some ⟨.type "dict", none, .dict es n, #[]⟩) (en : Entries es kvs) : Turn P w K (.Tuple elts kk tpos) (ItW kvs) [it] it (fun i h => ∃ ok ov, IsItemIter h it d i es.size n ok ov) := by
  constructor
  case mem => simp
  case obj =>
    rintro i h ⟨ok, ov, e⟩ b hb
    obtain rfl : b = it := by simpa using hb
    exact ⟨_, e, fun v z => nomatch z⟩
  case keep =>
    rintro i h h' ⟨ok, ov, e⟩ k
    exact ⟨ok, ov, k it (by simp) _ e⟩
  case item =>
    intro X hP hw hK hc i pins s σ H E I hf st hg
    subst hP hw hK
    obtain ⟨ok, ov, he⟩ := st
    have lt : it < s.heap.objs.size := Heap.lt_size he
    have hi : i < es.size := by rw [← en.1]; exact hg
    obtain ⟨k, v, hkv, rk, rv⟩ := en.2 i hi
    apply wpAny_pyNext_items_item_raw he (raw_of I.kIn at_d) hi
    intro h' out here size kp
    refine ⟨_, rfl, ?_⟩
    apply wpAny_letOwnedTupleGo_items (s := { s with heap := h' }) out
    intro h2 back but
    have here2 : h2.get? s.heap.objs.size = some { cls := .type "tuple", data := .seq #[es[i].key, es[i].val] } := (but.2 _ (Nat.ne_of_gt lt)).trans here
    have fresh : H s.heap.objs.size = none := I.hok.fresh (Nat.le_refl _)
    have new : ObjOk X.prog X.w (upd H s.heap.objs.size (.tup [k, v])) h2 s.heap.objs.size (.tup [k, v]) :=
      ⟨by show 2 ≤ sizeLine; decide, [es[i].key, es[i].val], .cons rk (.cons rv .nil), ⟨_, here2, rfl, _, rfl⟩⟩
    have J := I.turnedNew (t' := s.toks) (h' := h2) (ch := [it]) (fun b o hb e => (but.2 b (by simpa using hb)).trans (kp b o (by simpa using hb) e)) hf (Nat.le_refl _) new
    refine ⟨.ref s.heap.objs.size, _, J, rfl, ⟨_, k, v, hkv, rfl, fresh, rfl⟩, ⟨_, _, back⟩, ?_⟩
    intro b hb
    obtain rfl : b = it := by simpa using hb
    rw [upd_ne (Nat.ne_of_lt lt)]
    exact (hf b (by simp)).1
  case done =>
    intro X hP hw hK hc i pins s σ H E I hf st hg
    subst hP hw hK
    obtain ⟨ok, ov, he⟩ := st
    obtain ⟨f0, f1, f2, f3, f4, f5⟩ := hf it (by simp)
    apply wpAny_pyNext_items_end_raw (I.ok.hd hc) he (raw_of I.kIn at_d) (by rw [← en.1]; exact hg)
    intro h' eb
    exact ⟨rfl, I.turned (t' := s.toks) (fun b o hb e => eb b o hb e) f0 f1 f3 f4 f5⟩
  case self =>
    rintro A i s Q E ⟨_, _, e⟩ h
    exact PySem.W.kcp_self e h
/-- for .. in d.items(), d a written dict of the module -/
def iItemsW (K : PySem.W.Frag) (td : TE) : TI := fun σ H R => td σ H fun x H1 => ∃ d es n kvs, x = .ref d ∧ K.lookup d = some ⟨.type "dict", none, .dict es n, #[]⟩ ∧ Entries es kvs ∧ (d == sysModules) = false ∧ R (ItW kvs) H1
theorem pi_itemsW {X : Cx} {e : Expr} {td : TE} {apos cpos : Pos} {elts : List Expr} {kk : Nat} {tpos : Pos} (he : PE X e td) (hbase : attributeBase e "items" X.env (eval e X.env) = eval e X.env := by rfl)
    (hline : (apos.endLine == cpos.line) = true := by rfl) : PI X (.Tuple elts kk tpos) (.Call (.Attribute e "items" apos) [] [] cpos) (iItemsW X.K td) := by
  constructor
  intro pins s σ H R I h
  apply wpAny_Call_method (T := "dict") (id := "dict.items") hbase rfl hline F.plainAttrs_dict F.slot_dict_items F.type_dict_items
  apply thn (he.run pins s σ H _ I h)
  rintro u s1 ⟨x, H1, I1, rx, d, es, n, kvs, rfl, at_d, en, low, q⟩
  obtain rfl : u = Value.ref d := rx
  have raw := raw_of I1.kIn at_d
  refine ⟨raw.typeIs, fun a z => ?_, ?_⟩
  · cases z
    exact ⟨_, I1.kIn _ _ at_d, rfl⟩
  have I2 : Inv X pins σ H1 { s1 with heap := s1.heap.push { cls := .type "dict_items", data := .fields #[.ref d] } } := I1.kept (t' := s1.toks) fun b o z => Heap.get?_push_of_some _ z
  have fin : wpAny (model X.prog X.w) X.A (pyIter (.ref s1.heap.objs.size)) (PIE X pins σ (.Tuple elts kk tpos) R) X.xe { s1 with heap := s1.heap.push { cls := .type "dict_items", data := .fields #[.ref d] } } :=
    wpAny_pyIter_items_raw (d := d) ⟨_, Heap.get?_push_size _ rfl, rfl, rfl⟩ (raw_of I2.kIn at_d)
      (pi_one (tk := s1.toks) I2 _ (turn_itemsW _ at_d en) ⟨.none, .none, Heap.get?_push_size _ rfl⟩ q)
  show wpAny _ _ (callWith cpos (.builtin "dict.items") [.ref d] [] []) _ X.xe s1
  exact method_meetsIn F.slot_dict_items F.entry_dict_items rfl (PySem.evalArgs_none ⟨rfl, raw.typeIs, F.args_dict_items_1 _, _, meets_dict_items_raw d low, ⟨_, _, raw⟩, fin⟩)
theorem for_itemsW {kvs : List (V × V)} {g : TG} {tb : TS} {D : Ends} {σ : L2.St} {H : Hp} (Pv : Nat → L2.St → Hp → Prop) (h0 : Pv 0 σ H)
    (hs : ∀ i k v σ H T, kvs[i]? = some (k, v) → Pv i σ H → H T = none → g (.ref T) σ (upd H T (.tup [k, v])) fun σ2 H2 => tb { D with nx := Pv (i + 1), ct := Pv (i + 1), bk := D.nx } σ2 H2) (hd : ∀ σ H, Pv kvs.length σ H → D.nx σ H) :
    ∃ W : Nat → Nat → L2.St → Hp → Prop, (∃ m, W 0 m σ H) ∧ ∀ i m σ H, W i m σ H →
      ((ItW kvs).stop i H ∧ D.nx σ H) ∨ ((ItW kvs).go i H ∧ ∃ N : L2.St → Hp → Prop, (∀ σ' H', N σ' H' → ∃ m', m' < m ∧ W (i + 1) m' σ' H') ∧ ∀ x H', (ItW kvs).yld i H x H' → g x σ H' fun σ2 H2 => tb { D with nx := N, ct := N, bk := D.nx } σ2 H2) := by
  refine ⟨fun i m σ H => i + m = kvs.length ∧ Pv i σ H, ⟨kvs.length, by omega, h0⟩, ?_⟩
  rintro i m σ H ⟨e, p⟩
  by_cases lt : i < kvs.length
  · refine Or.inr ⟨lt, Pv (i + 1), fun σ' H' q => ⟨m - 1, by omega, by omega, q⟩, ?_⟩
    rintro x H' ⟨T, k, v, hkv, rfl, nT, rfl⟩
    exact hs i k v σ H T hkv p nT
  · obtain rfl : i = kvs.length := by omega
    exact Or.inl ⟨Nat.le_refl _, hd σ H p⟩
end Pg

/-! Segments of a text: the mathematics. -/
namespace Pg
open PySem PySem.Spec PyProof.Rows L2

abbrev cd (z : Str) : List Nat := z.cps.toList
theorem cd_len (z : Str) : z.length = (cd z).length := by simp [Str.length]
theorem cd_inj {x y : Str} (h : cd x = cd y) : x = y := Str.ext' (Array.toList_inj.mp h)
theorem cd_app (x y : Str) : cd (x ++ y) = cd x ++ cd y := by
  show (x.cps ++ y.cps).toList = _
  rw [Array.toList_append]
/-- the signs from a to b -/
def sub (t : Str) (a b : Nat) : Str := ⟨(((cd t).drop a).take (b - a)).toArray⟩
theorem cd_sub (t : Str) (a b : Nat) : cd (sub t a b) = ((cd t).drop a).take (b - a) := rfl
theorem cut_sub (t : Str) (a b : Nat) : cutS t (some (a : Int)) (some (b : Int)) = sub t a b := by
  apply cd_inj
  unfold cutS
  rw [show HT.sIx t.length 0 (some (a : Int)) = min a t.length from HT.sIx_nat t.length 0 a, show HT.sIx t.length t.length (some (b : Int)) = min b t.length from HT.sIx_nat t.length t.length b, cd_len]
  show List.take (min b (cd t).length - min a (cd t).length) (List.drop (min a (cd t).length) (cd t)) = List.take (b - a) (List.drop a (cd t))
  by_cases h : a ≤ (cd t).length
  · rw [Nat.min_eq_left h, List.take_eq_take_iff, List.length_drop]
    omega
  · have h1 : (cd t).length ≤ a := by omega
    rw [Nat.min_eq_right h1, List.drop_of_length_le h1, List.drop_of_length_le (Nat.le_refl _), List.take_nil, List.take_nil]
theorem cut_from (t : Str) (a : Nat) : cutS t (some (a : Int)) none = sub t a t.length := by
  apply cd_inj
  unfold cutS
  rw [show HT.sIx t.length 0 (some (a : Int)) = min a t.length from HT.sIx_nat t.length 0 a, HT.sIx_none, cd_len]
  show List.take ((cd t).length - min a (cd t).length) (List.drop (min a (cd t).length) (cd t)) = List.take (t.length - a) (List.drop a (cd t))
  rw [cd_len]
  by_cases h : a ≤ (cd t).length
  · rw [Nat.min_eq_left h]
  · have h1 : (cd t).length ≤ a := by omega
    rw [Nat.min_eq_right h1, List.drop_of_length_le h1, List.drop_of_length_le (Nat.le_refl _), List.take_nil, List.take_nil]
theorem sub_len {t : Str} {a b : Nat} (h : b ≤ t.length) : (sub t a b).length = b - a := by
  rw [cd_len, cd_sub, List.length_take, List.length_drop, ← cd_len]
  omega
theorem sub_self (t : Str) (a : Nat) : sub t a a = ⟨#[]⟩ := by
  apply cd_inj
  rw [cd_sub, Nat.sub_self, List.take_zero]
theorem sub_full (t : Str) : sub t 0 t.length = t := by
  apply cd_inj
  rw [cd_sub, List.drop_zero, Nat.sub_zero, cd_len, List.take_length]
theorem sub_join {t : Str} {a b c : Nat} (h1 : a ≤ b) (h2 : b ≤ c) : sub t a b ++ sub t b c = sub t a c := by
  apply cd_inj
  rw [cd_app, cd_sub, cd_sub, cd_sub]
  have e : (cd t).drop b = ((cd t).drop a).drop (b - a) := by rw [List.drop_drop]; congr 1; omega
  rw [e]
  have e2 : c - a = (b - a) + (c - b) := by omega
  rw [e2, List.take_add]
theorem sub_one {t : Str} {a c : Nat} (h : (cd t)[a]? = some c) : sub t a (a + 1) = ⟨#[c]⟩ := by
  apply cd_inj
  rw [cd_sub]
  obtain ⟨lt, e⟩ := List.getElem?_eq_some_iff.mp h
  have e1 : a + 1 - a = 1 := by omega
  rw [e1, List.drop_eq_getElem_cons lt, e]
  rfl
/-- one sign there -/
theorem sub_is1 (t : Str) (a c : Nat) : sub t a (a + 1) = ⟨#[c]⟩ ↔ (cd t)[a]? = some c := by
  constructor
  · intro h
    have h2 := congrArg cd h
    rw [cd_sub, show a + 1 - a = 1 by omega] at h2
    cases e : (cd t)[a]? with
    | none =>
      rw [List.drop_of_length_le (List.getElem?_eq_none_iff.mp e)] at h2
      cases h2
    | some d =>
      obtain ⟨lt, e1⟩ := List.getElem?_eq_some_iff.mp e
      rw [List.drop_eq_getElem_cons lt, e1] at h2
      have h3 : [d] = [c] := h2
      rw [List.cons.inj h3 |>.1]
  · exact sub_one
theorem sub_is2 (t : Str) (a c d : Nat) : sub t a (a + 2) = ⟨#[c, d]⟩ ↔ (cd t)[a]? = some c ∧ (cd t)[a + 1]? = some d := by
  have j : sub t a (a + 1) ++ sub t (a + 1) (a + 2) = sub t a (a + 2) := sub_join (by omega) (by omega)
  constructor
  · intro h
    have h2 := congrArg cd h
    rw [cd_sub, show a + 2 - a = 2 by omega] at h2
    have h0 : ((cd t).drop a)[0]? = some c := by
      have : (List.take 2 ((cd t).drop a))[0]? = some c := by rw [h2]; rfl
      rw [List.getElem?_take_of_lt (by omega)] at this
      exact this
    have h1 : ((cd t).drop a)[1]? = some d := by
      have : (List.take 2 ((cd t).drop a))[1]? = some d := by rw [h2]; rfl
      rw [List.getElem?_take_of_lt (by omega)] at this
      exact this
    rw [List.getElem?_drop] at h0 h1
    exact ⟨h0, h1⟩
  · rintro ⟨h0, h1⟩
    rw [← j, sub_one h0, sub_one h1]
    rfl

/-- the first c from i on -/
def closeAt (t : Str) (c i : Nat) : Option Nat := if i + ((cd t).drop i).findIdx (· == c) < (cd t).length then some (i + ((cd t).drop i).findIdx (· == c)) else none
theorem close_some {t : Str} {c i k : Nat} (h1 : i ≤ k) (h2 : (cd t)[k]? = some c) (h3 : ∀ v, i ≤ v → v < k → (cd t)[v]? ≠ some c) : closeAt t c i = some k := by
  have hk : ((cd t).drop i)[k - i]? = some c := by rw [List.getElem?_drop]; rw [show i + (k - i) = k by omega]; exact h2
  obtain ⟨lt, e⟩ := List.getElem?_eq_some_iff.mp hk
  have lt2 : k < (cd t).length := (List.getElem?_eq_some_iff.mp h2).1
  have : ((cd t).drop i).findIdx (· == c) = k - i := by
    rw [List.findIdx_eq lt]
    refine ⟨by rw [e]; exact beq_self_eq_true c, fun j hj => ?_⟩
    have hjl : j < ((cd t).drop i).length := by omega
    rw [beq_eq_false_iff_ne]
    intro e2
    apply h3 (i + j) (by omega) (by omega)
    have h4 : ((cd t).drop i)[j]? = some c := by rw [List.getElem?_eq_getElem hjl, e2]
    rw [List.getElem?_drop] at h4
    exact h4
  unfold closeAt
  rw [this, if_pos (by omega)]
  congr 1
  omega
theorem close_is {t : Str} {c i k : Nat} (h : closeAt t c i = some k) : i ≤ k ∧ k < t.length ∧ (cd t)[k]? = some c ∧ ∀ v, i ≤ v → v < k → (cd t)[v]? ≠ some c := by
  unfold closeAt at h
  by_cases lt : i + ((cd t).drop i).findIdx (· == c) < (cd t).length
  · rw [if_pos lt] at h
    have hk2 : i + ((cd t).drop i).findIdx (· == c) = k := Option.some.inj h
    have lt3 : ((cd t).drop i).findIdx (· == c) < ((cd t).drop i).length := by rw [List.length_drop]; omega
    have e := List.findIdx_getElem (w := lt3)
    have at_k : ((cd t).drop i)[((cd t).drop i).findIdx (· == c)]? = some c := by rw [List.getElem?_eq_getElem lt3, eq_of_beq e]
    rw [List.getElem?_drop, hk2] at at_k
    refine ⟨by omega, by rw [cd_len]; omega, at_k, fun v hv1 hv2 hv3 => ?_⟩
    have hlt : v - i < ((cd t).drop i).findIdx (· == c) := by omega
    have := List.not_of_lt_findIdx hlt
    have h4 : ((cd t).drop i)[v - i]? = some c := by rw [List.getElem?_drop]; rw [show i + (v - i) = v by omega]; exact hv3
    obtain ⟨lt4, e4⟩ := List.getElem?_eq_some_iff.mp h4
    rw [e4] at this
    simp at this
  · rw [if_neg lt] at h
    cases h
theorem close_none {t : Str} {c i : Nat} (h : ∀ v, i ≤ v → (cd t)[v]? ≠ some c) : closeAt t c i = none := by
  cases e : closeAt t c i with
  | none => rfl
  | some k =>
    obtain ⟨h1, _, h2, _⟩ := close_is e
    exact absurd h2 (h k h1)
theorem close_free {t : Str} {c i : Nat} (h : closeAt t c i = none) : ∀ v, i ≤ v → (cd t)[v]? ≠ some c := by
  intro v h1 h2
  have fd : ∀ m k, k - i = m → i ≤ k → (cd t)[k]? = some c → False := by
    intro m
    induction m using Nat.strongRecOn with
    | _ m ih =>
      intro k hm hk1 hk2
      by_cases ex : ∀ v, i ≤ v → v < k → (cd t)[v]? ≠ some c
      · rw [close_some hk1 hk2 ex] at h
        cases h
      · have ⟨v, hv⟩ : ∃ v, ¬ (i ≤ v → v < k → (cd t)[v]? ≠ some c) := Classical.not_forall.mp ex
        have h1' : i ≤ v := Classical.byContradiction fun z => hv fun a => absurd a z
        have h2' : v < k := Classical.byContradiction fun z => hv fun _ b => absurd b z
        have h3' : (cd t)[v]? = some c := Classical.byContradiction fun z => hv fun _ _ => z
        exact ih (v - i) (by omega) v rfl h1' h3'
  exact fd _ v rfl h1 h2
/-- the sign at the start is another: one may begin behind it -/
theorem close_step {t : Str} {c i d : Nat} (h : (cd t)[i]? = some d) (ne : d ≠ c) : closeAt t c i = closeAt t c (i + 1) := by
  have skip : ∀ v, i ≤ v → (cd t)[v]? = some c → i + 1 ≤ v := fun v h1 h2 => by
    by_cases e : v = i
    · rw [e, h] at h2
      exact absurd (Option.some.inj h2) ne
    · omega
  cases e : closeAt t c (i + 1) with
  | none => exact close_none fun v h1 h2 => close_free e v (skip v h1 h2) h2
  | some k =>
    obtain ⟨h1, _, h2, h3⟩ := close_is e
    exact close_some (by omega) h2 fun v v1 v2 v3 => h3 v (skip v v1 v3) v2 v3
/-- str.find of one sign -/
theorem find_close (t : Str) (c i : Nat) : Txt.find3 t ⟨#[c]⟩ (i : Int) = match closeAt t c i with | some k => (k : Int) | none => -1 := by
  have fi : PySem.fromIndex t.length (i : Int) = i := by
    unfold PySem.fromIndex
    rw [if_neg (by omega)]
    omega
  have gd : ∀ v, v < t.length → ((cd t)[v]? = some c ↔ t.cps.getD v 0 = c) := by
    intro v hv
    constructor
    · intro h
      exact StrLaws.getD_of_getElem? h
    · intro h
      exact StrLaws.getElem?_of_getD hv h
  have big : ∀ v, (cd t)[v]? = some c → v < t.length := fun v h => by rw [cd_len]; exact (List.getElem?_eq_some_iff.mp h).1
  rcases StrLaws.find3_spec t c (i : Int) with ⟨h0, hn⟩ | ⟨k, h0, h1, h2, h3, h4⟩
  · rw [fi] at hn
    rw [close_none fun v hv hs => hn v hv (big v hs) ((gd v (big v hs)).mp hs), h0]
  · rw [fi] at h1 h4
    rw [close_some h1 ((gd k h2).mpr h3) fun v hv1 hv2 hs => h4 v hv1 hv2 ((gd v (big v hs)).mp hs), h0]
end Pg

/-! What splits a text. -/
namespace Pg
open PySem PySem.Spec PyProof.Rows L2
abbrev Seg := Str × Str
/-- the segment that is no text and begins at i: its kind, its name, the place behind it -/
def brk (N A : Str → Bool) (t : Str) (i : Nat) : Option (Str × Str × Nat) :=
  if (cd t)[i]? = some 91 then
    match closeAt t 93 (i + 1) with
    | some e => if N (sub t (i + 1) e) = true then some ("link", sub t (i + 1) e, e + 1) else none
    | none => none
  else if (cd t)[i]? = some 60 then
    match closeAt t 62 (i + 1) with
    | some e =>
      if (cd t)[i + 1]? = some 64 then (if (N (sub t (i + 2) e) && A (sub t (i + 2) e)) = true then some ("indirect", sub t (i + 2) e, e + 1) else none)
      else (if (N (sub t (i + 1) e) && A (sub t (i + 1) e)) = true then some ("include", sub t (i + 1) e, e + 1) else none)
    | none => none
  else none
/-- a segment's own text -/
def textOf (s : Seg) : Str := if s.1 = "text" then s.2 else if s.1 = "include" then "<" ++ s.2 ++ ">" else if s.1 = "indirect" then "<@" ++ s.2 ++ ">" else "[" ++ s.2 ++ "]"
theorem text_link (z : Str) : textOf ("link", z) = "[" ++ z ++ "]" := by
  unfold textOf
  rw [if_neg (show ¬ (("link" : Str) = "text") by decide +kernel), if_neg (show ¬ (("link" : Str) = "include") by decide +kernel), if_neg (show ¬ (("link" : Str) = "indirect") by decide +kernel)]
theorem text_ind (z : Str) : textOf ("indirect", z) = "<@" ++ z ++ ">" := by
  unfold textOf
  rw [if_neg (show ¬ (("indirect" : Str) = "text") by decide +kernel), if_neg (show ¬ (("indirect" : Str) = "include") by decide +kernel), if_pos rfl]
theorem text_inc (z : Str) : textOf ("include", z) = "<" ++ z ++ ">" := by
  unfold textOf
  rw [if_neg (show ¬ (("include" : Str) = "text") by decide +kernel), if_pos rfl]
theorem s60 : ("<" : Str) = ⟨#[60]⟩ := by decide +kernel
theorem s62 : (">" : Str) = ⟨#[62]⟩ := by decide +kernel
theorem s91 : ("[" : Str) = ⟨#[91]⟩ := by decide +kernel
theorem s93 : ("]" : Str) = ⟨#[93]⟩ := by decide +kernel
theorem s6064 : ("<@" : Str) = ⟨#[60, 64]⟩ := by decide +kernel
theorem s0 : ("" : Str) = ⟨#[]⟩ := by decide +kernel
theorem wrap1 {t : Str} {i e : Nat} {b c : Nat} (h1 : i + 1 ≤ e) (hb : (cd t)[i]? = some b) (hc : (cd t)[e]? = some c) : (⟨#[b]⟩ : Str) ++ sub t (i + 1) e ++ ⟨#[c]⟩ = sub t i (e + 1) := by
  rw [← sub_one hb, ← sub_one hc, sub_join (by omega) h1, sub_join (by omega) (by omega)]
theorem wrap2 {t : Str} {i e : Nat} {b d c : Nat} (h1 : i + 2 ≤ e) (hb : (cd t)[i]? = some b) (hd : (cd t)[i + 1]? = some d) (hc : (cd t)[e]? = some c) : (⟨#[b, d]⟩ : Str) ++ sub t (i + 2) e ++ ⟨#[c]⟩ = sub t i (e + 1) := by
  rw [← (sub_is2 t i b d).mpr ⟨hb, hd⟩, ← sub_one hc, sub_join (by omega) h1, sub_join (by omega) (by omega)]
def kinds : List Str := ["include", "indirect", "link"]
theorem kinds_no : ∀ k ∈ kinds, k ≠ "text" := by decide +kernel
theorem brk_is {N A : Str → Bool} {t k z : Str} {i e : Nat} (h : brk N A t i = some (k, z, e)) : i < e ∧ e ≤ t.length ∧ textOf (k, z) = sub t i e ∧ k ∈ kinds ∧ z.length ≤ t.length := by
  unfold brk at h
  by_cases h1 : (cd t)[i]? = some 91
  · rw [if_pos h1] at h
    split at h
    · rename_i e0 he
      obtain ⟨c1, c2, c3, _⟩ := close_is he
      split at h
      · cases h
        refine ⟨by omega, by omega, ?_, by decide +kernel, by rw [sub_len (by omega)]; omega⟩
        rw [← wrap1 c1 h1 c3, ← s91, ← s93, text_link]
      · cases h
    · cases h
  · rw [if_neg h1] at h
    by_cases h2 : (cd t)[i]? = some 60
    · rw [if_pos h2] at h
      split at h
      · rename_i e0 he
        obtain ⟨c1, c2, c3, c4⟩ := close_is he
        by_cases h3 : (cd t)[i + 1]? = some 64
        · rw [if_pos h3] at h
          split at h
          · cases h
            have c1' : i + 2 ≤ e0 := by
              by_cases e : e0 = i + 1
              · subst e
                rw [h3] at c3
                cases c3
              · omega
            refine ⟨by omega, by omega, ?_, by decide +kernel, by rw [sub_len (by omega)]; omega⟩
            rw [← wrap2 c1' h2 h3 c3, ← s6064, ← s62, text_ind]
          · cases h
        · rw [if_neg h3] at h
          split at h
          · cases h
            refine ⟨by omega, by omega, ?_, by decide +kernel, by rw [sub_len (by omega)]; omega⟩
            rw [← wrap1 c1 h2 c3, ← s60, ← s62, text_inc]
          · cases h
      · cases h
    · rw [if_neg h2] at h
      cases h
/-- plain signs as a segment, or none -/
def plain (z : Str) : List Seg := if z = ⟨#[]⟩ then [] else [("text", z)]
/-- the segments, when all before `done` is told and i is reached -/
def segs (N A : Str → Bool) (t : Str) (done i : Nat) : List Seg :=
  if i < t.length then
    match brk N A t i with
    | none => segs N A t done (i + 1)
    | some (k, z, e) => if i < e then plain (sub t done i) ++ ((k, z) :: segs N A t e e) else []
  else plain (sub t done t.length)
termination_by t.length - i
theorem segs_end {N A : Str → Bool} {t : Str} {done i : Nat} (h : ¬ i < t.length) : segs N A t done i = plain (sub t done t.length) := by
  rw [segs, if_neg h]
theorem segs_none {N A : Str → Bool} {t : Str} {done i : Nat} (h : i < t.length) (b : brk N A t i = none) : segs N A t done i = segs N A t done (i + 1) := by
  rw [segs, if_pos h, b]
theorem segs_some {N A : Str → Bool} {t k z : Str} {done i e : Nat} (h : i < t.length) (b : brk N A t i = some (k, z, e)) : segs N A t done i = plain (sub t done i) ++ ((k, z) :: segs N A t e e) := by
  rw [segs, if_pos h, b]
  simp only
  rw [if_pos (brk_is b).1]
/-- texts one behind another -/
def glue : List Str → Str
  | [] => ⟨#[]⟩
  | x :: r => x ++ glue r
theorem glue_app : ∀ a b : List Str, glue (a ++ b) = glue a ++ glue b
  | [], b => by
    apply cd_inj
    rw [cd_app]
    rfl
  | x :: a, b => by
    show x ++ glue (a ++ b) = x ++ glue a ++ glue b
    rw [glue_app a b]
    apply cd_inj
    simp only [cd_app, List.append_assoc]
theorem glue_plain (z : Str) : glue ((plain z).map textOf) = z := by
  unfold plain
  split
  · rename_i e
    rw [e]
    rfl
  · apply cd_inj
    show cd (textOf ("text", z) ++ ⟨#[]⟩) = _
    rw [cd_app]
    unfold textOf
    rw [if_pos rfl]
    simp
theorem glue_segs (N A : Str → Bool) (t : Str) : ∀ (m done i : Nat), t.length - i = m → done ≤ i → i ≤ t.length → glue ((segs N A t done i).map textOf) = sub t done t.length := by
  intro m
  induction m using Nat.strongRecOn with
  | _ m ih =>
    intro done i hm h1 h2
    by_cases lt : i < t.length
    · cases b : brk N A t i with
      | none =>
        rw [segs_none lt b]
        exact ih (t.length - (i + 1)) (by omega) done (i + 1) rfl (by omega) (by omega)
      | some r =>
        obtain ⟨k, z, e⟩ := r
        obtain ⟨b1, b2, b3, _⟩ := brk_is b
        rw [segs_some lt b, List.map_append, glue_app, glue_plain, List.map_cons]
        show sub t done i ++ (textOf (k, z) ++ glue ((segs N A t e e).map textOf)) = _
        rw [ih (t.length - e) (by omega) e e rfl (Nat.le_refl _) b2, b3, sub_join (by omega) b2, sub_join h1 (by omega)]
    · rw [segs_end lt, glue_plain]
theorem glue_all (N A : Str → Bool) (t : Str) : glue ((segs N A t 0 0).map textOf) = t := by
  rw [glue_segs N A t t.length 0 0 rfl (Nat.le_refl _) (Nat.zero_le _), sub_full]
def noText : Seg := (("text" : Str), (⟨#[]⟩ : Str))
/-- no empty text, no text beside another one -/
def okL : List Seg → Prop
  | [] => True
  | s :: r => s ≠ noText ∧ (∀ s', r.head? = some s' → ¬ (s.1 = "text" ∧ s'.1 = "text")) ∧ okL r
theorem okL_plain {z : Str} {r : List Seg} (h : okL r) (no : ∀ s, r.head? = some s → s.1 ≠ "text") : okL (plain z ++ r) := by
  unfold plain
  split
  · exact h
  · rename_i e
    exact ⟨fun q => e (Prod.mk.inj q).2, fun s' hs q => no s' hs q.2, h⟩
theorem okL_segs (N A : Str → Bool) (t : Str) : ∀ (m done i : Nat), t.length - i = m → i ≤ t.length → okL (segs N A t done i) := by
  intro m
  induction m using Nat.strongRecOn with
  | _ m ih =>
    intro done i hm h2
    by_cases lt : i < t.length
    · cases b : brk N A t i with
      | none =>
        rw [segs_none lt b]
        exact ih (t.length - (i + 1)) (by omega) done (i + 1) rfl (by omega)
      | some r =>
        obtain ⟨k, z, e⟩ := r
        obtain ⟨b1, b2, b3, b4, _⟩ := brk_is b
        have kn := kinds_no k b4
        rw [segs_some lt b]
        apply okL_plain
        · refine ⟨fun q => kn (Prod.mk.inj q).1, fun s' _ q => kn q.1, ih (t.length - e) (by omega) e e rfl b2⟩
        · intro s hs
          cases hs
          exact kn
    · rw [segs_end lt]
      have : plain (sub t done t.length) = plain (sub t done t.length) ++ [] := (List.append_nil _).symm
      rw [this]
      exact okL_plain trivial (fun s hs => by cases hs)
theorem okL_get : ∀ {l : List Seg} {i : Nat} {s : Seg}, okL l → l[i]? = some s → s ≠ noText ∧ ∀ j r, i = j + 1 → l[j]? = some r → ¬ (s.1 = "text" ∧ r.1 = "text")
  | [], _, _, _, h => by simp at h
  | x :: l, 0, s, ok, h => by
    obtain rfl : x = s := Option.some.inj h
    exact ⟨ok.1, fun j r e => by omega⟩
  | x :: l, i + 1, s, ok, h => by
    have h' : l[i]? = some s := by simpa using h
    obtain ⟨a, b⟩ := okL_get ok.2.2 h'
    refine ⟨a, fun j r e hr => ?_⟩
    obtain rfl : i = j := by omega
    cases i with
    | zero =>
      obtain rfl : x = r := by simpa using hr
      have hd : l.head? = some s := by rw [List.head?_eq_getElem?]; exact h'
      exact fun q => ok.2.1 s hd ⟨q.2, q.1⟩
    | succ i =>
      have hr' : l[i]? = some r := by simpa using hr
      exact b i r rfl hr'
theorem segs_few (N A : Str → Bool) (t : Str) : ∀ (m done i : Nat), t.length - i = m → i ≤ t.length → (segs N A t done i).length ≤ 2 * (t.length - i) + 1 := by
  intro m
  have pl : ∀ z : Str, (plain z).length ≤ 1 := fun z => by unfold plain; split <;> simp
  induction m using Nat.strongRecOn with
  | _ m ih =>
    intro done i hm h2
    by_cases lt : i < t.length
    · cases b : brk N A t i with
      | none =>
        rw [segs_none lt b]
        have := ih (t.length - (i + 1)) (by omega) done (i + 1) rfl (by omega)
        omega
      | some r =>
        obtain ⟨k, z, e⟩ := r
        obtain ⟨b1, b2, _⟩ := brk_is b
        rw [segs_some lt b, List.length_append, List.length_cons]
        have h1 := pl (sub t done i)
        have h2 := ih (t.length - e) (by omega) e e rfl b2
        omega
    · rw [segs_end lt]
      have := pl (sub t done t.length)
      omega
end Pg
namespace Pg
open PySem PySem.Spec PyProof.Rows L2
/-- one kind, tried at i -/
def tryK (N A : Str → Bool) (t : Str) (i : Nat) (k b : Str) (c : Nat) : Option (Str × Str × Nat) :=
  if sub t i (i + b.length) = b then
    match closeAt t c (i + b.length) with
    | some e => if (N (sub t (i + b.length) e) && (decide (k = "link") || A (sub t (i + b.length) e))) = true then some (k, sub t (i + b.length) e, e + 1) else none
    | none => none
  else none
theorem brk_try {N A : Str → Bool} {t : Str} {i : Nat} (hN : ∀ z, N z = true → 64 ∉ cd z) :
    brk N A t i = ((tryK N A t i "include" "<" 62).or ((tryK N A t i "indirect" "<@" 62).or (tryK N A t i "link" "[" 93))) := by
  have l1 : ("<" : Str).length = 1 := rfl
  have l2 : ("<@" : Str).length = 2 := rfl
  have l3 : ("[" : Str).length = 1 := rfl
  have k1 : decide (("include" : Str) = "link") = false := by decide +kernel
  have k2 : decide (("indirect" : Str) = "link") = false := by decide +kernel
  have k3 : decide (("link" : Str) = "link") = true := decide_eq_true rfl
  unfold brk tryK
  rw [l1, l2, l3, k1, k2, k3]
  simp only [s60, s6064, s91, sub_is1, sub_is2, Bool.false_or, Bool.true_or, Bool.and_true]
  by_cases h1 : (cd t)[i]? = some 91
  · have n60 : ¬ (cd t)[i]? = some 60 := by rw [h1]; simp
    rw [if_pos h1, if_neg n60, if_neg (fun z => n60 z.1), if_pos h1]
    rfl
  · rw [if_neg h1]
    by_cases h2 : (cd t)[i]? = some 60
    · rw [if_pos h2, if_pos h2, if_neg h1]
      by_cases h3 : (cd t)[i + 1]? = some 64
      · rw [if_pos ⟨h2, h3⟩]
        have cs : closeAt t 62 (i + 1) = closeAt t 62 (i + 2) := close_step h3 (by decide)
        rw [← cs]
        cases e : closeAt t 62 (i + 1) with
        | none => rfl
        | some k =>
          obtain ⟨c1, c2, c3, _⟩ := close_is e
          have no : N (sub t (i + 1) k) = false := by
            cases q : N (sub t (i + 1) k) with
            | false => rfl
            | true =>
              exfalso
              apply hN _ q
              have lt : i + 1 < k := by
                by_cases z : k = i + 1
                · subst z
                  rw [h3] at c3
                  cases c3
                · omega
              have : (cd (sub t (i + 1) k))[0]? = some 64 := by
                rw [cd_sub, List.getElem?_take_of_lt (by omega), List.getElem?_drop]
                exact h3
              exact List.mem_of_getElem? this
          simp only [h3, no, if_true, Bool.false_and, Bool.false_eq_true, if_false, Option.none_or, Option.or_none]
      · rw [if_neg (fun z => h3 z.2)]
        cases e : closeAt t 62 (i + 1) with
        | none => rfl
        | some k => simp only [h3, if_false, Option.or_none]
    · rw [if_neg h2, if_neg h2, if_neg (fun z => h2 z.1), if_neg h1]
      rfl
theorem segs_kinds (N A : Str → Bool) (t : Str) : ∀ (m done i : Nat), t.length - i = m → done ≤ i → i ≤ t.length → ∀ s ∈ segs N A t done i, (s.1 = "text" ∨ s.1 ∈ kinds) ∧ s.2.length ≤ t.length := by
  intro m
  have pl : ∀ a b : Nat, b ≤ t.length → ∀ s ∈ plain (sub t a b), (s.1 = "text" ∨ s.1 ∈ kinds) ∧ s.2.length ≤ t.length := by
    intro a b hb s hs
    unfold plain at hs
    split at hs
    · cases hs
    · rw [List.mem_singleton.mp hs]
      exact ⟨Or.inl rfl, by show (sub t a b).length ≤ _; rw [sub_len hb]; omega⟩
  induction m using Nat.strongRecOn with
  | _ m ih =>
    intro done i hm h1 h2 s hs
    by_cases lt : i < t.length
    · cases b : brk N A t i with
      | none =>
        rw [segs_none lt b] at hs
        exact ih (t.length - (i + 1)) (by omega) done (i + 1) rfl (by omega) (by omega) s hs
      | some r =>
        obtain ⟨k, z, e⟩ := r
        obtain ⟨b1, b2, _, b4, b5⟩ := brk_is b
        rw [segs_some lt b] at hs
        rcases List.mem_append.mp hs with h | h
        · exact pl done i h2 s h
        · rcases List.mem_cons.mp h with h | h
          · rw [h]
            exact ⟨Or.inr b4, b5⟩
          · exact ih (t.length - e) (by omega) e e rfl (Nat.le_refl _) b2 s h
    · rw [segs_end lt] at hs
      exact pl done t.length (Nat.le_refl _) s hs
end Pg
namespace Pg
open PySem PySem.Spec PyProof.Rows L2
/-- signs that there are -/
def Codes (z : Str) : Prop := ∀ c ∈ cd z, c < 1114112
theorem Codes.ok {z : Str} (h : Codes z) : PyData.strOk z = true := by
  unfold PyData.strOk
  rw [← Array.all_toList, List.all_eq_true]
  intro c hc
  exact decide_eq_true (h c hc)
theorem Codes.sub {t : Str} (h : Codes t) (a b : Nat) : Codes (sub t a b) := fun c hc => h c (List.mem_of_mem_drop (List.mem_of_mem_take hc))
theorem kinds_codes : ∀ k ∈ (("text" : Str) :: kinds), k.cps.toList.all (fun c => decide (c < 127)) = true ∧ k.length ≤ 8 := by decide +kernel
theorem kind_codes {k : Str} (h : k = "text" ∨ k ∈ kinds) : Codes k := fun c hc => by
  have m : k ∈ (("text" : Str) :: kinds) := by
    rcases h with h | h
    · rw [h]; exact List.mem_cons_self
    · exact List.mem_cons_of_mem _ h
  have := of_decide_eq_true (List.all_eq_true.mp (kinds_codes k m).1 c hc)
  omega
/-- a segment of a text: its kind, its signs -/
def Fine (t : Str) (s : Seg) : Prop := (s.1 = "text" ∨ s.1 ∈ kinds) ∧ s.2.length ≤ t.length ∧ ∀ c ∈ cd s.2, c ∈ cd t
theorem plain_fine {t : Str} {a b : Nat} (hb : b ≤ t.length) : ∀ s ∈ plain (sub t a b), Fine t s := by
  intro s hs
  unfold plain at hs
  split at hs
  · cases hs
  · rw [List.mem_singleton.mp hs]
    exact ⟨Or.inl rfl, by show (sub t a b).length ≤ _; rw [sub_len hb]; omega, fun c hc => List.mem_of_mem_drop (List.mem_of_mem_take hc)⟩
theorem brk_part {N A : Str → Bool} {t k z : Str} {i e : Nat} (h : brk N A t i = some (k, z, e)) : ∀ c ∈ cd z, c ∈ cd t := by
  have sb : ∀ a b, ∀ c ∈ cd (sub t a b), c ∈ cd t := fun a b c hc => List.mem_of_mem_drop (List.mem_of_mem_take hc)
  unfold brk at h
  repeat' split at h
  all_goals first
    | (cases h; done)
    | (cases h; exact sb _ _)
theorem segs_fine (N A : Str → Bool) (t : Str) : ∀ (m done i : Nat), t.length - i = m → done ≤ i → i ≤ t.length → ∀ s ∈ segs N A t done i, Fine t s := by
  intro m
  induction m using Nat.strongRecOn with
  | _ m ih =>
    intro done i hm h1 h2 s hs
    by_cases lt : i < t.length
    · cases b : brk N A t i with
      | none =>
        rw [segs_none lt b] at hs
        exact ih (t.length - (i + 1)) (by omega) done (i + 1) rfl (by omega) (by omega) s hs
      | some r =>
        obtain ⟨k, z, e⟩ := r
        obtain ⟨b1, b2, _, b4, b5⟩ := brk_is b
        rw [segs_some lt b] at hs
        rcases List.mem_append.mp hs with h | h
        · exact plain_fine h2 s h
        · rcases List.mem_cons.mp h with h | h
          · rw [h]
            exact ⟨Or.inr b4, b5, brk_part b⟩
          · exact ih (t.length - e) (by omega) e e rfl (Nat.le_refl _) b2 s h
    · rw [segs_end lt] at hs
      exact plain_fine (Nat.le_refl _) s hs
end Pg
namespace Pg
open PySem PySem.Spec PyProof.Rows L2
theorem brk_after {N A : Str → Bool} {t k z : Str} {i e : Nat} (h : brk N A t i = some (k, z, e)) : (k = "link" ∧ N z = true) ∨ ((k = "include" ∨ k = "indirect") ∧ N z = true ∧ A z = true) := by
  unfold brk at h
  repeat' split at h
  all_goals first
    | (cases h; done)
    | (rename_i q; cases h; exact .inl ⟨rfl, q⟩)
    | (rename_i q; cases h; obtain ⟨q1, q2⟩ := Bool.and_eq_true_iff.mp q; exact .inr ⟨.inl rfl, q1, q2⟩)
    | (rename_i q; cases h; obtain ⟨q1, q2⟩ := Bool.and_eq_true_iff.mp q; exact .inr ⟨.inr rfl, q1, q2⟩)
theorem plain_kind {z : Str} : ∀ s ∈ plain z, s.1 = "text" := by
  intro s hs
  unfold plain at hs
  split at hs
  · cases hs
  · rw [List.mem_singleton.mp hs]
theorem segs_after (N A : Str → Bool) (t : Str) : ∀ (m done i : Nat), t.length - i = m → i ≤ t.length → ∀ s ∈ segs N A t done i, s.1 = "text" ∨ (s.1 = "link" ∧ N s.2 = true) ∨ ((s.1 = "include" ∨ s.1 = "indirect") ∧ N s.2 = true ∧ A s.2 = true) := by
  intro m
  induction m using Nat.strongRecOn with
  | _ m ih =>
    intro done i hm h2 s hs
    by_cases lt : i < t.length
    · cases b : brk N A t i with
      | none =>
        rw [segs_none lt b] at hs
        exact ih (t.length - (i + 1)) (by omega) done (i + 1) rfl (by omega) s hs
      | some r =>
        obtain ⟨k, z, e⟩ := r
        obtain ⟨b1, b2, _⟩ := brk_is b
        rw [segs_some lt b] at hs
        rcases List.mem_append.mp hs with h | h
        · exact .inl (plain_kind s h)
        · rcases List.mem_cons.mp h with h | h
          · rw [h]
            exact .inr (brk_after b)
          · exact ih (t.length - e) (by omega) e e rfl b2 s h
    · rw [segs_end lt] at hs
      exact .inl (plain_kind s hs)
end Pg

/-! Dicts with texts as keys, as rows of pairs. -/
namespace Pg
open PySem PySem.Spec PyProof.Rows L2
section
variable {β : Type}
/-- the row of pairs as the dict's own -/
def enc (f : β → V) (kvs : List (Str × β)) : List (Key × V) := kvs.map fun p => (Sum.inr p.1, f p.2)
def getS : List (Str × β) → Str → Option β
  | [], _ => none
  | p :: r, k => if p.1 = k then some p.2 else getS r k
/-- in its place, or at the end -/
def putS : List (Str × β) → Str → β → List (Str × β)
  | [], k, v => [(k, v)]
  | p :: r, k, v => if p.1 = k then (p.1, v) :: r.map (fun q => if q.1 = k then (q.1, v) else q) else p :: putS r k v
theorem valV_enc (f : β → V) : ∀ (kvs : List (Str × β)) (k : Str), valV (enc f kvs) (Sum.inr k) = (getS kvs k).map f
  | [], k => rfl
  | p :: r, k => by
    by_cases e : p.1 = k
    · rw [show enc f (p :: r) = (Sum.inr p.1, f p.2) :: enc f r from rfl, valV_pos (by rw [e]), getS, if_pos e]
      rfl
    · rw [show enc f (p :: r) = (Sum.inr p.1, f p.2) :: enc f r from rfl, valV_neg (fun h => e (Sum.inr.inj h)), getS, if_neg e]
      exact valV_enc f r k
theorem any_enc (f : β → V) : ∀ (kvs : List (Str × β)) (k : Str), ((enc f kvs).any fun kv => decide (kv.1 = Sum.inr k)) = (getS kvs k).isSome
  | [], k => rfl
  | p :: r, k => by
    rw [show enc f (p :: r) = (Sum.inr p.1, f p.2) :: enc f r from rfl, List.any_cons, getS]
    by_cases e : p.1 = k
    · rw [if_pos e, decide_eq_true (by rw [e]), Bool.true_or]
      rfl
    · rw [if_neg e, decide_eq_false (fun h => e (Sum.inr.inj h)), Bool.false_or]
      exact any_enc f r k
theorem map_enc (f : β → V) (k : Str) (v : β) : ∀ kvs : List (Str × β), (enc f kvs).map (fun kv => if kv.1 = Sum.inr k then (kv.1, f v) else kv) = enc f (kvs.map fun q => if q.1 = k then (q.1, v) else q)
  | [] => rfl
  | p :: r => by
    have ih := map_enc f k v r
    show (if (Sum.inr p.1 : Key) = Sum.inr k then ((Sum.inr p.1 : Key), f v) else (Sum.inr p.1, f p.2)) :: (enc f r).map _ = (Sum.inr (if p.1 = k then (p.1, v) else p).1, f (if p.1 = k then (p.1, v) else p).2) :: enc f (r.map _)
    rw [ih]
    by_cases e : p.1 = k
    · rw [if_pos e, if_pos (by rw [e])]
    · rw [if_neg e, if_neg (fun h => e (Sum.inr.inj h))]
theorem putS_has : ∀ {kvs : List (Str × β)} {k : Str} {v : β}, (getS kvs k).isSome = true → putS kvs k v = kvs.map (fun q => if q.1 = k then (q.1, v) else q)
  | [], k, v, h => by cases h
  | p :: r, k, v, h => by
    unfold putS
    by_cases e : p.1 = k
    · rw [if_pos e, List.map_cons, if_pos e]
    · rw [getS, if_neg e] at h
      rw [if_neg e, putS_has h, List.map_cons, if_neg e]
theorem putS_new : ∀ {kvs : List (Str × β)} {k : Str} {v : β}, (getS kvs k).isSome = false → putS kvs k v = kvs ++ [(k, v)]
  | [], k, v, h => rfl
  | p :: r, k, v, h => by
    unfold putS
    by_cases e : p.1 = k
    · rw [getS, if_pos e] at h
      cases h
    · rw [getS, if_neg e] at h
      rw [if_neg e, putS_new h]
      rfl
theorem putK_enc (f : β → V) (kvs : List (Str × β)) (k : Str) (v : β) : putK (enc f kvs) (Sum.inr k) (f v) = enc f (putS kvs k v) := by
  unfold putK
  rw [any_enc]
  cases e : (getS kvs k).isSome with
  | true => rw [if_pos rfl, putS_has e, map_enc]
  | false =>
    rw [if_neg Bool.false_ne_true, putS_new e]
    unfold enc
    rw [List.map_append]
    rfl
theorem keys_put : ∀ (kvs : List (Str × β)) (k : Str) (v : β), (putS kvs k v).map (·.1) = if (getS kvs k).isSome = true then kvs.map (·.1) else kvs.map (·.1) ++ [k] := by
  intro kvs k v
  cases e : (getS kvs k).isSome with
  | true =>
    rw [if_pos rfl, putS_has e, List.map_map]
    refine List.map_congr_left fun p _ => ?_
    show (if p.1 = k then (p.1, v) else p).1 = p.1
    split <;> rfl
  | false =>
    rw [if_neg Bool.false_ne_true, putS_new e, List.map_append]
    rfl
theorem get_some : ∀ {kvs : List (Str × β)} {k : Str} {v : β}, getS kvs k = some v → (k, v) ∈ kvs
  | [], k, v, h => by cases h
  | p :: r, k, v, h => by
    rw [getS] at h
    by_cases e : p.1 = k
    · rw [if_pos e] at h
      obtain rfl := Option.some.inj h
      rw [← e]
      exact List.mem_cons_self
    · rw [if_neg e] at h
      exact List.mem_cons_of_mem _ (get_some h)
theorem get_none : ∀ {kvs : List (Str × β)} {k : Str}, getS kvs k = none ↔ k ∉ kvs.map (·.1)
  | [], k => ⟨fun _ h => (by cases h), fun _ => rfl⟩
  | p :: r, k => by
    rw [getS, List.map_cons, List.mem_cons]
    by_cases e : p.1 = k
    · rw [if_pos e]
      exact ⟨fun h => (by cases h), fun h => absurd (Or.inl e.symm) h⟩
    · rw [if_neg e, get_none]
      exact ⟨fun h z => z.elim (fun q => e q.symm) h, fun h z => h (Or.inr z)⟩
theorem nodup_put {kvs : List (Str × β)} (k : Str) (v : β) (h : (kvs.map (·.1)).Nodup) : ((putS kvs k v).map (·.1)).Nodup := by
  rw [keys_put]
  split
  · exact h
  · rename_i e
    have n : getS kvs k = none := by
      cases q : getS kvs k with
      | none => rfl
      | some _ => rw [q] at e; exact absurd rfl e
    have nin := get_none.mp n
    rw [List.nodup_append]
    exact ⟨h, by simp, fun a ha c hc => by rw [List.mem_singleton.mp hc]; rintro rfl; exact nin ha⟩
theorem mem_put {kvs : List (Str × β)} {k : Str} {v : β} {p : Str × β} (h : p ∈ putS kvs k v) : p = (k, v) ∨ p ∈ kvs := by
  cases e : (getS kvs k).isSome with
  | true =>
    rw [putS_has e] at h
    obtain ⟨q, hq, rfl⟩ := List.mem_map.mp h
    by_cases z : q.1 = k
    · rw [if_pos z, z]
      exact Or.inl rfl
    · rw [if_neg z]
      exact Or.inr hq
  | false =>
    rw [putS_new e] at h
    rcases List.mem_append.mp h with h | h
    · exact Or.inr h
    · exact Or.inl (List.mem_singleton.mp h)
theorem get_put {kvs : List (Str × β)} {k j : Str} {v : β} : getS (putS kvs k v) j = if j = k then some v else getS kvs j := by
  induction kvs with
  | nil =>
    show (if k = j then some v else none) = _
    by_cases e : j = k
    · rw [if_pos e, if_pos e.symm]
    · rw [if_neg e, if_neg (fun h => e h.symm)]
      rfl
  | cons p r ih =>
    unfold putS
    by_cases e : p.1 = k
    · rw [if_pos e]
      by_cases z : j = k
      · rw [if_pos z, getS, if_pos (by rw [z]; exact e)]
      · rw [if_neg z, getS, getS, if_neg (by rw [e]; exact fun h => z h.symm), if_neg (by rw [e]; exact fun h => z h.symm)]
        have mp : ∀ l : List (Str × β), getS (l.map fun q => if q.1 = k then (q.1, v) else q) j = getS l j := by
          intro l
          induction l with
          | nil => rfl
          | cons q l il =>
            rw [List.map_cons, getS, getS, il]
            by_cases w : q.1 = k
            · rw [if_pos w, if_neg (by show ¬ q.1 = j; rw [w]; exact fun h => z h.symm), if_neg (by rw [w]; exact fun h => z h.symm)]
            · rw [if_neg w]
        exact mp r
    · rw [if_neg e, getS, getS, ih]
      by_cases z : p.1 = j
      · rw [if_pos z, if_pos z, if_neg (by rw [← z]; exact e)]
      · rw [if_neg z, if_neg z]
theorem len_put (kvs : List (Str × β)) (k : Str) (v : β) : (putS kvs k v).length ≤ kvs.length + 1 := by
  cases e : (getS kvs k).isSome with
  | true => rw [putS_has e, List.length_map]; omega
  | false => rw [putS_new e, List.length_append]; exact Nat.le_refl _
end
/-- some different texts out of a row are no more than the row -/
theorem few_of : ∀ {xs ys : List Str}, xs.Nodup → (∀ x ∈ xs, x ∈ ys) → xs.length ≤ ys.length
  | [], _, _, _ => Nat.zero_le _
  | x :: r, ys, nd, h => by
    obtain ⟨nx, nr⟩ := List.nodup_cons.mp nd
    have mx := h x List.mem_cons_self
    have ih := few_of (ys := ys.erase x) nr fun y hy => (List.mem_erase_of_ne (by rintro rfl; exact nx hy)).mpr (h y (List.mem_cons_of_mem _ hy))
    rw [List.length_erase_of_mem mx] at ih
    have : 0 < ys.length := List.length_pos_of_mem mx
    rw [List.length_cons]
    omega
end Pg

/-! Texts in their order: sorted of any number, and rows that rise. -/
namespace Pg
open PySem PySem.Spec PyProof.Rows L2
section
variable {X : Cx}
/-- sorted(l), l a row of texts of any length: the same texts, in order, in a new row -/
def rSortedSA (K : PySem.W.Frag) : List V → Hp → VK → Prop := fun args H Q =>
  ∃ (l : Addr) (texts : List Str), args = [.ref l] ∧ SqL K H l (texts.map V.str) ∧
    ∀ (inOrder : List Str) (new : Addr), inOrder.Perm texts → sortedS inOrder = true → H new = none →
      Q (.ref new) (upd H new (.lst (inOrder.map V.str)))
theorem cr_sortedSA : CallR X (.builtin "sorted") (rSortedSA X.K) := by
  rintro pins s σ H args vals Q I rel ⟨l, texts, rfl, at_l, want⟩
  obtain ⟨items, same, isl, small⟩ := I.list at_l
  rw [Vals.ref1 rel]
  have size := same.length
  apply PyProof.Rows.sorted_strsAny isl.isList same.strs (by rw [← size]; exact small)
  intro out inOrder areTexts perm order
  obtain ⟨extra, made⟩ := PyProof.Rows.sortedAll_at s.heap items out
  have isNew : H (s.heap.objs.size + 1) = none := I.hok.fresh (Nat.le_succ _)
  have fits : (inOrder.map V.str).length ≤ sizeLine := by
    rw [List.length_map] at small ⊢
    rw [perm.length_eq]
    exact small
  refine ⟨V.ref (s.heap.objs.size + 1), upd H (s.heap.objs.size + 1) (.lst (inOrder.map V.str)), ?_, rfl, ?_⟩
  · apply I.laid (t' := s.toks) (fun _ _ old => PyProof.Rows.sortedAll_old old) (Nat.le_succ _)
    exact ⟨fits, out.toList, extra, vals_of_strs areTexts, made⟩
  · exact want inOrder _ perm order isNew
end
theorem lc_irr : ∀ a : List Nat, ltCps a a = false
  | [] => rfl
  | x :: r => by simp [ltCps, lc_irr r]
theorem lc_trans : ∀ {a b c : List Nat}, ltCps a b = true → ltCps b c = true → ltCps a c = true
  | [], [], _, h, _ => by cases h
  | [], _ :: _, [], _, h => by cases h
  | [], _ :: _, _ :: _, _, _ => rfl
  | _ :: _, [], _, h, _ => by cases h
  | _ :: _, _ :: _, [], _, h => by cases h
  | x :: a, y :: b, z :: c, h, k => by
    simp only [ltCps, Bool.or_eq_true, decide_eq_true_eq, Bool.and_eq_true, beq_iff_eq] at h k ⊢
    rcases h with h | ⟨rfl, h⟩
    · rcases k with k | ⟨rfl, k⟩
      · exact Or.inl (by omega)
      · exact Or.inl h
    · rcases k with k | ⟨rfl, k⟩
      · exact Or.inl k
      · exact Or.inr ⟨rfl, lc_trans h k⟩
theorem lc_tri : ∀ {a b : List Nat}, ltCps a b = false → ltCps b a = false → a = b
  | [], [], _, _ => rfl
  | [], _ :: _, h, _ => by cases h
  | _ :: _, [], _, h => by cases h
  | x :: a, y :: b, h, k => by
    simp only [ltCps, Bool.or_eq_false_iff, decide_eq_false_iff_not, Bool.and_eq_false_iff, beq_eq_false_iff_ne] at h k
    have e : x = y := by omega
    subst e
    rw [lc_tri (h.2.resolve_left fun q => q rfl) (k.2.resolve_left fun q => q rfl)]
/-- x stands ahead of y -/
def ahead (x y : Str) : Bool := ltCps (cd x) (cd y)
theorem ahead_irr (x : Str) : ahead x x = false := lc_irr _
theorem ahead_trans {x y z : Str} (h : ahead x y = true) (k : ahead y z = true) : ahead x z = true := lc_trans h k
theorem ahead_tri {x y : Str} (h : ahead x y = false) (k : ahead y x = false) : x = y := cd_inj (lc_tri h k)
/-- each stands ahead of the next ones -/
def Rise (l : List Str) : Prop := l.Pairwise fun a b => ahead a b = true
def insS (x : Str) : List Str → List Str
  | [] => [x]
  | y :: r => if ahead x y = true then x :: y :: r else if x = y then y :: r else y :: insS x r
def rise (l : List Str) : List Str := l.foldr insS []
theorem mem_ins {x z : Str} : ∀ {l : List Str}, z ∈ insS x l ↔ z = x ∨ z ∈ l
  | [] => by simp [insS]
  | y :: r => by
    unfold insS
    split
    · simp
    · split
      · rename_i e
        subst e
        simp
      · rw [List.mem_cons, mem_ins, List.mem_cons]
        constructor
        · rintro (h | h | h)
          · exact Or.inr (Or.inl h)
          · exact Or.inl h
          · exact Or.inr (Or.inr h)
        · rintro (h | h | h)
          · exact Or.inr (Or.inl h)
          · exact Or.inl h
          · exact Or.inr (Or.inr h)
theorem rise_ins {x : Str} : ∀ {l : List Str}, Rise l → Rise (insS x l)
  | [], _ => List.pairwise_singleton _ _
  | y :: r, h => by
    obtain ⟨h1, h2⟩ := List.pairwise_cons.mp h
    unfold insS
    split
    · rename_i e
      refine List.pairwise_cons.mpr ⟨fun z hz => ?_, h⟩
      rcases List.mem_cons.mp hz with rfl | hz
      · exact e
      · exact ahead_trans e (h1 z hz)
    · split
      · exact h
      · rename_i e ne
        refine List.pairwise_cons.mpr ⟨fun z hz => ?_, rise_ins h2⟩
        rcases mem_ins.mp hz with rfl | hz
        · cases q : ahead y z with
          | true => rfl
          | false =>
            refine absurd (ahead_tri ?_ q) ne
            cases w : ahead z y with
            | false => rfl
            | true => exact absurd w e
        · exact h1 z hz
theorem rise_rise : ∀ l : List Str, Rise (rise l)
  | [] => List.Pairwise.nil
  | x :: r => rise_ins (rise_rise r)
theorem mem_rise {z : Str} : ∀ {l : List Str}, z ∈ rise l ↔ z ∈ l
  | [] => Iff.rfl
  | x :: r => by
    show z ∈ insS x (rise r) ↔ _
    rw [mem_ins, mem_rise, List.mem_cons]
/-- rows that rise and have the same texts are one -/
theorem rise_ext : ∀ {a b : List Str}, Rise a → Rise b → (∀ x, x ∈ a ↔ x ∈ b) → a = b
  | [], [], _, _, _ => rfl
  | [], y :: b, _, _, h => by cases (h y).mpr List.mem_cons_self
  | x :: a, [], _, _, h => by cases (h x).mp List.mem_cons_self
  | x :: a, y :: b, ha, hb, h => by
    obtain ⟨ha1, ha2⟩ := List.pairwise_cons.mp ha
    obtain ⟨hb1, hb2⟩ := List.pairwise_cons.mp hb
    have e : x = y := by
      rcases List.mem_cons.mp ((h x).mp List.mem_cons_self) with e | hx
      · exact e
      · rcases List.mem_cons.mp ((h y).mpr List.mem_cons_self) with e | hy
        · exact e.symm
        · have := ahead_trans (hb1 x hx) (ha1 y hy)
          rw [ahead_irr] at this
          cases this
    subst e
    rw [rise_ext ha2 hb2 fun z => ?_]
    constructor
    · intro hz
      rcases List.mem_cons.mp ((h z).mp (List.mem_cons_of_mem _ hz)) with e | hz2
      · rw [e] at hz
        have := ha1 x hz
        rw [ahead_irr] at this
        cases this
      · exact hz2
    · intro hz
      rcases List.mem_cons.mp ((h z).mpr (List.mem_cons_of_mem _ hz)) with e | hz2
      · rw [e] at hz
        have := hb1 x hz
        rw [ahead_irr] at this
        cases this
      · exact hz2
theorem rising_pw : ∀ {l : List Str} {p : Str}, risingS p l = true → (∀ x ∈ l, ahead x p = false) ∧ l.Pairwise fun a b => ahead b a = false
  | [], _, _ => ⟨fun x hx => (by cases hx), List.Pairwise.nil⟩
  | x :: r, p, h => by
    obtain ⟨h1, h2⟩ := Bool.and_eq_true_iff.mp h
    have hxp : ahead x p = false := by
      cases q : ahead x p with
      | false => rfl
      | true =>
        have h1 : (!ahead x p) = true := h1
        rw [q] at h1
        cases h1
    obtain ⟨k1, k2⟩ := rising_pw h2
    refine ⟨fun z hz => ?_, List.pairwise_cons.mpr ⟨k1, k2⟩⟩
    rcases List.mem_cons.mp hz with rfl | hz
    · exact hxp
    · have hzx := k1 z hz
      cases q : ahead z p with
      | false => rfl
      | true =>
        cases w : ahead p x with
        | true =>
          have := ahead_trans q w
          rw [hzx] at this
          cases this
        | false =>
          have e := ahead_tri hxp w
          rw [e] at hzx
          rw [hzx] at q
          cases q
theorem sorted_pw {l : List Str} (h : sortedS l = true) : l.Pairwise fun a b => ahead b a = false := by
  cases l with
  | nil => exact List.Pairwise.nil
  | cons x r =>
    obtain ⟨h1, h2⟩ := rising_pw (p := x) (l := r) h
    exact List.pairwise_cons.mpr ⟨h1, h2⟩
/-- the next of a sorted row, if it is new, rises behind what stands -/
theorem rise_snoc {rs ys : List Str} {j : Nat} {y : Str} (hr : Rise rs) (hm : ∀ x, x ∈ rs ↔ x ∈ ys.take j) (hs : sortedS ys = true) (hy : ys[j]? = some y) (nin : y ∉ rs) : Rise (rs ++ [y]) := by
  refine List.pairwise_append.mpr ⟨hr, List.pairwise_singleton _ _, fun a ha b hb => ?_⟩
  rw [List.mem_singleton.mp hb]
  have pw := sorted_pw hs
  have ha2 := (hm a).mp ha
  obtain ⟨i, hi⟩ := List.getElem?_of_mem ha2
  have hij : i < j := by
    by_cases lt : i < j
    · exact lt
    · rw [List.getElem?_eq_none (by rw [List.length_take]; omega)] at hi
      cases hi
  rw [List.getElem?_take_of_lt hij] at hi
  have li : i < ys.length := by
    by_cases lt : i < ys.length
    · exact lt
    · rw [List.getElem?_eq_none (by omega)] at hi
      cases hi
  have lj : j < ys.length := by
    by_cases lt : j < ys.length
    · exact lt
    · rw [List.getElem?_eq_none (by omega)] at hy
      cases hy
  have e1 : ys[i] = a := by
    rw [List.getElem?_eq_getElem li] at hi
    exact Option.some.inj hi
  have e2 : ys[j] = y := by
    rw [List.getElem?_eq_getElem lj] at hy
    exact Option.some.inj hy
  have h := (List.pairwise_iff_getElem.mp pw) i j li lj hij
  rw [e1, e2] at h
  cases q : ahead a y with
  | true => rfl
  | false => exact absurd (ahead_tri h q) (by rintro rfl; exact nin ha)
end Pg

/-! Own classes by their names; data that no store reaches. -/
namespace Pg
open PySem PySem.Spec PyProof.Rows L2
/-- a method of the class at C, with all its arguments given -/
def CalM (P : Program) (w : World) (K : PySem.W.Frag) (mg : Str → Option Value) (base : Heap) (C : Addr) (m : Str) (k : Nat) (ps : List Str) (sp : Sp) : Prop :=
  Cls K C ∧ ∃ f fd, FnOk P w K mg base CX0 k f fd ps sp ∧ Binds K fd ps [] ∧ Meth K C m f
/-- the class x at C, made by an __init__ of that promise -/
def CalK (P : Program) (w : World) (K : PySem.W.Frag) (mg : Str → Option Value) (base : Heap) (x : Str) (C : Addr) (k : Nat) (ps : List Str) (sp : Sp) : Prop :=
  mg x = some (.ref C) ∧ ∃ f fd, Mk K C f ∧ FnOk P w K mg base CX0 k f fd ps sp ∧ Binds K fd ps []
section
variable {X : Cx} {C : Addr} {k : Nat} {m x : Str} {ps : List Str} {sp : Sp} {o e : Expr} {es : List Expr} {to : TE} {t : TA} {apos pos p : Pos}
theorem pe_calM {pl : Sem Bool} (M : CalM X.prog X.w X.K X.mg X.base C m k ps sp) (hr : Room k X.A) (ho : PE X o to) (ha : PA X (e :: es) t)
    (hst : starEach (e :: es) X.env = (false, eval e X.env) :: starEach es X.env := by rfl) (hpl : (backTo pos (starEach es X.env)).any (·.1) = false := by rfl)
    (ht : eval (.Call (.Attribute o m apos) (e :: es) [] pos) X.env = (do
      let ov ← eval o X.env
      standAt apos.atName
      let (f, first) ← holding [ov] (getMethod ov m pl)
      callWith pos f first (backTo pos (starEach (e :: es) X.env)) (backToKw pos (keywordEach [] X.env))) := by rfl) :
    PE X (.Call (.Attribute o m apos) (e :: es) [] pos) (tMeth C m sp [] E0 to t) := by
  obtain ⟨c, f, fd, F, b, h⟩ := M
  exact pe_meth ho c h F hr b .nil pass0 ha hst hpl ht
theorem pe_calM0 {pl : Sem Bool} (M : CalM X.prog X.w X.K X.mg X.base C m k ps sp) (hr : Room k X.A) (ho : PE X o to)
    (ht : eval (.Call (.Attribute o m apos) [] [] pos) X.env = (do
      let ov ← eval o X.env
      standAt apos.atName
      let (f, first) ← holding [ov] (getMethod ov m pl)
      callWith pos f first (backTo pos (starEach [] X.env)) (backToKw pos (keywordEach [] X.env))) := by rfl) :
    PE X (.Call (.Attribute o m apos) [] [] pos) (tMeth C m sp [] E0 to tNil) := by
  obtain ⟨c, f, fd, F, b, h⟩ := M
  exact pe_meth0 ho c h F hr b .nil pass0 ht
theorem pe_mk0 (M : CalK X.prog X.w X.K X.mg X.base x C k ps sp) (hr : Room (k + 1) X.A) (hg : Gl X x) (hdb : (x == ("__debug__" : Str)) = false := by decide) : PE X (.Call (.Name x p) [] [] pos) (tMake C sp [] E0 tNil) := by
  obtain ⟨g, f, fd, mk, F, b⟩ := M
  exact pe_make0 mk F hr hg g b .nil pass0 hdb
theorem pe_mkA (M : CalK X.prog X.w X.K X.mg X.base x C k ps sp) (hr : Room (k + 1) X.A) (hg : Gl X x) (ha : PA X (e :: es) t) (hdb : (x == ("__debug__" : Str)) = false := by decide)
    (he : starEach (e :: es) X.env = (false, eval e X.env) :: starEach es X.env := by rfl) (hpl : (backTo pos (starEach es X.env)).any (·.1) = false := by rfl) :
    PE X (.Call (.Name x p) (e :: es) [] pos) (tMake C sp [] E0 t) := by
  obtain ⟨g, f, fd, mk, F, b⟩ := M
  exact pe_make mk F hr hg g b .nil pass0 ha hdb he hpl
end
theorem same_seqT {K : PySem.W.Frag} {H H' : Hp} {a : Addr} {xs : List V} (e : Same H H') (h : SqT K H a xs) : SqT K H' a xs := by
  rcases h with (h | ⟨o, h⟩) | h
  · exact .inl (.inl (e _ _ h))
  · exact .inl (.inr ⟨o, e _ _ h⟩)
  · exact .inr h
/-! ### data of tuples, texts, numbers: no store reaches it -/
/-- all tuples are as they were -/
def KeepT (K : PySem.W.Frag) (H H' : Hp) : Prop := ∀ a xs, SqT K H a xs → SqT K H' a xs
theorem Same.keepT {K : PySem.W.Frag} {H H' : Hp} (e : Same H H') : KeepT K H H' := fun _ _ h => same_seqT e h
theorem KeepT.trans {K : PySem.W.Frag} {H H1 H2 : Hp} (a : KeepT K H H1) (b : KeepT K H1 H2) : KeepT K H H2 := fun c xs h => b c xs (a c xs h)
/-- a store at an object that is no tuple -/
theorem KeepT.upd {K : PySem.W.Frag} {H : Hp} {p : Addr} {o : HO} (no : ∀ xs, H p ≠ some (.tup xs)) (nf : ∀ b xs, H p ≠ some (.frz b (.tup xs))) : KeepT K H (upd H p o) := by
  rintro a xs ((h | ⟨b, h⟩) | h)
  · exact .inl (.inl (by rw [upd_ne (by rintro rfl; exact no _ h)]; exact h))
  · exact .inl (.inr ⟨b, by rw [upd_ne (by rintro rfl; exact nf _ _ h)]; exact h⟩)
  · exact .inr h
mutual
def noL : PyData → Bool
  | .tuple ds => noLAll ds
  | .list _ => false
  | .dict _ => false
  | _ => true
def noLAll : List PyData → Bool
  | [] => true
  | d :: ds => noL d && noLAll ds
end
mutual
theorem Dp.keepT {K : PySem.W.Frag} {H H' : Hp} (k : KeepT K H H') : ∀ (d : PyData) (v : V), noL d = true → Dp K H v d → Dp K H' v d
  | .none, _, _, h => by cases h; exact .non
  | .bool b, _, _, h => by cases h; exact .bl b
  | .int i, _, _, h => by cases h; exact .int i
  | .str x, _, _, h => by cases h; exact .str x
  | .tuple ds, _, n, h => by
    cases h with
    | tup hs ha => exact .tup (k _ _ hs) (DpAll.keepT k ds _ n ha)
  | .list _, _, n, _ => by cases n
  | .dict _, _, n, _ => by cases n
theorem DpAll.keepT {K : PySem.W.Frag} {H H' : Hp} (k : KeepT K H H') : ∀ (ds : List PyData) (vs : List V), noLAll ds = true → DpAll K H vs ds → DpAll K H' vs ds
  | [], _, _, h => by cases h; exact .nil
  | d :: ds, _, n, h => by
    have n' : noL d = true ∧ noLAll ds = true := Bool.and_eq_true_iff.mp n
    cases h with
    | cons h1 h2 => exact .cons (Dp.keepT k d _ n'.1 h1) (DpAll.keepT k ds _ n'.2 h2)
end
/-! no truth value: equal as values is equal as data -/
mutual
def noB : PyData → Bool
  | .tuple ds => noBAll ds
  | .list ds => noBAll ds
  | .bool _ => false
  | .dict _ => false
  | _ => true
def noBAll : List PyData → Bool
  | [] => true
  | d :: ds => noB d && noBAll ds
end
mutual
theorem eqv_iff : ∀ (d e : PyData), noB d = true → noB e = true → (PyData.eqv d e = true ↔ d = e)
  | .none, e, _, n2 => by cases e <;> simp_all [PyData.eqv, noB]
  | .int i, e, _, n2 => by cases e <;> simp_all [PyData.eqv, noB]
  | .str x, e, _, n2 => by cases e <;> simp_all [PyData.eqv, noB]
  | .tuple ds, e, n1, n2 => by
    cases e with
    | tuple es =>
      rw [PyData.eqv, eqvAll_iff ds es n1 n2]
      exact ⟨fun h => by rw [h], fun h => PyData.tuple.inj h⟩
    | _ => simp_all [PyData.eqv, noB]
  | .list ds, e, n1, n2 => by
    cases e with
    | list es =>
      rw [PyData.eqv, eqvAll_iff ds es n1 n2]
      exact ⟨fun h => by rw [h], fun h => PyData.list.inj h⟩
    | _ => simp_all [PyData.eqv, noB]
  | .bool _, _, n1, _ => by cases n1
  | .dict _, _, n1, _ => by cases n1
theorem eqvAll_iff : ∀ (ds es : List PyData), noBAll ds = true → noBAll es = true → (PyData.eqvAll ds es = true ↔ ds = es)
  | [], [], _, _ => by simp [PyData.eqvAll]
  | [], _ :: _, _, _ => by simp [PyData.eqvAll]
  | _ :: _, [], _, _ => by simp [PyData.eqvAll]
  | d :: ds, e :: es, n1, n2 => by
    have n1' : noB d = true ∧ noBAll ds = true := Bool.and_eq_true_iff.mp n1
    have n2' : noB e = true ∧ noBAll es = true := Bool.and_eq_true_iff.mp n2
    rw [PyData.eqvAll, Bool.and_eq_true, eqv_iff d e n1'.1 n2'.1, eqvAll_iff ds es n1'.2 n2'.2]
    exact ⟨fun ⟨a, b⟩ => by rw [a, b], fun h => List.cons.inj h⟩
end
end Pg

/-! Data of a known size: what repr and == ask of it, put together from its parts. -/
namespace Pg
open PySem PySem.Spec PyProof.Rows L2
/-- at most D deep, at most M signs and parts -/
structure Sz (D M : Nat) (d : PyData) : Prop where
  ok : d.showable = true
  cl : d.canLay0 = true
  dep : d.depth ≤ D
  lv : d.leavesShort 13 = true
  bk : d.bulk ≤ M
structure SzA (D M : Nat) (ds : List PyData) : Prop where
  ok : PyData.showableAll ds = true
  cl : PyData.canLayAll0 ds = true
  dep : PyData.depthAll ds ≤ D
  lv : PyData.leavesShortAll 13 ds = true
  bk : PyData.bulkAll ds ≤ M
theorem Sz.mono {D D' M M' : Nat} {d : PyData} (s : Sz D M d) (h1 : D ≤ D') (h2 : M ≤ M') : Sz D' M' d := ⟨s.ok, s.cl, Nat.le_trans s.dep h1, s.lv, Nat.le_trans s.bk h2⟩
theorem SzA.mono {D D' M M' : Nat} {d : List PyData} (s : SzA D M d) (h1 : D ≤ D') (h2 : M ≤ M') : SzA D' M' d := ⟨s.ok, s.cl, Nat.le_trans s.dep h1, s.lv, Nat.le_trans s.bk h2⟩
theorem Sz.none : Sz 0 0 .none := ⟨rfl, rfl, Nat.le_refl _, rfl, Nat.le_refl _⟩
theorem Sz.bool (b : Bool) : Sz 0 0 (.bool b) := ⟨rfl, rfl, Nat.le_refl _, rfl, Nat.le_refl _⟩
theorem Sz.int {i : Int} (h1 : -999999999999 ≤ i) (h2 : i ≤ 999999999999) : Sz 0 0 (.int i) := by
  refine ⟨?_, rfl, Nat.le_refl _, ?_, Nat.le_refl _⟩
  · simp only [PyData.showable]
    refine decide_eq_true ?_
    by_cases z : i.natAbs = 0
    · rw [z]
      decide
    · refine (Nat.log2_lt z).mpr (Nat.lt_of_lt_of_le (show i.natAbs < 2 ^ 40 by omega) (Nat.pow_le_pow_right (n := 2) (by decide) (by decide)))
  · simp only [PyData.leavesShort]
    exact decide_eq_true (PyData.shown_int_le2 h1 h2)
theorem Sz.str {z : Str} {M : Nat} (c : Codes z) (l : z.length ≤ M) : Sz 0 M (.str z) := by
  refine ⟨rfl, ?_, Nat.le_refl _, ?_, ?_⟩
  · simp only [PyData.canLay0]
    exact c.ok
  · simp only [PyData.leavesShort]
    rw [List.all_eq_true]
    intro x hx
    have := c x hx
    exact decide_eq_true (by omega)
  · simp only [PyData.bulk]
    exact l
theorem SzA.nil {D : Nat} : SzA D 0 [] := ⟨rfl, rfl, Nat.zero_le _, rfl, Nat.le_refl _⟩
theorem SzA.cons {D M N : Nat} {d : PyData} {ds : List PyData} (a : Sz D M d) (b : SzA D N ds) : SzA D (M + 1 + N) (d :: ds) := by
  refine ⟨?_, ?_, ?_, ?_, ?_⟩
  · simp only [PyData.showableAll, a.ok, b.ok, Bool.and_true]
  · simp only [PyData.canLayAll0, a.cl, b.cl, Bool.and_true]
  · simp only [PyData.depthAll]
    exact Nat.max_le.mpr ⟨a.dep, b.dep⟩
  · simp only [PyData.leavesShortAll, a.lv, b.lv, Bool.and_true]
  · simp only [PyData.bulkAll]
    have := a.bk
    have := b.bk
    omega
theorem SzA.all {D M n : Nat} : ∀ {ds : List PyData}, (∀ d ∈ ds, Sz D M d) → ds.length ≤ n → SzA D (n * (M + 1)) ds
  | [], _, _ => SzA.nil.mono (Nat.le_refl _) (Nat.zero_le _)
  | d :: ds, h, l => by
    obtain ⟨n, rfl⟩ : ∃ m, n = m + 1 := ⟨n - 1, by rw [List.length_cons] at l; omega⟩
    have ih := SzA.all (n := n) (fun x hx => h x (List.mem_cons_of_mem _ hx)) (by rw [List.length_cons] at l; omega)
    refine (SzA.cons (h d List.mem_cons_self) ih).mono (Nat.le_refl _) ?_
    rw [Nat.succ_mul]
    omega
theorem SzA.tup {D M : Nat} {ds : List PyData} (a : SzA D M ds) : Sz (D + 1) M (.tuple ds) := by
  refine ⟨?_, ?_, ?_, ?_, ?_⟩
  · simp only [PyData.showable, a.ok]
  · simp only [PyData.canLay0, a.cl]
  · simp only [PyData.depth]
    exact Nat.succ_le_succ a.dep
  · simp only [PyData.leavesShort, a.lv]
  · simp only [PyData.bulk]
    exact a.bk
theorem SzA.lst {D M : Nat} {ds : List PyData} (a : SzA D M ds) : Sz (D + 1) M (.list ds) := by
  refine ⟨?_, ?_, ?_, ?_, ?_⟩
  · simp only [PyData.showable, a.ok]
  · simp only [PyData.canLay0, a.cl]
  · simp only [PyData.depth]
    exact Nat.succ_le_succ a.dep
  · simp only [PyData.leavesShort, a.lv]
  · simp only [PyData.bulk]
    exact a.bk
theorem Sz.nd {D M : Nat} {d : PyData} (s : Sz D M d) : d.hasDict = false := PyData.hasDict_of_canLay _ s.cl
theorem Sz.fits {D M : Nat} {d : PyData} (s : Sz D M d) (h : M ≤ 2 ^ 20) : d.shown.length ≤ sizeLine := PyData.shown_fits_bulk (B := 13) (by decide) (by decide) s.lv (Nat.le_trans s.bk h)
theorem Sz.shaped {D M : Nat} {d : PyData} (s : Sz D M d) (h : D ≤ 64) : SeqAt.shaped d = true := by
  unfold SeqAt.shaped
  rw [s.cl, Bool.true_and]
  exact decide_eq_true (Nat.le_trans s.dep h)
/-- .. of tuples, texts, numbers, None alone -/
structure Pd (D M : Nat) (d : PyData) : Prop where
  sz : Sz D M d
  nl : noL d = true
  nb : noB d = true
structure PdA (D M : Nat) (ds : List PyData) : Prop where
  sz : SzA D M ds
  nl : noLAll ds = true
  nb : noBAll ds = true
theorem Pd.mono {D D' M M' : Nat} {d : PyData} (s : Pd D M d) (h1 : D ≤ D') (h2 : M ≤ M') : Pd D' M' d := ⟨s.sz.mono h1 h2, s.nl, s.nb⟩
theorem PdA.mono {D D' M M' : Nat} {d : List PyData} (s : PdA D M d) (h1 : D ≤ D') (h2 : M ≤ M') : PdA D' M' d := ⟨s.sz.mono h1 h2, s.nl, s.nb⟩
theorem Pd.none : Pd 0 0 .none := ⟨Sz.none, rfl, rfl⟩
theorem Pd.int {i : Int} (h1 : -999999999999 ≤ i) (h2 : i ≤ 999999999999) : Pd 0 0 (.int i) := ⟨Sz.int h1 h2, rfl, rfl⟩
theorem Pd.str {z : Str} {M : Nat} (c : Codes z) (l : z.length ≤ M) : Pd 0 M (.str z) := ⟨Sz.str c l, rfl, rfl⟩
theorem PdA.nil {D : Nat} : PdA D 0 [] := ⟨SzA.nil, rfl, rfl⟩
theorem PdA.cons {D M N : Nat} {d : PyData} {ds : List PyData} (a : Pd D M d) (b : PdA D N ds) : PdA D (M + 1 + N) (d :: ds) :=
  ⟨SzA.cons a.sz b.sz, by simp only [noLAll, a.nl, b.nl, Bool.and_true], by simp only [noBAll, a.nb, b.nb, Bool.and_true]⟩
theorem PdA.all {D M n : Nat} {ds : List PyData} (h : ∀ d ∈ ds, Pd D M d) (l : ds.length ≤ n) : PdA D (n * (M + 1)) ds := by
  refine ⟨SzA.all (fun d hd => (h d hd).sz) l, ?_, ?_⟩
  · clear l
    induction ds with
    | nil => rfl
    | cons d r ih =>
      rw [noLAll, (h d List.mem_cons_self).nl, ih fun x hx => h x (List.mem_cons_of_mem _ hx)]
      rfl
  · clear l
    induction ds with
    | nil => rfl
    | cons d r ih =>
      rw [noBAll, (h d List.mem_cons_self).nb, ih fun x hx => h x (List.mem_cons_of_mem _ hx)]
      rfl
theorem PdA.tup {D M : Nat} {ds : List PyData} (a : PdA D M ds) : Pd (D + 1) M (.tuple ds) := ⟨a.sz.tup, by simp only [noL, a.nl], by simp only [noB, a.nb]⟩
theorem PdA.mem {D M : Nat} : ∀ {ds : List PyData}, PdA D M ds → ∀ d ∈ ds, Pd D M d
  | x :: ds, a, d, hd => by
    obtain ⟨⟨a1, a2, a3, a4, a5⟩, b1, b2⟩ := a
    have a1' : x.showable = true ∧ PyData.showableAll ds = true := Bool.and_eq_true_iff.mp a1
    have a2' : x.canLay0 = true ∧ PyData.canLayAll0 ds = true := Bool.and_eq_true_iff.mp a2
    have a3' : x.depth ≤ D ∧ PyData.depthAll ds ≤ D := Nat.max_le.mp a3
    have a4' : x.leavesShort 13 = true ∧ PyData.leavesShortAll 13 ds = true := Bool.and_eq_true_iff.mp a4
    have a5' : x.bulk + 1 + PyData.bulkAll ds ≤ M := a5
    have b1' : noL x = true ∧ noLAll ds = true := Bool.and_eq_true_iff.mp b1
    have b2' : noB x = true ∧ noBAll ds = true := Bool.and_eq_true_iff.mp b2
    rcases List.mem_cons.mp hd with rfl | hd
    · exact ⟨⟨a1'.1, a2'.1, a3'.1, a4'.1, by omega⟩, b1'.1, b2'.1⟩
    · exact PdA.mem (ds := ds) ⟨⟨a1'.2, a2'.2, a3'.2, a4'.2, by omega⟩, b1'.2, b2'.2⟩ d hd
theorem Pd.parts {D M : Nat} {ds : List PyData} (p : Pd D M (.tuple ds)) : PdA D M ds := by
  obtain ⟨⟨a1, a2, a3, a4, a5⟩, b1, b2⟩ := p
  have a3' : PyData.depthAll ds + 1 ≤ D := a3
  exact ⟨⟨a1, a2, by omega, a4, a5⟩, b1, b2⟩
theorem Pd.keep {D M : Nat} {K : PySem.W.Frag} {H H' : Hp} {v : V} {d : PyData} (p : Pd D M d) (k : KeepT K H H') (h : Dp K H v d) : Dp K H' v d := Dp.keepT k d v p.nl h
theorem PdA.keep {D M : Nat} {K : PySem.W.Frag} {H H' : Hp} {v : List V} {d : List PyData} (p : PdA D M d) (k : KeepT K H H') (h : DpAll K H v d) : DpAll K H' v d := DpAll.keepT k d v p.nl h
theorem Pd.eqv {D M D' M' : Nat} {d e : PyData} (a : Pd D M d) (b : Pd D' M' e) : PyData.eqv d e = true ↔ d = e := eqv_iff d e a.nb b.nb
theorem dpAll_len {K : PySem.W.Frag} {H : Hp} : ∀ {vs : List V} {ds : List PyData}, DpAll K H vs ds → vs.length = ds.length
  | _, _, .nil => rfl
  | _, _, .cons _ t => congrArg (· + 1) (dpAll_len t)
theorem dpAll_get {K : PySem.W.Frag} {H : Hp} : ∀ {vs : List V} {ds : List PyData} {i : Nat} {d : PyData}, DpAll K H vs ds → ds[i]? = some d → ∃ v, vs[i]? = some v ∧ Dp K H v d
  | _, _, 0, _, .cons h _, e => ⟨_, rfl, by rw [← Option.some.inj e]; exact h⟩
  | _, _, i + 1, _, .cons _ t, e => dpAll_get (i := i) t e
theorem dpAll_get' {K : PySem.W.Frag} {H : Hp} : ∀ {vs : List V} {ds : List PyData} {i : Nat} {v : V}, DpAll K H vs ds → vs[i]? = some v → ∃ d, ds[i]? = some d ∧ Dp K H v d
  | _, _, 0, _, .cons h _, e => ⟨_, rfl, by rw [← Option.some.inj e]; exact h⟩
  | _, _, i + 1, _, .cons _ t, e => dpAll_get' (i := i) t e
theorem dpAll_app {K : PySem.W.Frag} {H : Hp} : ∀ {vs ws : List V} {ds es : List PyData}, DpAll K H vs ds → DpAll K H ws es → DpAll K H (vs ++ ws) (ds ++ es)
  | _, _, _, _, .nil, h => h
  | _, _, _, _, .cons a t, h => .cons a (dpAll_app t h)
theorem dpAll_take {K : PySem.W.Frag} {H : Hp} : ∀ {vs : List V} {ds : List PyData} (n : Nat), DpAll K H vs ds → DpAll K H (vs.take n) (ds.take n)
  | _, _, 0, _ => .nil
  | _, _, _ + 1, .nil => .nil
  | _, _, n + 1, .cons a t => .cons a (dpAll_take n t)
/-- a list of data -/
def LAt (K : PySem.W.Frag) (H : Hp) (l : Addr) (ds : List PyData) : Prop := ∃ vs, H l = some (.lst vs) ∧ DpAll K H vs ds
theorem LAt.keep {D M : Nat} {K : PySem.W.Frag} {H H' : Hp} {l : Addr} {ds : List PyData} (a : LAt K H l ds) (p : PdA D M ds) (k : KeepT K H H') (e : H' l = H l) : LAt K H' l ds :=
  let ⟨vs, h, d⟩ := a
  ⟨vs, e.trans h, p.keep k d⟩
theorem LAt.same {D M : Nat} {K : PySem.W.Frag} {H H' : Hp} {l : Addr} {ds : List PyData} (a : LAt K H l ds) (p : PdA D M ds) (s : Same H H') : LAt K H' l ds :=
  let ⟨vs, h, d⟩ := a
  ⟨vs, s _ _ h, p.keep (Same.keepT s) d⟩
theorem LAt.dp {K : PySem.W.Frag} {H : Hp} {l : Addr} {ds : List PyData} (a : LAt K H l ds) : Dp K H (.ref l) (.list ds) :=
  let ⟨_, h, d⟩ := a
  .lst (.inl (.inl h)) d
/-! ### a dict comprehension over the items of a dict that is locked meanwhile -/
theorem dc_items {d : Addr} {o : Obj} {kvs : List (Key × V)} {g : TG} {tt : TT} {tk tv : TE} {vs : List Nat} {σ : L2.St} {H1 : Hp} {D : Addr} {Qd : Hp → Prop} (Pv : Nat → Hp → Prop) (h0 : Pv 0 (upd H1 D (.dK [])))
    (hl : ∀ i H, i ≤ kvs.length → Pv i H → H d = some (.frz o (.dK kvs)))
    (hs : ∀ i k v T H, kvs[i]? = some (k, v) → Pv i H → H T = none → g (.ref T) (wipe σ vs) (upd H T (.tup [kV k, v])) fun σ2 H2 => wipe σ2 vs = wipe σ vs ∧ tt σ2 H2 fun b H3 =>
      if b = true then tk σ2 H3 fun y H4 => tv σ2 H4 fun z H5 => ∃ kws k, y = kV k ∧ H5 D = some (.dK kws) ∧ kws.length < sizeLine ∧ Pv (i + 1) (upd H5 D (.dK (putK kws k z))) else Pv (i + 1) H3) (hd : ∀ H, Pv kvs.length H → Qd H) :
    ∃ W : Nat → Nat → Hp → Prop, (∃ m, W 0 m (upd H1 D (.dK []))) ∧ ∀ i m H, W i m H →
      ((Iti d o kvs).stop i H ∧ Qd H) ∨ ((Iti d o kvs).go i H ∧ ∃ Nx : Hp → Prop, (∀ H', Nx H' → ∃ m', m' < m ∧ W (i + 1) m' H') ∧ ∀ x H', (Iti d o kvs).yld i H x H' → g x (wipe σ vs) H' fun σ2 H2 => wipe σ2 vs = wipe σ vs ∧ tt σ2 H2 fun b H3 =>
        if b = true then tk σ2 H3 fun y H4 => tv σ2 H4 fun z H5 => ∃ kws k, y = kV k ∧ H5 D = some (.dK kws) ∧ kws.length < sizeLine ∧ Nx (upd H5 D (.dK (putK kws k z))) else Nx H3) := by
  refine ⟨fun i m H => i + m = kvs.length ∧ Pv i H, ⟨kvs.length, by omega, h0⟩, ?_⟩
  rintro i m H ⟨e, p⟩
  have lk := hl i H (by omega) p
  by_cases lt : i < kvs.length
  · refine Or.inr ⟨⟨lk, lt⟩, Pv (i + 1), fun H' q => ⟨m - 1, by omega, by omega, q⟩, ?_⟩
    rintro x H' ⟨T, k, v, hkv, rfl, nT, rfl⟩
    exact hs i k v T H hkv p nT
  · obtain rfl : i = kvs.length := by omega
    exact Or.inl ⟨⟨lk, Nat.le_refl _⟩, hd H p⟩
/-! ### small things -/
/-- within a comprehension: the written part is the def's own -/
theorem op_eqDK {X : Cx} {K : PySem.W.Frag} (h : X.K = K) (hu : X.A.units + 64 < cLine) : OpR X (compareOp .Eq) (rEqD K) := h ▸ op_eqD hu
theorem op_neDK {X : Cx} {K : PySem.W.Frag} (h : X.K = K) (hu : X.A.units + 64 < cLine) : OpR X (compareOp .NotEq) (rNeD K) := h ▸ op_neD hu
theorem op_in_seqK {X : Cx} {K : PySem.W.Frag} (h : X.K = K) : OpR X (compareOp .In) (rIn K false) := h ▸ op_in_seq
theorem pg_tupK {X : Cx} {K : PySem.W.Frag} {es : List Expr} {k : Nat} {t : TGs} {n : Nat} {pos : Pos} (e : X.K = K) (hc : X.calm = true) (h : PGs X es t)
    (hn : (assignEach es X.env).length = n := by rfl) (hst : (assignEach es X.env).findIdx? (·.1) = none := by rfl) : PG X (.Tuple es k pos) (gTup K n t) := e ▸ pg_tup hc h hn hst
theorem op_notIn_seqK {X : Cx} {K : PySem.W.Frag} (h : X.K = K) : OpR X (compareOp .NotIn) (rIn K true) := h ▸ op_notIn_seq
theorem inV_str (x : Str) (ys : List Str) : inV (.str x) (ys.map V.str) = decide (x ∈ ys) := by
  unfold inV
  rw [List.any_map, Bool.eq_iff_iff, List.any_eq_true, decide_eq_true_eq]
  constructor
  · rintro ⟨y, hy, e⟩
    have e' : (y == x) = true := e
    rw [← eq_of_beq e']
    exact hy
  · intro h
    exact ⟨x, h, (beq_self_eq_true x : (x == x) = true)⟩
theorem flat_str (ys : List Str) : (ys.map V.str).all flatV = true := by
  rw [List.all_map, List.all_eq_true]
  intro y _
  rfl
theorem cutV_up (xs : List V) (j : Nat) : cutV xs none (some (j : Int)) = xs.take j := by
  unfold cutV
  rw [HT.sIx_none, show HT.sIx xs.length xs.length (some (j : Int)) = min j xs.length from HT.sIx_nat xs.length xs.length j]
  show List.take (min j xs.length - 0) (List.drop 0 xs) = _
  rw [List.drop_zero, Nat.sub_zero, List.take_eq_take_iff]
  omega
theorem putS_app {β : Type} (kvs : List (Str × β)) (k : Str) (v : β) (h : k ∉ kvs.map (·.1)) : putS kvs k v = kvs ++ [(k, v)] := by
  apply putS_new
  rw [get_none.mpr h]
  rfl
/-- a list stays where a store goes to something else -/
theorem sqL_upd {K : PySem.W.Frag} {H : Hp} {p a : Addr} {o : HO} {xs : List V} (no : ∀ xs, H p ≠ some (.lst xs)) (nf : ∀ b xs, H p ≠ some (.frz b (.lst xs))) (h : SqL K H a xs) : SqL K (upd H p o) a xs := by
  rcases h with (h | ⟨b, h⟩) | h
  · exact .inl (.inl (by rw [upd_ne (by rintro rfl; exact no _ h)]; exact h))
  · exact .inl (.inr ⟨b, by rw [upd_ne (by rintro rfl; exact nf _ _ h)]; exact h⟩)
  · exact .inr h
end Pg

/-! Rows of numbers, cut and put together; comprehensions that work on values alone; a module's text. -/
namespace Pg
open PySem PySem.Spec PyProof.Rows L2

theorem pe_cS {X : Cx} {x z : Str} {pos : Pos} (hg : Gl X x) (hm : ∃ t, X.mg x = some (.str z t)) (hd : (x == ("__debug__" : Str)) = false := by decide) : PE X (.Name x pos) (tC (.str z)) := by
  obtain ⟨t, e⟩ := hm
  exact pe_glob hg e ⟨t, rfl⟩ hd
/-- numbers that are not below 0 -/
def vN (bs : List Nat) : List V := bs.map fun n => V.int (n : Nat)
theorem vN_len (bs : List Nat) : (vN bs).length = bs.length := List.length_map _
theorem vN_app (a b : List Nat) : vN (a ++ b) = vN a ++ vN b := List.map_append
theorem vN_take (a : List Nat) (n : Nat) : vN (a.take n) = (vN a).take n := List.map_take
theorem vN_drop (a : List Nat) (n : Nat) : vN (a.drop n) = (vN a).drop n := List.map_drop
theorem vN_set (a : List Nat) (n x : Nat) : vN (a.set n x) = (vN a).set n (.int (x : Nat)) := List.map_set
theorem vN_rep (n x : Nat) : vN (List.replicate n x) = List.replicate n (.int (x : Nat)) := List.map_replicate
theorem vN_get {bs : List Nat} {i n : Nat} (h : bs[i]? = some n) : (vN bs)[i]? = some (V.int (n : Nat)) := by
  unfold vN
  rw [List.getElem?_map, h]
  rfl
theorem vN_get' {bs : List Nat} {i : Nat} {x : V} (h : (vN bs)[i]? = some x) : ∃ n, bs[i]? = some n ∧ x = V.int (n : Nat) := by
  unfold vN at h
  rw [List.getElem?_map] at h
  cases e : bs[i]? with
  | none => rw [e] at h; cases h
  | some n => rw [e] at h; exact ⟨n, rfl, (Option.some.inj h).symm⟩
theorem dpAll_vN {K : PySem.W.Frag} {H : Hp} : ∀ bs : List Nat, DpAll K H (vN bs) (bs.map fun n => PyData.int (n : Nat))
  | [] => .nil
  | _ :: r => .cons (.int _) (dpAll_vN r)
theorem dp_vN {K : PySem.W.Frag} {H : Hp} {l : Addr} {bs : List Nat} (h : H l = some (.lst (vN bs))) : Dp K H (.ref l) (.list (bs.map fun n => PyData.int (n : Nat))) := .lst (.inl (.inl h)) (dpAll_vN bs)
theorem sz_vN {bs : List Nat} {n : Nat} (h : ∀ b ∈ bs, b ≤ 999999999999) (l : bs.length ≤ n) : Sz 1 (n * 1) (.list (bs.map fun n => PyData.int (n : Nat))) := by
  refine (SzA.all (fun d hd => ?_) (by rw [List.length_map]; exact l)).lst
  obtain ⟨b, hb, rfl⟩ := List.mem_map.mp hd
  have := h b hb
  exact Sz.int (by omega) (by omega)
theorem noB_vN : ∀ bs : List Nat, noBAll (bs.map fun n => PyData.int (n : Nat)) = true
  | [] => rfl
  | b :: r => by
    show (noB _ && noBAll _) = true
    rw [show noB (.int (b : Nat)) = true from rfl, Bool.true_and]
    exact noB_vN r
theorem cut_nn (xs : List V) (a b : Nat) : cutV xs (some (a : Int)) (some (b : Int)) = (xs.drop a).take (b - a) := by
  unfold cutV
  rw [show HT.sIx xs.length 0 (some (a : Int)) = min a xs.length from HT.sIx_nat _ _ _, show HT.sIx xs.length xs.length (some (b : Int)) = min b xs.length from HT.sIx_nat _ _ _]
  by_cases h : a ≤ xs.length
  · rw [Nat.min_eq_left h, List.take_eq_take_iff, List.length_drop]
    omega
  · rw [List.drop_of_length_le (by omega), List.drop_of_length_le (i := a) (by omega), List.take_nil, List.take_nil]
theorem cut_n_ (xs : List V) (a : Nat) : cutV xs (some (a : Int)) none = xs.drop a := by
  unfold cutV
  rw [show HT.sIx xs.length 0 (some (a : Int)) = min a xs.length from HT.sIx_nat _ _ _, HT.sIx_none]
  by_cases h : a ≤ xs.length
  · rw [Nat.min_eq_left h]
    exact List.take_of_length_le (by rw [List.length_drop]; omega)
  · rw [List.drop_of_length_le (by omega), List.drop_of_length_le (i := a) (by omega), List.take_nil]
theorem cut_nm (xs : List V) (a : Nat) : cutV xs (some (a : Int)) (some (-1)) = (xs.drop a).take (xs.length - 1 - a) := by
  unfold cutV
  rw [show HT.sIx xs.length 0 (some (a : Int)) = min a xs.length from HT.sIx_nat _ _ _]
  have e : HT.sIx xs.length xs.length (some (-1)) = xs.length - 1 := by
    show (if (-1 : Int) < 0 then ((-1 : Int) + (xs.length : Int)).toNat else min (-1 : Int).toNat xs.length) = _
    rw [if_pos (by decide)]
    omega
  rw [e]
  by_cases h : a ≤ xs.length
  · rw [Nat.min_eq_left h]
  · rw [List.drop_of_length_le (by omega), List.drop_of_length_le (i := a) (by omega), List.take_nil, List.take_nil]
theorem at_last {xs : List V} {v : V} (h : xs.getLast? = some v) : atI xs (-1) = some v := by
  have ne : xs ≠ [] := by
    rintro rfl
    cases h
  have pos : 0 < xs.length := List.length_pos_iff.mpr ne
  unfold atI ixN
  rw [if_neg (by decide), if_pos (by omega)]
  show xs[((-1 : Int) + (xs.length : Int)).toNat]? = _
  rw [List.getLast?_eq_getElem?] at h
  rw [← h]
  congr 1
  omega
/-- a comprehension that makes each item anew from values alone -/
theorem lc_map {K : PySem.W.Frag} {a : Addr} {xs : List V} {g : TG} {tt : TT} {te : TE} {vs : List Nat} {σ : L2.St} {H1 : Hp} {D : Addr} {Qd : Hp → Prop} (fx : V → V) (nD : H1 D = none) (hl : SqL K H1 a xs) (few : xs.length < sizeLine)
    (hs : ∀ (i : Nat) (x : V) (H : Hp) (R : V → Hp → Prop) (S : Hp → Prop), xs[i]? = some x → Same H1 H → R (fx x) H →
      g x (wipe σ vs) H fun σ2 H2 => wipe σ2 vs = wipe σ vs ∧ tt σ2 H2 fun b H3 => if b = true then te σ2 H3 R else S H3) (hd : Qd (upd H1 D (.lst (xs.map fx)))) :
    ∃ W : Nat → Nat → Hp → Prop, (∃ m, W 0 m (upd H1 D (.lst []))) ∧ ∀ i m H, W i m H → ((Itl K a).stop i H ∧ Qd H) ∨
      ((Itl K a).go i H ∧ ∃ Nx : Hp → Prop, (∀ H', Nx H' → ∃ m', m' < m ∧ W (i + 1) m' H') ∧ ∀ x H', (Itl K a).yld i H x H' →
        g x (wipe σ vs) H' fun σ2 H2 => wipe σ2 vs = wipe σ vs ∧ tt σ2 H2 fun b H3 => if b = true then te σ2 H3 fun y H4 => ∃ acc, H4 D = some (.lst acc) ∧ acc.length < sizeLine ∧ Nx (upd H4 D (.lst (acc ++ [y]))) else Nx H3) := by
  have sm : ∀ {o : HO}, Same H1 (upd H1 D o) := fun {o} p x e => by
    rw [upd_ne (ne_of_none e nD)]
    exact e
  have kl : ∀ {o : HO}, SqL K (upd H1 D o) a xs := fun {o} => by
    rcases hl with (h | ⟨u, h⟩) | h
    · exact .inl (.inl (sm _ _ h))
    · exact .inl (.inr ⟨u, sm _ _ h⟩)
    · exact .inr h
  refine lc_list (K := K) (a := a) (xs := xs) (fun i H => H = upd H1 D (.lst ((xs.take i).map fx))) rfl (fun i H _ e => by rw [e]; exact kl) ?_ ?_
  · rintro i x H hx rfl
    refine hs i x _ _ _ hx sm ⟨_, upd_same, ?_, ?_⟩
    · rw [List.length_map, List.length_take]
      omega
    · rw [upd_upd, List.take_add_one, hx, List.map_append]
      rfl
  · rintro H rfl
    rw [List.take_length]
    exact hd
/-- .. of those that pass a test -/
theorem lc_filter {K : PySem.W.Frag} {a : Addr} {xs : List V} {g : TG} {tt : TT} {te : TE} {vs : List Nat} {σ : L2.St} {H1 : Hp} {D : Addr} {Qd : Hp → Prop} (px : V → Bool) (fx : V → V) (nD : H1 D = none) (hl : SqL K H1 a xs) (few : xs.length < sizeLine)
    (hs : ∀ (i : Nat) (x : V) (H : Hp) (R : V → Hp → Prop) (S : Hp → Prop), xs[i]? = some x → Same H1 H → (px x = true → R (fx x) H) → (px x = false → S H) →
      g x (wipe σ vs) H fun σ2 H2 => wipe σ2 vs = wipe σ vs ∧ tt σ2 H2 fun b H3 => if b = true then te σ2 H3 R else S H3) (hd : Qd (upd H1 D (.lst ((xs.filter px).map fx)))) :
    ∃ W : Nat → Nat → Hp → Prop, (∃ m, W 0 m (upd H1 D (.lst []))) ∧ ∀ i m H, W i m H → ((Itl K a).stop i H ∧ Qd H) ∨
      ((Itl K a).go i H ∧ ∃ Nx : Hp → Prop, (∀ H', Nx H' → ∃ m', m' < m ∧ W (i + 1) m' H') ∧ ∀ x H', (Itl K a).yld i H x H' →
        g x (wipe σ vs) H' fun σ2 H2 => wipe σ2 vs = wipe σ vs ∧ tt σ2 H2 fun b H3 => if b = true then te σ2 H3 fun y H4 => ∃ acc, H4 D = some (.lst acc) ∧ acc.length < sizeLine ∧ Nx (upd H4 D (.lst (acc ++ [y]))) else Nx H3) := by
  have sm : ∀ {o : HO}, Same H1 (upd H1 D o) := fun {o} p x e => by
    rw [upd_ne (ne_of_none e nD)]
    exact e
  have kl : ∀ {o : HO}, SqL K (upd H1 D o) a xs := fun {o} => by
    rcases hl with (h | ⟨u, h⟩) | h
    · exact .inl (.inl (sm _ _ h))
    · exact .inl (.inr ⟨u, sm _ _ h⟩)
    · exact .inr h
  refine lc_list (K := K) (a := a) (xs := xs) (fun i H => H = upd H1 D (.lst (((xs.take i).filter px).map fx))) rfl (fun i H _ e => by rw [e]; exact kl) ?_ ?_
  · rintro i x H hx rfl
    have nx : (xs.take (i + 1)).filter px = (xs.take i).filter px ++ [x].filter px := by
      rw [List.take_add_one, hx, List.filter_append]
      rfl
    refine hs i x _ _ _ hx sm (fun p => ⟨_, upd_same, ?_, ?_⟩) (fun p => ?_)
    · rw [List.length_map]
      have h1 := List.length_filter_le px (xs.take i)
      rw [List.length_take] at h1
      omega
    · rw [upd_upd, nx, List.filter_cons_of_pos p, List.map_append]
      rfl
    · rw [nx, List.filter_cons_of_neg (by simp [p]), List.filter_nil, List.append_nil]
  · rintro H rfl
    rw [List.take_length]
    exact hd
/-- a comprehension over a range that makes each item from values alone -/
theorem lc_rangeMap {lo : Int} {n : Nat} {g : TG} {tt : TT} {te : TE} {vs : List Nat} {σ : L2.St} {H1 : Hp} {D : Addr} {Qd : Hp → Prop} (fx : Nat → V) (nD : H1 D = none) (few : n < sizeLine)
    (hs : ∀ (i : Nat) (H : Hp) (R : V → Hp → Prop) (S : Hp → Prop), i < n → Same H1 H → R (fx i) H →
      g (.int (lo + i)) (wipe σ vs) H fun σ2 H2 => wipe σ2 vs = wipe σ vs ∧ tt σ2 H2 fun b H3 => if b = true then te σ2 H3 R else S H3) (hd : Qd (upd H1 D (.lst ((List.range n).map fx)))) :
    ∃ W : Nat → Nat → Hp → Prop, (∃ m, W 0 m (upd H1 D (.lst []))) ∧ ∀ i m H, W i m H → ((Itr lo n).stop i H ∧ Qd H) ∨
      ((Itr lo n).go i H ∧ ∃ Nx : Hp → Prop, (∀ H', Nx H' → ∃ m', m' < m ∧ W (i + 1) m' H') ∧ ∀ x H', (Itr lo n).yld i H x H' →
        g x (wipe σ vs) H' fun σ2 H2 => wipe σ2 vs = wipe σ vs ∧ tt σ2 H2 fun b H3 => if b = true then te σ2 H3 fun y H4 => ∃ acc, H4 D = some (.lst acc) ∧ acc.length < sizeLine ∧ Nx (upd H4 D (.lst (acc ++ [y]))) else Nx H3) := by
  have sm : ∀ {o : HO}, Same H1 (upd H1 D o) := fun {o} p x e => by
    rw [upd_ne (ne_of_none e nD)]
    exact e
  refine lc_range (lo := lo) (n := n) (fun i H => H = upd H1 D (.lst ((List.range i).map fx))) rfl ?_ ?_
  · rintro i H hi rfl
    refine hs i _ _ _ hi sm ⟨_, upd_same, ?_, ?_⟩
    · rw [List.length_map, List.length_range]
      omega
    · rw [upd_upd, List.range_succ, List.map_append]
      rfl
  · rintro H rfl
    exact hd
theorem join_glue0 (ys : List Str) : Txt.join "" ys = glue ys := by
  apply cd_inj
  have h1 : cd (Txt.join "" ys) = TL.joinL (cd "") (ys.map cd) := by
    rw [TL.join_eq]
    exact TL.tl_join "" ys
  have e0 : cd ("" : Str) = [] := by decide +kernel
  rw [h1, e0]
  have h2 : ∀ l : List Str, TL.joinL [] (l.map cd) = cd (glue l) := by
    intro l
    induction l with
    | nil => rfl
    | cons x r ih =>
      cases r with
      | nil =>
        show cd x = cd (x ++ ⟨#[]⟩)
        rw [cd_app]
        simp
      | cons y r =>
        show cd x ++ ([] ++ TL.joinL [] ((y :: r).map cd)) = cd (x ++ glue (y :: r))
        rw [ih, cd_app, List.nil_append]
  exact h2 ys
/-- signs, one text each, put together -/
theorem join_signs (cs : List Nat) : Txt.join "" (cs.map fun c => (⟨#[c]⟩ : Str)) = ⟨cs.toArray⟩ := by
  rw [join_glue0]
  apply cd_inj
  induction cs with
  | nil => rfl
  | cons c r ih =>
    show cd ((⟨#[c]⟩ : Str) ++ glue (r.map fun c => (⟨#[c]⟩ : Str))) = _
    rw [cd_app, ih]
    show [c] ++ (r.toArray).toList = ((c :: r).toArray).toList
    simp
theorem sum_le0 {ys : List Str} {n : Nat} (h : ∀ y ∈ ys, y.length ≤ n) : (ys.map (·.length)).sum ≤ ys.length * n := by
  induction ys with
  | nil => simp
  | cons y r ih =>
    rw [List.map_cons, List.sum_cons, List.length_cons]
    have h1 := h y List.mem_cons_self
    have h2 := ih fun z hz => h z (List.mem_cons_of_mem _ hz)
    have h3 : (r.length + 1) * n = r.length * n + n := by rw [Nat.add_mul, Nat.one_mul]
    omega
theorem vint0 (n : Nat) : (!decide (V.int (n : Nat) = V.int 0)) = !decide (n = 0) := by
  by_cases h : n = 0
  · rw [h]
    rfl
  · rw [decide_eq_false h, decide_eq_false fun z => h (by have := V.int.inj z; omega)]
theorem vN_nonzero (bs : List Nat) : ((vN bs).map fun v => V.bl (!decide (v = .int 0))) = (bs.map fun b => !decide (b = 0)).map V.bl := by
  unfold vN
  rw [List.map_map, List.map_map]
  exact List.map_congr_left fun n _ => congrArg V.bl (vint0 n)
/-- for .. over the keys of a locked dict -/
theorem for_keysL {d : Addr} {o : Obj} {kvs : List (Key × V)} {g : TG} {tb : TS} {D : Ends} {σ : L2.St} {H : Hp} (Pv : Nat → L2.St → Hp → Prop) (h0 : Pv 0 σ H) (locked : ∀ i σ H, i ≤ kvs.length → Pv i σ H → H d = some (.frz o (.dK kvs)))
    (turn : ∀ i k v σ H, kvs[i]? = some (k, v) → Pv i σ H → g (kV k) σ H fun σ2 H2 => tb { D with nx := Pv (i + 1), ct := Pv (i + 1), bk := D.nx } σ2 H2) (after : ∀ σ H, Pv kvs.length σ H → D.nx σ H) :
    ∃ W : Nat → Nat → L2.St → Hp → Prop, (∃ m, W 0 m σ H) ∧ ∀ i m σ H, W i m σ H → ((Itk d o kvs).stop i H ∧ D.nx σ H) ∨
      ((Itk d o kvs).go i H ∧ ∃ N : L2.St → Hp → Prop, (∀ σ' H', N σ' H' → ∃ m', m' < m ∧ W (i + 1) m' σ' H') ∧ ∀ x H', (Itk d o kvs).yld i H x H' → g x σ H' fun σ2 H2 => tb { D with nx := N, ct := N, bk := D.nx } σ2 H2) := by
  refine ⟨fun i m σ H => i + m = kvs.length ∧ Pv i σ H, ⟨kvs.length, by omega, h0⟩, ?_⟩
  rintro i m σ H ⟨e, p⟩
  have lk := locked i σ H (by omega) p
  by_cases lt : i < kvs.length
  · refine .inr ⟨⟨lk, lt⟩, Pv (i + 1), fun σ' H' p' => ⟨m - 1, by omega, by omega, p'⟩, ?_⟩
    rintro x H' ⟨rfl, k, v, at_, rfl⟩
    exact turn i k v σ _ at_ p
  · obtain rfl : i = kvs.length := by omega
    exact .inl ⟨⟨lk, Nat.le_refl _⟩, after σ H p⟩
end Pg

/-! sorted by a lambda that takes the first item, with the table of the maker's code; the head with such a table. -/
namespace Pg
open PySem PySem.Spec PyProof.Rows L2 LamX
/-- one parameter, no other name -/
structure OneS (x : Str) (scope : Scope) : Prop where
  kind : scope.kind = .function
  co : scope.isCoroutine = false
  gen : scope.isGenerator = false
  loc : scope.names.lookup x = some .local
  noc : ∀ y ∈ scope.names, y.2 ≠ .cell
  nof : ∀ y ∈ scope.names, y.2 ≠ .free
section
variable {prog : Program} {w : World} {A : Around} {s : Shared}
/-- the lambda at a tuple: its first item -/
theorem key0 {f c' : Addr} {q x : Str} {params : Arguments} {scope : Scope} {p1 p2 p3 : Pos} {j : Nat} {pm ctv : Value} {a : Addr} {its : List Value} {i : Int} {t : Tok}
    (hf : s.heap.get? f = some (PySem.W.kla_obj "<lambda>" q params (.Subscript (.Name x p1) (.Constant (.int 0) j p2) p3) scope [] pm c' ctv)) (hcd : s.heap.CodeRec (.ref c') q) (hlim : s.heap.NoLimit) (hroom : A.depth < recursionLimit)
    (hbind : bindArgs (PySem.W.kla_fn "<lambda>" q params (.Subscript (.Name x p1) (.Constant (.int 0) j p2) p3) scope [] pm (.ref c') ctv) ⟨[.ref a], []⟩ = pure [(x, .ref a)]) (L : OneS x scope) (hd : (x == ("__debug__" : Str)) = false)
    (hp : IsTup s.heap a its.toArray) (h0 : its[0]? = some (.int i t)) :
    wpAny (model prog w) A (call (.ref f) [.ref a]) (PySem.W.KeyPure (.int i) s) (fun _ _ => False) s := by
  refine wpAny_call (PySem.W.kla_callFunE hroom hf rfl L.co L.gen rfl hcd ?_)
  rw [hbind]
  refine wpAny_pure (wpAny_newFunctionEnv L.noc (fun y hy => ?_) (fun h1 hns hsb => ⟨hlim.fresh _ hsb, ?_⟩) L.kind)
  · rw [List.mem_singleton.mp hy]; exact L.loc
  have kp : ∀ b o, s.heap.get? b = some o → h1.get? b = some o := fun b o e => hsb.extBut b o (Nat.ne_of_lt (Heap.lt_size e)) (Heap.get?_push_of_some _ e)
  refine PySem.W.kla_codeExpr (Subscript_ (wpAny_Name (wpAny_loadName_local (v := .ref a) L.kind L.loc hns ?_ ?_) hd))
  · simp
  · refine wpAny_Constant_int ?_
    have hp1 : IsTup h1 a its.toArray := hp.keeps kp
    refine subscriptTail_builtinR (x := .int i t) hp1.typeIs slot_tuple_getitem.lookup (getItem_tuple (j := 0) hp1 (by decide) (by decide) (by
      rw [List.size_toArray]
      have h9 : (0 : Int) < its.length := by have := (List.getElem?_eq_some_iff.mp h0).1; omega
      unfold seqIndex?
      simp only [Int.lt_irrefl, if_false, Int.le_refl, decide_true, Bool.true_and, decide_eq_true_eq]
      rw [if_pos h9]
      rfl) (by simpa using h0) ⟨rfl, ?_⟩)
    exact ⟨h1, _, rfl, kp, .int i t⟩
end

/-- sorted(e, key=lambda x: x[0]): by the first items, those that are alike as they stand -/
def tSortK (K : PySem.W.Frag) (P : Addr) (q : Str) (te : TE) : TE := fun σ H Q => te σ H fun v H1 => ∃ (l : Addr) (its : List (Addr × Int)), [v] = [V.ref l] ∧ SqL K H1 l (its.map fun z => V.ref z.1) ∧
  (∀ z ∈ its, ∃ r, SqT K H1 z.1 (V.int z.2 :: r)) ∧ TabS H1 P q ∧ ∀ (H2 : Hp) (new : Addr), ExtN H1 H2 → TabS H2 P q → (∀ o, H1 new = some o → ∃ ps, o = .tbl ps) →
    H2 new = some (.lst ((its.mergeSort fun a b => decide (a.2 ≤ b.2)).map fun z => V.ref z.1)) → Q (.ref new) H2
theorem extN_sqL {K : PySem.W.Frag} {H H' : Hp} {a : Addr} {xs : List V} (e : ExtN H H') (h : SqL K H a xs) : SqL K H' a xs := by
  rcases h with (h | ⟨o, h⟩) | h
  · exact .inl (.inl (e _ _ h fun ps z => by cases z))
  · exact .inl (.inr ⟨o, e _ _ h fun ps z => by cases z⟩)
  · exact .inr h
theorem extN_sqT {K : PySem.W.Frag} {H H' : Hp} {a : Addr} {xs : List V} (e : ExtN H H') (h : SqT K H a xs) : SqT K H' a xs := by
  rcases h with (h | ⟨o, h⟩) | h
  · exact .inl (.inl (e _ _ h fun ps z => by cases z))
  · exact .inl (.inr ⟨o, e _ _ h fun ps z => by cases z⟩)
  · exact .inr h
theorem each_refs {its : List (Addr × Int)} : PySem.W.EachIs (fun v z => v = Value.ref z.1) (its.map fun z => Value.ref z.1) its := by
  induction its with
  | nil => exact .nil
  | cons z r ih => exact .cons rfl ih
theorem refs_each {out : List Value} {its : List (Addr × Int)} (h : PySem.W.EachIs (fun v z => v = Value.ref z.1) out its) : out = its.map fun z => Value.ref z.1 := by
  induction h with
  | nil => rfl
  | cons e _ ih => rw [ih, e]; rfl
section
variable {X : Cx}
theorem pe_sortedKey {P c : Addr} {te : TE} {e : Expr} {y : Str} {params : Arguments} {scope : Scope} {p pos lpos kpos p1 p2 p3 : Pos} {j k : Nat} (hg : Gl X "sorted") (hm : X.mg "sorted" = none) (ha : PE X e te) (TB : TabB X.base X.mg c P) (hcode : X.env.code = .ref c)
    (hr : Room (k + 1) X.A) (hdef : defaultsOf params X.env = ([], [])) (L : OneS y scope) (hd : (y == ("__debug__" : Str)) = false)
    (hbind : ∀ (q : Str) (pm cv ctv : Value) (a : Addr), bindArgs (PySem.W.kla_fn "<lambda>" q params (.Subscript (.Name y p1) (.Constant (.int 0) j p2) p3) scope [] pm cv ctv) ⟨[.ref a], []⟩ = pure [(y, .ref a)])
    (hclo : cloFrom X.env.cells scope.names [] = [])
    (hv : bootBuiltins "sorted" = some (.builtin "sorted") := by decide +kernel) (hn : ("sorted" : Str) ≠ "__name__" := by decide) (hdb : (("sorted" : Str) == ("__debug__" : Str)) = false := by decide)
    (he : backTo pos (starEach [e] X.env) = (false, eval e X.env) :: backTo pos (starEach [] X.env) := by rfl) (hpl : (backTo pos (starEach [e] X.env)).any (·.1) = false := by rfl) (hs : starEach [e] X.env = (false, eval e X.env) :: starEach [] X.env := by rfl) :
    PE X (.Call (.Name "sorted" p) [e] [⟨some "key", .Lambda params (.Subscript (.Name y p1) (.Constant (.int 0) j p2) p3) scope lpos, kpos⟩] pos) (tSortK X.K P (X.env.qual ++ "<lambda>") te) := by
  refine ⟨fun pins s σ H Q I h => ?_⟩
  refine wpAny_Call_Name_kw (ld_blt I hg hm hv ?_ hn hdb)
  refine PyProof.Rows.callWith_kw (thn ((pa_cons ha pa_nil hs).run pos pins s σ H (fun vs H1 => ∃ (l : Addr) (its : List (Addr × Int)), vs = [V.ref l] ∧ SqL X.K H1 l (its.map fun z => V.ref z.1) ∧
    (∀ z ∈ its, ∃ r, SqT X.K H1 z.1 (V.int z.2 :: r)) ∧ TabS H1 P (X.env.qual ++ "<lambda>") ∧ ∀ (H2 : Hp) (new : Addr), ExtN H1 H2 → TabS H2 P (X.env.qual ++ "<lambda>") → (∀ o, H1 new = some o → ∃ ps, o = .tbl ps) →
    H2 new = some (.lst ((its.mergeSort fun a b => decide (a.2 ≤ b.2)).map fun z => V.ref z.1)) → Q (.ref new) H2) I h) fun us s1 ⟨vs, H1, I1, r1, l, its, ev, hl, hits, hT, q1⟩ => ?_) he hpl (by rfl) (by rfl)
  subst ev
  obtain rfl := Vals.ref1 r1
  show wpAny _ _ (evalAll ((do let v ← eval (.Lambda params (.Subscript (.Name y p1) (.Constant (.int 0) j p2) p3) scope lpos) X.env; standAt pos; pure v) :: [])) _ _ s1
  refine wpAny_evalAll_cons (wpAny_bind (lam_make2 (T := [(P, X.env.qual ++ "<lambda>")]) I1 TB hcode (List.mem_singleton.mpr rfl) (fun z hz _ => by rw [List.mem_singleton.mp hz]) (fun z hz => by rw [List.mem_singleton.mp hz]; exact hT) hdef (fun z hz e => absurd e (L.nof z hz)) fun f c' pm ctv H2 s2 I2 eN T2 hf hfn hfr hco => ?_))
  refine wpAny_bind (wpAny_standAt (wpAny_pure (wpAny_evalAll_nil ?_)))
  show wpAny _ _ (call (.builtin "sorted") [.ref l] [(Str.ofString "key", .ref f)]) _ _ s2
  rw [hclo] at hf
  have tab2 : TabS H2 P (X.env.qual ++ "<lambda>") := T2 _ (List.mem_singleton.mpr rfl)
  obtain ⟨its0, rv, pl, hz⟩ := I2.list (extN_sqL eN hl)
  obtain rfl : its0 = its.map fun z => Value.ref z.1 := by
    have := refs_at (ps := its.map (·.1)) (by rw [List.map_map]; exact rv)
    rw [this, List.map_map]
    rfl
  obtain ⟨⟨oc, vsc, tc, hoc, hdc, hvc⟩, _, _⟩ := I2.hok c' _ hco
  have un := hr.un
  have dp := hr.dp
  have few : its.length ≤ sizeLine := by rw [List.length_map] at hz; exact hz
  refine PySem.W.sorted_key_data (kw := [(Str.ofString "key", .ref f)]) (b := false) (R := fun v z => v = Value.ref z.1) (bs := its) (fun z : Addr × Int => PyData.int z.2) pl.isList each_refs
    (fun d hd1 d' hd2 => ?_) (.inr fun d hd1 => ?_) few (fun x hx => ?_) (ksk_s1 _ _) (fun x => ksk_l1 _ _) (fun x => ksk_t1 _ _) (fun v z hvz hz1 h1 tk kp => ?_) fun out cc h' tk kp fr hnew hlen hout => ?_
  · obtain ⟨z1, _, rfl⟩ := List.mem_map.mp hd1
    obtain ⟨z2, _, rfl⟩ := List.mem_map.mp hd2
    rfl
  · obtain ⟨z1, _, rfl⟩ := List.mem_map.mp hd1
    exact ⟨fun z => (by cases z), fun xs z => (by cases z)⟩
  · show X.A.units + 2 + 0 < cLine
    omega
  · subst hvz
    obtain ⟨r, hq⟩ := hits z hz1
    obtain ⟨tits, trv, tpl, _⟩ := I2.tuple (extN_sqT eN hq)
    obtain ⟨t, tr, rfl, ht⟩ : ∃ (t : Tok) (tr : List Value), tits = .int z.2 t :: tr ∧ True := by
      cases trv with
      | cons a b => obtain ⟨t, rfl⟩ := a; exact ⟨t, _, rfl, trivial⟩
    refine key0 (s := { s2 with heap := h1, toks := tk }) (its := .int z.2 t :: tr) (kp _ _ hf) ⟨c', oc, vsc, tc, rfl, kp _ _ hoc, hdc, hvc⟩ (I2.nolimit.keeps kp) ?_ (hbind _ _ _ _ _) L hd (tpl.keeps kp) rfl
    have : X.A.in1.in1.depth = X.A.depth := rfl
    rw [this]
    omega
  · have I3 : Inv X pins σ (upd H2 (s2.heap.objs.size + 1) (.lst ((its.mergeSort fun a b => decide (a.2 ≤ b.2)).map fun z => V.ref z.1))) { s2 with heap := h', toks := tk } := by
      refine I2.laid kp (Nat.le_succ _) ⟨?_, out, cc, ?_, hnew⟩
      · rw [List.length_map, List.length_mergeSort]; exact few
      · rw [PySem.W.dataLe_int] at hout
        rw [refs_each hout]
        generalize (its.mergeSort fun a b => decide (a.2 ≤ b.2)) = L2
        induction L2 with
        | nil => exact .nil
        | cons a r ih => exact .cons rfl ih
    have nn : H2 (s2.heap.objs.size + 1) = none := I2.hok.fresh (Nat.le_succ _)
    have nn1 : ∀ o, H1 (s2.heap.objs.size + 1) = some o → ∃ ps, o = .tbl ps := fun o w => by
      cases o with
      | tbl ps => exact ⟨ps, rfl⟩
      | _ =>
        have z := eN _ _ w (fun ps z => by cases z)
        rw [nn] at z; cases z
    refine ⟨.ref (s2.heap.objs.size + 1), _, I3, rfl, q1 _ _ ?_ (tab2.ext fun b o h => by rw [upd_ne (ne_of_none h nn)]; exact h) nn1 upd_same⟩
    exact fun b o h n => by
      have z := eN b o h n
      rw [upd_ne (ne_of_none z nn)]; exact z
end

/-- a comprehension over a row whose items stand for ts: those that pass, each made to a value -/
theorem lc_pick {β : Type} {K : PySem.W.Frag} {a : Addr} {xs : List V} {ts : List β} {g : TG} {tt : TT} {te : TE} {vs : List Nat} {σ : L2.St} {H1 : Hp} {D : Addr} {Qd : Hp → Prop} (hlen : xs.length = ts.length) (p : β → Bool) (fx : V → β → V) (nD : H1 D = none) (hl : SqL K H1 a xs) (few : xs.length < sizeLine)
    (hs : ∀ (i : Nat) (x : V) (t : β) (H : Hp) (R : V → Hp → Prop) (S : Hp → Prop), xs[i]? = some x → ts[i]? = some t → Same H1 H → (p t = true → R (fx x t) H) → (p t = false → S H) →
      g x (wipe σ vs) H fun σ2 H2 => wipe σ2 vs = wipe σ vs ∧ tt σ2 H2 fun b H3 => if b = true then te σ2 H3 R else S H3) (hd : Qd (upd H1 D (.lst (((xs.zip ts).filter fun z => p z.2).map fun z => fx z.1 z.2)))) :
    ∃ W : Nat → Nat → Hp → Prop, (∃ m, W 0 m (upd H1 D (.lst []))) ∧ ∀ i m H, W i m H → ((Itl K a).stop i H ∧ Qd H) ∨
      ((Itl K a).go i H ∧ ∃ Nx : Hp → Prop, (∀ H', Nx H' → ∃ m', m' < m ∧ W (i + 1) m' H') ∧ ∀ x H', (Itl K a).yld i H x H' →
        g x (wipe σ vs) H' fun σ2 H2 => wipe σ2 vs = wipe σ vs ∧ tt σ2 H2 fun b H3 => if b = true then te σ2 H3 fun y H4 => ∃ acc, H4 D = some (.lst acc) ∧ acc.length < sizeLine ∧ Nx (upd H4 D (.lst (acc ++ [y]))) else Nx H3) := by
  have sm : ∀ {o : HO}, Same H1 (upd H1 D o) := fun {o} q x e => by
    rw [upd_ne (ne_of_none e nD)]
    exact e
  have kl : ∀ {o : HO}, SqL K (upd H1 D o) a xs := fun {o} => by
    rcases hl with (h | ⟨u, h⟩) | h
    · exact .inl (.inl (sm _ _ h))
    · exact .inl (.inr ⟨u, sm _ _ h⟩)
    · exact .inr h
  refine lc_list (K := K) (a := a) (xs := xs) (fun i H => H = upd H1 D (.lst ((((xs.zip ts).take i).filter fun z => p z.2).map fun z => fx z.1 z.2))) rfl (fun i H _ e => by rw [e]; exact kl) ?_ ?_
  · rintro i x H hx rfl
    obtain ⟨lt, _⟩ := List.getElem?_eq_some_iff.mp hx
    obtain ⟨t, ht⟩ : ∃ t, ts[i]? = some t := ⟨ts[i], List.getElem?_eq_getElem (by omega)⟩
    have hz : (xs.zip ts)[i]? = some (x, t) := by rw [List.getElem?_zip_eq_some]; exact ⟨hx, ht⟩
    have nx : ((xs.zip ts).take (i + 1)).filter (fun z => p z.2) = ((xs.zip ts).take i).filter (fun z => p z.2) ++ [(x, t)].filter (fun z => p z.2) := by
      rw [List.take_add_one, hz, List.filter_append]
      rfl
    refine hs i x t _ _ _ hx ht sm (fun q => ⟨_, upd_same, ?_, ?_⟩) (fun q => ?_)
    · rw [List.length_map]
      have h1 := List.length_filter_le (fun z : V × β => p z.2) ((xs.zip ts).take i)
      rw [List.length_take] at h1
      omega
    · rw [upd_upd, nx, List.filter_cons_of_pos (p := fun z : V × β => p z.2) (a := (x, t)) q, List.map_append]
      rfl
    · rw [nx, List.filter_cons_of_neg (by simp [q]), List.filter_nil, List.append_nil]
  · rintro H rfl
    rw [List.take_of_length_le (by rw [List.length_zip]; omega)]
    exact hd
/-! ### del d[k] and d.items(), the keys tuples -/
def sDDelT (td ty : TE) : TS := fun D σ H => td σ H fun x H1 => ty σ H1 fun y H2 => ∃ (a : Addr) (kvs : List (List Key × V)) (k : List Key) (b : Addr), x = .ref a ∧ H2 a = some (.dT kvs) ∧ y = .ref b ∧ H2 b = some (.tup (k.map kV)) ∧ (valV kvs k).isSome = true ∧ D.nx σ (upd H2 a (.dT (dropK kvs k)))
theorem KT_drop {H : Hp} {kvs : List (List Key × V)} {xs : List (List Key × Addr × Value)} (r : KT H kvs xs) (k : List Key) : KT H (dropK kvs k) (withoutH xs k) := by
  induction r with
  | nil => exact .nil
  | @cons p q ps qs h t ih =>
    unfold dropK withoutH
    rw [List.filter_cons, List.filter_cons]
    by_cases e : p.1 = k
    · rw [if_neg (by simpa using e), if_neg (by simpa using h.1.symm.trans e)]
      exact ih
    · rw [if_pos (decide_eq_true e), if_pos (show decide (q.1 ≠ k) = true from decide_eq_true fun z => e (h.1.trans z))]
      exact .cons h ih
theorem d_delItemT {X : Cx} {pins : List (Addr × Obj)} {σ : L2.St} {H : Hp} {s : Shared} {a b : Addr} {kvs : List (List Key × V)} {k : List Key} {A : Around} {E : Value → Shared → Prop} {Q : Unit → Shared → Prop} (hu : A.units + 1 < cLine) (I : Inv X pins σ H s) (e : H a = some (.dT kvs)) (eb : H b = some (.tup (k.map kV))) (l : (valV kvs k).isSome = true) (h : ∀ s', Inv X pins σ (upd H a (.dT (dropK kvs k))) s' → Q () s') :
    wpAny (model X.prog X.w) A (delItem (.ref a) (.ref b)) Q E s := by
  obtain ⟨z, hd, xs, rel, dd⟩ := dt_of I.hok e
  have hz : xs.length ≤ sizeLine := by rw [← Paired.length rel]; exact z
  have hp : ∃ p, atKey xs k = some p := by
    have r := (rel.val k).isSome_eq
    rw [l, Option.isSome_map] at r
    exact Option.isSome_iff_exists.mp r.symm
  obtain ⟨p, hp⟩ := hp
  refine wpAny_delItem_heap (hsz := hz) (tupleKind_room_in1 hu) (key_of I.hok eb) hd dd hp fun h' dd' hs => h _ ?_
  obtain ⟨q, es, ep, hq, h2, h3, h4, _, h5⟩ := dd'
  refine d_write I (by rw [e]; exact True.intro) hs ⟨q, hq⟩ ⟨Nat.le_trans (dropK_le kvs k) z, hd, _, (KT_drop rel k).keeps fun c ys ec => ?_, q, es, ep, hq, h2, h3, h4, h5⟩
  rw [upd_ne (ne_of ec e (fun z => nomatch z))]
  exact ec
theorem ps_ddelT {X : Cx} {o i : Expr} {tpos pos : Pos} {td ty : TE} (hu : X.A.units + 1 < cLine) (ho : PE X o td) (hi : PE X i ty) : PS X (.Delete [.Subscript o i tpos] pos) (sDDelT td ty) := by
  refine ⟨fun pins s σ H D I h => ?_⟩
  refine wpAny_Delete (wpAny_deleteEach_cons (wpAny_delete_Subscript (thn (ho.run pins s σ H _ I h) fun u s1 ⟨x, H1, I1, rx, q1⟩ => thn (hi.run pins s1 σ H1 _ I1 q1) fun iv s2 ⟨y, H2, I2, ry, a, kvs, k, b, ex, e, ey, eb, l, q2⟩ => ?_)))
  subst ex ey
  obtain rfl : u = Value.ref a := rx
  obtain rfl : iv = Value.ref b := ry
  exact d_delItemT hu I2 e eb l fun s3 I3 => wpAny_deleteEach_nil ⟨σ, _, I3, q2⟩
/-- the pairs of a locked dict with tuples as keys, each a new tuple -/
def Itit (d : Addr) (o : Obj) (kvs : List (List Key × V)) : It :=
  ⟨fun i H => H d = some (.frz o (.dT kvs)) ∧ i < kvs.length, fun i H x H' => ∃ (T : Addr) (k : List Key) (v : V) (q : Addr), kvs[i]? = some (k, v) ∧ x = .ref T ∧ H q = some (.tup (k.map kV)) ∧ H T = none ∧ H' = upd H T (.tup [.ref q, v]), fun i H => H d = some (.frz o (.dT kvs)) ∧ kvs.length ≤ i⟩
theorem frzTV {X : Cx} {pins : List (Addr × Obj)} {σ : L2.St} {H : Hp} {s : Shared} {d : Addr} {o : Obj} {kvs : List (List Key × V)} (I : Inv X pins σ H s) (h : H d = some (.frz o (.dT kvs))) :
    (d == sysModules) = false ∧ s.heap.get? d = some o ∧ o.ExactDict ∧ ∃ (es : Array DictEntry) (ep : Nat), o.data = .dict es ep ∧ es.size = kvs.length ∧
      ∀ (i : Nat) (k : List Key) (v : V), kvs[i]? = some (k, v) → ∃ (en : DictEntry) (q : Addr), es[i]? = some en ∧ en.key = .ref q ∧ H q = some (.tup (k.map kV)) ∧ L2.RelV v en.val := by
  obtain ⟨hd, z, hs, xs, pr, o', es, ep, ho, hx, hdt, he, _⟩ := I.hok d _ h
  rw [hd] at ho
  cases ho
  refine ⟨hs, hd, hx, es, ep, hdt, ?_, fun i k v e => ?_⟩
  · have l1 : es.size = xs.length := size_of_entries he
    have l2 : kvs.length = xs.length := Paired.length pr
    omega
  · obtain ⟨b, hb, e1, e2, e3⟩ := paired_get pr e
    have q := entry_at he i
    rw [hb] at q
    exact ⟨_, b.2.1, q, rfl, e2, e3⟩
theorem turn_itemsT {P : Program} {w : World} {K : PySem.W.Frag} {d : Addr} {o : Obj} {es : Array DictEntry} {ep : Nat} {kvs : List (List Key × V)} {elts : List Expr} {kk : Nat} {tpos : Pos} (it : Addr) (hod : o.data = .dict es ep) :
    Turn P w K (.Tuple elts kk tpos) (Itit d o kvs) [it] it (fun i h => ∃ ok ov, IsItemIter h it d i kvs.length ep ok ov) where
  mem := by simp
  obj := fun i h st b hb => by
    have e : b = it := by simpa using hb
    subst e
    obtain ⟨ok, ov, e⟩ := st
    exact ⟨_, e, fun v z => nomatch z⟩
  keep := fun i h h' st k => let ⟨ok, ov, e⟩ := st; ⟨ok, ov, k it (by simp) _ e⟩
  item := by
    intro X hP hw hK hc i pins s σ H E I hf st hg
    subst hP hw hK
    obtain ⟨hd, hi⟩ := hg
    obtain ⟨hs, hgd, hx, es', ep', hdt, hsz, ent⟩ := frzTV I hd
    obtain ⟨rfl, rfl⟩ := dict_ep hod hdt
    obtain ⟨⟨k, v⟩, hkv⟩ : ∃ p, kvs[i]? = some p := ⟨kvs[i], List.getElem?_eq_getElem hi⟩
    obtain ⟨en, q, hen, hkey, hq, rv⟩ := ent i k v hkv
    obtain ⟨ok, ov, he⟩ := st
    rw [← hsz] at he
    have hlt : it < s.heap.objs.size := Heap.lt_size he
    have hi' : i < es'.size := by omega
    have een : es'[i] = en := by rw [Array.getElem?_eq_getElem hi'] at hen; exact Option.some.inj hen
    refine DT.nextI he ⟨o, hgd, hx, hdt⟩ hi' fun h' ho hT hz hk => ?_
    rw [een] at ho hT
    refine ⟨_, rfl, wpAny_letOwnedTupleGo_items (s := { s with heap := h' }) ho fun h'' he' sb => ?_⟩
    have hT2 : h''.get? s.heap.objs.size = some { cls := .type "tuple", data := .seq #[en.key, en.val] } := (sb.2 _ (Nat.ne_of_gt hlt)).trans hT
    have new : ObjOk X.prog X.w (upd H s.heap.objs.size (.tup [.ref q, v])) h'' s.heap.objs.size (.tup [.ref q, v]) :=
      ⟨by show 2 ≤ sizeLine; decide, [en.key, en.val], .cons hkey (.cons rv .nil), ⟨_, hT2, rfl, _, rfl⟩⟩
    have I1 : Inv X pins σ (upd H s.heap.objs.size (.tup [.ref q, v])) { s with heap := h'' } :=
      I.turnedNew (t' := s.toks) (ch := [it]) (fun b ob hb e => (sb.2 b (by simpa using hb)).trans (hk b ob (by simpa using hb) e)) hf (Nat.le_refl _) new
    refine ⟨.ref s.heap.objs.size, _, I1, rfl, ⟨_, k, v, q, hkv, rfl, hq, I.hok.fresh (Nat.le_refl _), rfl⟩, ⟨en.key, en.val, ?_⟩, fun b hb => ?_⟩
    · rw [← hsz]; exact he'
    · have e : b = it := by simpa using hb
      rw [e, upd_ne (Nat.ne_of_lt hlt)]
      exact (hf it (by simp)).1
  done := by
    intro X hP hw hK hc i pins s σ H E I hf st hg
    subst hP hw hK
    obtain ⟨hd, hi⟩ := hg
    obtain ⟨f0, f1, f2, f3, f4, f5⟩ := hf it (by simp)
    obtain ⟨hs, hgd, hx, es', ep', hdt, hsz, ent⟩ := frzTV I hd
    obtain ⟨rfl, rfl⟩ := dict_ep hod hdt
    obtain ⟨ok, ov, he⟩ := st
    rw [← hsz] at he
    exact DT.endI (I.ok.hd hc) he ⟨o, hgd, hx, hdt⟩ (by omega) fun h' eb => ⟨rfl, I.turned (t' := s.toks) (fun b ob hb e => eb b ob hb e) f0 f1 f3 f4 f5⟩
  self := fun A i s Q E st h => let ⟨_, _, e⟩ := st; PySem.W.kcp_self e h
def iItemsT (td : TE) : TI := fun σ H R => td σ H fun x H1 => ∃ d o kvs, x = .ref d ∧ H1 d = some (.frz o (.dT kvs)) ∧ R (Itit d o kvs) H1
theorem pi_itemsT {X : Cx} {e : Expr} {td : TE} {apos cpos : Pos} {elts : List Expr} {kk : Nat} {tpos : Pos} (he : PE X e td) (hbase : attributeBase e "items" X.env (eval e X.env) = eval e X.env := by rfl) (hline : (apos.endLine == cpos.line) = true := by rfl) :
    PI X (.Tuple elts kk tpos) (.Call (.Attribute e "items" apos) [] [] cpos) (iItemsT td) := by
  refine ⟨fun pins s σ H R I h => ?_⟩
  refine wpAny_Call_method (T := "dict") (id := "dict.items") hbase rfl hline F.plainAttrs_dict F.slot_dict_items F.type_dict_items (thn (he.run pins s σ H _ I h) fun u s1 ⟨x, H1, I1, rx, d, o, kvs, ex, hd, q⟩ => ?_)
  subst ex
  obtain rfl : u = Value.ref d := rx
  obtain ⟨hs, hgd, hx, es, ep, hdt, hsz, ent⟩ := frzTV I1 hd
  have raw : DT.Raw s1.heap d es ep := ⟨o, hgd, hx, hdt⟩
  refine ⟨raw.typeIs, ?nd, ?_⟩
  case nd => exact fun b eb => by cases eb; exact ⟨o, hgd, hx.2.1⟩
  have I2 : Inv X pins σ H1 { s1 with heap := s1.heap.push { cls := .type "dict_items", data := .fields #[.ref d] } } := I1.kept (t' := s1.toks) fun b ob q => Heap.get?_push_of_some _ q
  have fin : wpAny (model X.prog X.w) X.A (pyIter (.ref s1.heap.objs.size)) (PIE X pins σ (.Tuple elts kk tpos) R) X.xe { s1 with heap := s1.heap.push { cls := .type "dict_items", data := .fields #[.ref d] } } := by
    refine DT.iterI ⟨_, Heap.get?_push_size _ rfl, rfl, rfl⟩ (raw.push _) (pi_one (tk := s1.toks) I2 _ (turn_itemsT _ hdt) ⟨.none, .none, ?_⟩ q)
    rw [← hsz]
    exact Heap.get?_push_size _ rfl
  show wpAny _ _ (callWith cpos (.builtin "dict.items") [.ref d] [] []) _ X.xe s1
  exact method_meetsIn F.slot_dict_items F.entry_dict_items rfl (PySem.evalArgs_none ⟨rfl, raw.typeIs, F.args_dict_items_1 _, _, DT.meetsItems hs, ⟨raw, fin⟩⟩)
/-- a comprehension over them -/
theorem lc_itemsT {d : Addr} {o : Obj} {kvs : List (List Key × V)} {g : TG} {tt : TT} {te : TE} {vs : List Nat} {σ : L2.St} {H1 : Hp} {D : Addr} {Qd : Hp → Prop} (Pv : Nat → Hp → Prop) (h0 : Pv 0 (upd H1 D (.lst [])))
    (hl : ∀ i H, i ≤ kvs.length → Pv i H → H d = some (.frz o (.dT kvs)))
    (hs : ∀ i k v T q H, kvs[i]? = some (k, v) → Pv i H → H q = some (.tup (k.map kV)) → H T = none → g (.ref T) (wipe σ vs) (upd H T (.tup [.ref q, v])) fun σ2 H2 => wipe σ2 vs = wipe σ vs ∧ tt σ2 H2 fun b H3 =>
      if b = true then te σ2 H3 fun y H4 => ∃ acc, H4 D = some (.lst acc) ∧ acc.length < sizeLine ∧ Pv (i + 1) (upd H4 D (.lst (acc ++ [y]))) else Pv (i + 1) H3) (hd : ∀ H, Pv kvs.length H → Qd H) :
    ∃ W : Nat → Nat → Hp → Prop, (∃ m, W 0 m (upd H1 D (.lst []))) ∧ ∀ i m H, W i m H →
      ((Itit d o kvs).stop i H ∧ Qd H) ∨ ((Itit d o kvs).go i H ∧ ∃ Nx : Hp → Prop, (∀ H', Nx H' → ∃ m', m' < m ∧ W (i + 1) m' H') ∧ ∀ x H', (Itit d o kvs).yld i H x H' → g x (wipe σ vs) H' fun σ2 H2 => wipe σ2 vs = wipe σ vs ∧ tt σ2 H2 fun b H3 =>
        if b = true then te σ2 H3 fun y H4 => ∃ acc, H4 D = some (.lst acc) ∧ acc.length < sizeLine ∧ Nx (upd H4 D (.lst (acc ++ [y]))) else Nx H3) := by
  refine ⟨fun i m H => i + m = kvs.length ∧ Pv i H, ⟨kvs.length, by omega, h0⟩, ?_⟩
  rintro i m H ⟨e, p⟩
  have lk := hl i H (by omega) p
  by_cases lt : i < kvs.length
  · refine Or.inr ⟨⟨lk, lt⟩, Pv (i + 1), fun H' q => ⟨m - 1, by omega, by omega, q⟩, ?_⟩
    rintro x H' ⟨T, k, v, q, hkv, rfl, hq, nT, rfl⟩
    exact hs i k v T q H hkv p hq nT
  · obtain rfl : i = kvs.length := by omega
    exact Or.inl ⟨⟨lk, Nat.le_refl _⟩, hd H p⟩

/-! ### the law entered, one table tracked -/
section
variable {P : Program} {w : World} {K : PySem.W.Frag} {mg mb : Str → Option Value}
theorem enter_lawT {k : Nat} {fa a c T : Addr} {fd : FuncData} {x : Str} {sp : Sp} {s : Shared} {vs : List Value} {ns : List Int}
    (hk : K.In s.heap) (hn : s.heap.Ns mainGlobals mg) (hb : s.heap.Ns builtinsNs mb) (hbb : ∀ x : Str, x ≠ "__name__" → mb x = bootBuiltins x) (nl : s.heap.NoLimit) (hg : s.gens = #[])
    (hT : s.heap.get? T = some (PySem.W.tabObj #[])) (nT : K.lookup T = none) (C : PySem.W.CodeHd s.heap c T)
    (hbm : ∃ (bm : Addr) (ob : Obj), mg "__builtins__" = some (.ref bm) ∧ bm ≠ builtinsNs ∧ s.heap.get? bm = some ob ∧ ob.cls = .type "module" ∧ ob.dict = some builtinsNs ∧ ob.data = .plain)
    (at_a : s.heap.get? a = some { cls := .type "list", data := .seq vs.toArray }) (hi : IntsAre vs ns) (few : ns.length ≤ sizeLine) (hr : Room k callerA)
    (F : ∀ base : Heap, K.In base → base.Ns mainGlobals mg → TabB base mg c T → FnG P w K mg base k fa fd [x] sp) (hbind : ∀ (s : Shared) (u : Value), BindsTo s fd ⟨[u], []⟩ [(x, u)])
    (hsp : ∀ H : Hp, H T = some (.tbl #[]) → SqL K H a (ns.map V.int) → sp [.ref a] H (fun v _ => v = .bl true) E0) :
    codeAny (model P w) callerA (.call (.ref fa) ⟨[.ref a], []⟩) (fun r s' => r = .ok (.ret (.bool true)) ∧ OldK s.heap s'.heap ∧ s'.os = s.os ∧ AllBare s'.gens) s := by
  obtain ⟨H0, En⟩ := Entry.there (P := P) (w := w) hk at_a hi few
  have aT : a ≠ T := by
    rintro rfl
    rw [at_a] at hT
    cases congrArg Obj.data (Option.some.inj hT)
  have H0T : H0 T = none := En.nope T aT.symm
  have off : ∀ b, b ≠ a → b ≠ T → upd H0 T (.tbl #[]) b = none := fun b h1 h2 => by rw [upd_ne h2]; exact En.nope b h1
  have held : HOk P w (upd H0 T (.tbl #[])) s.heap := by
    intro b o e
    by_cases hbT : b = T
    · subst hbT
      rw [upd_same] at e
      cases e
      exact hT
    · rw [upd_ne hbT] at e
      rcases En.only b with z | ⟨ob, xs, z⟩
      · rw [z] at e; cases e
      · rw [z] at e
        cases e
        exact En.held b _ z
  have seq : SqL K (upd H0 T (.tbl #[])) a (ns.map V.int) := by
    rcases En.seq with (z | ⟨ob, z⟩) | z
    · exact .inl (.inl (by rw [upd_ne aT]; exact z))
    · exact .inl (.inr ⟨ob, by rw [upd_ne aT]; exact z⟩)
    · exact .inr z
  have out : ∀ {b : Addr} {o : Obj}, s.heap.get? b = some o → (∀ us n, o.data ≠ .seq us n) → (∀ us, o.data ≠ .fields us ∨ o.cls ≠ .none) → (hidT s.heap (upd H0 T (.tbl #[]))).get? b = some o := fun {b o} q n1 n2 => by
    refine hidT_get q (off b ?_ ?_)
    · rintro rfl
      rw [at_a] at q
      cases q
      exact n1 _ _ rfl
    · rintro rfl
      rw [hT] at q
      cases q
      rcases n2 #[] with z | z
      · exact z rfl
      · exact z rfl
  have dicts : ∀ {b : Addr} {m : Str → Option Value}, s.heap.Ns b m → (hidT s.heap (upd H0 T (.tbl #[]))).Ns b m := by
    rintro b m ⟨o, es, ep, q, d, r⟩
    exact ⟨o, es, ep, out q (fun us n z => by rw [d] at z; cases z) (fun us => .inl fun z => by rw [d] at z; cases z), d, r⟩
  have inK : K.In (hidT s.heap (upd H0 T (.tbl #[]))) := by
    intro b o q
    by_cases hbT : b = T
    · rw [hbT, nT] at q; cases q
    by_cases hba : b = a
    · subst hba
      rcases En.off with z | z
      · exact hidT_get (hk _ _ q) (by rw [upd_ne hbT]; exact z)
      · rw [z] at q; cases q
    · exact hidT_get (hk _ _ q) (off b hba hbT)
  have gT : mainGlobals ≠ T := by
    intro z
    obtain ⟨o, es, ep, e, hd, _⟩ := hn
    rw [z, hT] at e
    cases e
    cases hd
  have tab : TabB (hidT s.heap (upd H0 T (.tbl #[]))) mg c T := by
    refine ⟨?_, ?_, gT⟩
    · obtain ⟨o, us, file, tf, flags, tg, inF, text, tt, e1, r1, r2, rest⟩ := C
      refine ⟨o, us, file, tf, flags, tg, inF, text, tt, out e1 (fun us n z => ?_) (fun us => .inr fun z => ?_), r1, r2, rest⟩
      · rw [r2] at z; cases z
      · rw [r1] at z; cases z
    · obtain ⟨bm, ob, b1, b2, b3, b4, b5, b6⟩ := hbm
      refine ⟨bm, ob, b1, b2, fun z => ?_, fun z => ?_, out b3 (fun us n z => ?_) (fun us => .inl fun z => ?_), b4, b5, b6⟩
      · obtain ⟨o, es, ep, e, hd, _⟩ := hn
        rw [z, e] at b3
        cases b3
        rw [hd] at b6
        cases b6
      · rw [z, hT] at b3
        cases b3
        cases b6
      · rw [b6] at z; cases z
      · rw [b6] at z; cases z
  have modl : Mod K mg (hidT s.heap (upd H0 T (.tbl #[]))) := {
    kin := inK
    glob := dicts hn
    blt := ⟨mb, dicts hb, hbb⟩
    nolimit := by obtain ⟨mc, z1, z2⟩ := nl; exact ⟨mc, dicts z1, z2⟩ }
  have none_in : ∀ b, b ∈ frs ([] : List Env) → False := fun b z => by
    have z' : b ∈ ([] : List Addr) := z
    cases z'
  have e0 : Env0 P w K mg (hidT s.heap (upd H0 T (.tbl #[]))) callerA [] s (upd H0 T (.tbl #[])) := {
    frames := rfl
    mod := modl
    bs := fun b o q => of_hidT q
    bsz := Nat.le_of_eq (hidT_size _ _)
    funs := trivial
    frf := fun b z => (none_in b z).elim
    hok := held
    bare := .of_eq hg }
  apply codeAny_mono ((F _ inK (dicts hn) tab).go callerA [] s (upd H0 T (.tbl #[])) ⟨[.ref a], []⟩ [.ref a] [.ref a] _ rfl hr e0 (hbind s (.ref a)) (.cons rfl .nil) (hsp _ upd_same seq))
  intro r s' z
  match r, z with
  | .error _, z => exact False.elim z
  | .ok .next, z => exact False.elim z
  | .ok .brk, z => exact False.elim z
  | .ok .cont, z => exact False.elim z
  | .ok (.ret u), z =>
    obtain ⟨v, H', os, bare, un, held', rv, rfl⟩ := z
    cases rv
    obtain ⟨more, zm⟩ := un.tbls T #[] upd_same
    have hT' : s'.heap.get? T = some { cls := .none, data := .fields (#[] ++ more) } := held' T _ zm
    have key : ∀ b o, b ≠ T → s.heap.get? b = some o → s'.heap.get? b = some o := by
      intro b o hbT q
      rcases En.only b with y | ⟨ob, xs, y⟩
      · exact un.keep b o q (by rw [upd_ne hbT]; exact y) (none_in b) (by intro y2; cases y2)
      · have y0 : upd H0 T (.tbl #[]) b = some (.frz ob (.lst xs)) := by rw [upd_ne hbT]; exact y
        have y1 := (En.held b _ y).left
        have y2 := (held' b _ (un.frzs b ob _ y0)).left
        rw [y1] at q
        cases q
        exact y2
    refine ⟨rfl, ⟨fun b o q => ?_, fun b o q => ?_⟩, os, bare⟩
    · by_cases hbT : b = T
      · subst hbT
        rw [hT] at q
        cases q
        exact .inr (.inl ⟨(C.tab hT).isCodeTable, rfl, #[], more, rfl, hT'⟩)
      · exact .inl (key b o hbT q)
    · by_cases hbT : b = T
      · rw [hbT]; exact ⟨_, hT'⟩
      · exact ⟨o, key b o hbT q⟩
end
/-- the goal that km_head leaves, from the law's promise -/
theorem walkGT {l : PySem.W.OpenLaw} {n k : Nat} {q : Program} {loose : List Str} {XP : (Str → Option Value) → Heap → Prop} {YP : World → Heap → Prop} {d : DefRec} {K : Params → PySem.W.Frag} {sp : Addr → PySem.W.Frag → Sp} {x : Str}
    (hn : l.most = some n) (few : n ≤ sizeLine) (hdf : d.params.defaults = []) (hr : Room k callerA) (hY : ∀ (w : World) (h : Heap), YP w h → (K w.params).In h)
    (F : ∀ (w : World) (mg : Str → Option Value) (fa : Addr) (h : Heap), YP w h → (K w.params).In h → h.Ns mainGlobals mg → mg d.name = some (.ref fa) →
      ∃ (c T : Addr) (fd : FuncData), h.get? T = some (PySem.W.tabObj #[]) ∧ (K w.params).lookup T = none ∧ PySem.W.CodeHd h c T ∧ (∀ (s : Shared) (u : Value), BindsTo s fd ⟨[u], []⟩ [(x, u)]) ∧
        ∀ base : Heap, (K w.params).In base → base.Ns mainGlobals mg → TabB base mg c T → FnG l.prog w (K w.params) mg base k fa fd [x] (sp T (K w.params)))
    (hsp : ∀ (T : Addr) (K : PySem.W.Frag) (H : Hp) (a : Addr) (ns : List Int), ns.length ≤ n → H T = some (.tbl #[]) → SqL K H a (ns.map V.int) → sp T K [.ref a] H (fun v _ => v = .bl true) E0) :
    PySem.W.WalkO q loose XP YP l.row.toRowW d [] (fun f vs => PySem.call f vs) := by
  apply Att.attach_call hn hdf
  intro w s0 s1 mg mb fa o pm cd doc a vs ns G Y ho hd hcd hmg hobj hints hlen hg
  obtain ⟨c, T, fd, hT, nT, C, hb, hF⟩ := F w mg fa _ Y (hY w _ Y) G.T.g hmg
  exact enter_lawT (hY w _ Y) G.T.g G.T.b G.T.builtins G.T.nolimit hg hT nT C G.T.bmain hobj hints (Nat.le_trans hlen few) hr hF hb (fun H hH hS => hsp T _ H a ns hlen hH hS)
theorem tab_mk {h : Heap} {K : PySem.W.Frag} {c T : Addr} {x : Str} {α : Addr → Addr → FuncData → Prop} (h1 : h.get? T = some (PySem.W.tabObj #[])) (h2 : K.lookup T = none) (h3 : PySem.W.CodeHd h c T) (am : ∃ fd : FuncData, (∀ (s : Shared) (u : Value), BindsTo s fd ⟨[u], []⟩ [(x, u)]) ∧ α c T fd) :
    ∃ (c T : Addr) (fd : FuncData), h.get? T = some (PySem.W.tabObj #[]) ∧ K.lookup T = none ∧ PySem.W.CodeHd h c T ∧ (∀ (s : Shared) (u : Value), BindsTo s fd ⟨[u], []⟩ [(x, u)]) ∧ α c T fd :=
  let ⟨fd, b, f⟩ := am
  ⟨c, T, fd, h1, h2, h3, b, f⟩
theorem u65 {k : Nat} {A : Around} (hr : Room k A) : A.units + 65 < cLine := by
  have := hr.un
  omega
theorem op_inDK {X : Cx} {K : PySem.W.Frag} (h : X.K = K) (hu : X.A.units + 65 < cLine) : OpR X (compareOp .In) (rInD K) := h ▸ op_inD hu
theorem op_notInDK {X : Cx} {K : PySem.W.Frag} (h : X.K = K) (hu : X.A.units + 65 < cLine) : OpR X (compareOp .NotIn) (rNotInD K) := h ▸ op_notInD hu
/-! ### a def whose code object is known -/
structure FunC (K : PySem.W.Frag) (x qual : Str) (st : Stmt) (f : Addr) (fd : FuncData) (c : Addr) : Prop where
  ex : ∃ (oc : Value) (od : Option Addr) (kV doc pm : Value) (an : Option Addr) (ct : Value) (osl : Array (Option Value)),
    fd = PySem.W.fnOf x qual (defArgs st) (defBody st) (defScope st) .none kV doc pm an (.ref c) ct ∧ K.lookup f = some ⟨oc, od, .func fd, osl⟩ ∧ PySem.W.codeIn K (.ref c) qual = true
  kp : PySem.W.keepIn K (.ref f) = true
section
variable {P : Program} {w : World} {K : PySem.W.Frag} {mg : Str → Option Value} {base : Heap}
theorem FunC.plain {x qual : Str} {st : Stmt} {f : Addr} {fd : FuncData} {c : Addr} (F : FunC K x qual st f fd c) : Fun K x qual st f fd :=
  ⟨let ⟨oc, od, kV, doc, pm, an, ct, osl, e, l, r⟩ := F.ex; ⟨oc, od, kV, doc, pm, an, .ref c, ct, osl, e, l, r⟩, F.kp⟩
theorem FunC.ok {x qual : Str} {st : Stmt} {f c : Addr} {fd : FuncData} {N ps : List Str} {k : Nat} {sp : Sp} (F : FunC K x qual st f fd c) (S : FnScope N ps (defScope st)) (few : ∀ vs H Q E, sp vs H Q E → vs.length = ps.length)
    (body : ∀ (A : Around) (outer : List Env) (s : Shared) (H : Hp) (vs : List V) (Q : VK) (E : XK), Room k (A.deeper (envOfC qual (defScope st) s.heap.objs.size f (.ref c))) → sp vs H Q E →
      ∃ t, PSs (cxOf CX0 P w K mg base N qual (defScope st) f (.ref c) A outer s H E).nox (defBody st) t ∧ t { nx := fun _ H' => Q .non H', rt := Q } (start N vs) H) : FnOk P w K mg base CX0 (k + 1) f fd ps sp := by
  obtain ⟨_, _, _, _, _, _, _, _, rfl, at_f, cd_ok⟩ := F.ex
  refine fn_of at_f cd_ok S few fun A outer s H vs Q E hr h => ?_
  obtain ⟨t, ht, q⟩ := body A outer s H vs Q E hr h
  exact ⟨t, ht.nox, q⟩
theorem funC_mk {x qual : Str} {st : Stmt} {f c : Addr} {oc : Value} {od an : Option Addr} {osl : Array (Option Value)} {kV doc pm ct : Value} (l : K.lookup f = some ⟨oc, od, .func (PySem.W.fnOf x qual (defArgs st) (defBody st) (defScope st) .none kV doc pm an (.ref c) ct), osl⟩)
    (r : PySem.W.codeIn K (.ref c) qual = true) (k : PySem.W.keepIn K (.ref f) = true) : FunC K x qual st f (PySem.W.fnOf x qual (defArgs st) (defBody st) (defScope st) .none kV doc pm an (.ref c) ct) c := ⟨⟨_, _, _, _, _, _, _, _, rfl, l, r⟩, k⟩
end
end Pg

namespace K31
open PySem PySem.Spec PyProof.Rows L2 Pg
def topS (i : Nat) : Stmt := PySem.Challenge.pw_pagesatonce_k31_timers_in_order.main.body.getD i (.Pass ⟨0, 0, 0, 0⟩)
abbrev s_Timers_in_order : Stmt := inClass (topS 1) 6
theorem sc_Timers_in_order : FnScope ["self", "timers", "key", "due"] ["self"] (defScope s_Timers_in_order) := ⟨rfl, rfl, rfl, by decide +kernel, rfl, by decide +kernel, by decide +kernel⟩
abbrev s_Timers_init : Stmt := inClass (topS 1) 0
theorem sc_Timers_init : FnScope ["self"] ["self"] (defScope s_Timers_init) := ⟨rfl, rfl, rfl, by decide +kernel, rfl, by decide +kernel, by decide +kernel⟩
abbrev s_Timers_remove : Stmt := inClass (topS 1) 2
theorem sc_Timers_remove : FnScope ["self", "key"] ["self", "key"] (defScope s_Timers_remove) := ⟨rfl, rfl, rfl, by decide +kernel, rfl, by decide +kernel, by decide +kernel⟩
abbrev s_Timers_put : Stmt := inClass (topS 1) 1
theorem sc_Timers_put : FnScope ["self", "key", "due"] ["self", "key", "due"] (defScope s_Timers_put) := ⟨rfl, rfl, rfl, by decide +kernel, rfl, by decide +kernel, by decide +kernel⟩
abbrev s_Timers_due : Stmt := inClass (topS 1) 3
theorem sc_Timers_due : FnScope ["self", "key"] ["self", "key"] (defScope s_Timers_due) := ⟨rfl, rfl, rfl, by decide +kernel, rfl, by decide +kernel, by decide +kernel⟩
abbrev s_Timers_first : Stmt := inClass (topS 1) 4
theorem sc_Timers_first : FnScope ["self", "timers"] ["self"] (defScope s_Timers_first) := ⟨rfl, rfl, rfl, by decide +kernel, rfl, by decide +kernel, by decide +kernel⟩
abbrev s_Timers_keys : Stmt := inClass (topS 1) 5
theorem sc_Timers_keys : FnScope ["self", "_", "key"] ["self"] (defScope s_Timers_keys) := ⟨rfl, rfl, rfl, by decide +kernel, rfl, by decide +kernel, by decide +kernel⟩
abbrev s_law_cell : Stmt := topS 3
theorem sc_law_cell : FnScope ["script", "k"] ["script", "k"] (defScope s_law_cell) := ⟨rfl, rfl, rfl, by decide +kernel, rfl, by decide +kernel, by decide +kernel⟩
abbrev s_law_digits : Stmt := topS 4
theorem sc_law_digits : FnScope ["script", "first", "last", "digits", "k", "cell", "turn", "seed"] ["script", "first", "last"] (defScope s_law_digits) := ⟨rfl, rfl, rfl, by decide +kernel, rfl, by decide +kernel, by decide +kernel⟩
abbrev s_law_draw : Stmt := topS 5
theorem sc_law_draw : FnScope ["box", "many", "at"] ["box", "many"] (defScope s_law_draw) := ⟨rfl, rfl, rfl, by decide +kernel, rfl, by decide +kernel, by decide +kernel⟩
abbrev s_law_alike : Stmt := topS 6
theorem sc_law_alike : FnScope ["one", "two"] ["one", "two"] (defScope s_law_alike) := ⟨rfl, rfl, rfl, by decide +kernel, rfl, by decide +kernel, by decide +kernel⟩
abbrev s_law_rows_in_order : Stmt := topS 7
theorem sc_law_rows_in_order : FnScope ["rows", "found", "due", "row"] ["rows"] (defScope s_law_rows_in_order) := ⟨rfl, rfl, rfl, by decide +kernel, rfl, by decide +kernel, by decide +kernel⟩
abbrev s_law : Stmt := topS 8
theorem sc_law : FnScope ["script", "box", "timers", "rows", "turn", "key", "there", "rest", "due", "order", "first", "found", "row"] ["script"] (defScope s_law) := ⟨rfl, rfl, rfl, by decide +kernel, rfl, by decide +kernel, by decide +kernel⟩
structure T_Timers (K : PySem.W.Frag) (mg : Str → Option Value) (C : Addr) : Prop where
  cl : Cls K C
  g : mg "Timers" = some (.ref C)
  n_dues : NoAttr K C "_dues"
structure Z (mg : Str → Option Value) : Prop where
  «len» : mg "len" = none
  «range» : mg "range" = none
  «int» : mg "int" = none
  «repr» : mg "repr" = none
  «list» : mg "list" = none
  «sorted» : mg "sorted" = none
  «min» : mg "min" = none
end K31

namespace K31
open PySem PySem.Spec PyProof.Rows L2 Pg
/-! ### what the helpers of the law promise -/
/-- a cell of the script, or 0 -/
def spCell (K : PySem.W.Frag) : Sp := fun vs H Q _ => ∃ (l : Addr) (ns : List Int) (k : Nat), vs = [.ref l, .int (k : Nat)] ∧ SqL K H l (ns.map V.int) ∧ ∀ c : Int, Q (.int c) H
/-- a new list of some whole numbers -/
def spDigits (K : PySem.W.Frag) : Sp := fun vs H Q _ => ∃ (l : Addr) (ns : List Int) (a b : Nat), vs = [.ref l, .int (a : Nat), .int (b : Nat)] ∧ SqL K H l (ns.map V.int) ∧ a ≤ 63 ∧ b ≤ 63 ∧
  ∀ (H' : Hp) (p : Addr) (ds : List Int), Same H H' → H p = none → H' p = some (.lst (ds.map V.int)) → ds.length ≤ 4000 → Q (.ref p) H'
/-- the box of the draws: its digits stand at d -/
def BoxAt (H : Hp) (b d : Addr) : Prop := ∃ (ds : List Int) (n : Nat), H b = some (.lst [.ref d, .int (n : Nat)]) ∧ H d = some (.lst (ds.map V.int)) ∧ d ≠ b ∧ ds.length ≤ 4000
def Box (H : Hp) (b : Addr) : Prop := ∃ d, BoxAt H b d
/-- all but the box is as it was -/
structure Drew (b : Addr) (H H' : Hp) : Prop where
  box : Box H' b
  dig : ∀ d, BoxAt H b d → BoxAt H' b d
  keep : ∀ p o, p ≠ b → H p = some o → H' p = some o
theorem Drew.trans {b : Addr} {H H1 H2 : Hp} (x : Drew b H H1) (y : Drew b H1 H2) : Drew b H H2 := ⟨y.box, fun d e => y.dig d (x.dig d e), fun p o n e => y.keep p o n (x.keep p o n e)⟩
theorem BoxAt.same {b d : Addr} {H H' : Hp} (x : BoxAt H b d) (s : Same H H') : BoxAt H' b d := by
  obtain ⟨ds, n, e1, e2, ne, few⟩ := x
  exact ⟨ds, n, s _ _ e1, s _ _ e2, ne, few⟩
theorem BoxAt.upd {b d p : Addr} {H : Hp} {o : HO} (x : BoxAt H b d) (n1 : p ≠ b) (n2 : p ≠ d) : BoxAt (upd H p o) b d := by
  obtain ⟨ds, n, e1, e2, ne, few⟩ := x
  exact ⟨ds, n, by rw [upd_ne n1.symm]; exact e1, by rw [upd_ne n2.symm]; exact e2, ne, few⟩
theorem BoxAt.ne {b d p : Addr} {H : Hp} (x : BoxAt H b d) (n : H p = none) : p ≠ b ∧ p ≠ d := by
  obtain ⟨ds, m, e1, e2, _⟩ := x
  exact ⟨(ne_of_none e1 n).symm, (ne_of_none e2 n).symm⟩
theorem Box.same {b : Addr} {H H' : Hp} (x : Box H b) (s : Same H H') : Box H' b := let ⟨d, e⟩ := x; ⟨d, e.same s⟩
theorem Box.ne {b p : Addr} {H : Hp} (x : Box H b) (n : H p = none) : p ≠ b := let ⟨_, e⟩ := x; (e.ne n).1
theorem Drew.same {b : Addr} {H H1 H2 : Hp} (x : Drew b H H1) (s : Same H1 H2) : Drew b H H2 := ⟨x.box.same s, fun d e => (x.dig d e).same s, fun p o n e => s _ _ (x.keep p o n e)⟩
theorem Drew.of {b : Addr} {H H' : Hp} (x : Box H b) (s : Same H H') : Drew b H H' := ⟨x.same s, fun d e => e.same s, fun p o _ e => s _ _ e⟩
theorem same_new {H : Hp} {p : Addr} {o : HO} (h : H p = none) : Same H (upd H p o) := by
  intro b x e
  rw [upd_ne (ne_of_none e h)]
  exact e
theorem small5 {n : Nat} (h : n ≤ 100000) : n < sizeLine := Nat.lt_of_le_of_lt h (by decide)
def spDraw : Sp := fun vs H Q _ => ∃ (b : Addr) (many : Int), vs = [.ref b, .int many] ∧ 0 < many ∧ Box H b ∧ ∀ (r : Int) (H' : Hp), 0 ≤ r → r < many → Drew b H H' → Q (.int r) H'
def names8 : List Str := ["a", "b", "c", "d", "e", "ab", "bc", "cd"]
def spName : Sp := fun vs H Q _ => ∃ b : Addr, vs = [.ref b] ∧ Box H b ∧ ∀ (z : Str) (H' : Hp), z ∈ names8 → Drew b H H' → Q (.str z) H'
section
variable {P : Program} {w : World} {K : PySem.W.Frag} {mg : Str → Option Value} {base : Heap} {f : Addr} {fd : FuncData}
theorem ok_law_cell (F : Fun K "_law_cell" "_law_cell" s_law_cell f fd) (z : Z mg) : FnOk P w K mg base CX0 1 f fd ["script", "k"] (spCell K) := by
  refine F.ok sc_law_cell (fun vs H Q E h => ?_) (fun cdv A outer s H vs Q E hr h => ?_)
  · obtain ⟨l, ns, k, rfl, _⟩ := h
    rfl
  · obtain ⟨l, ns, k, rfl, hs, q⟩ := h
    refine ⟨_, (pss_cons (ps_if (pt_cmpR op_lt (pv 1) (pe_callB call_len_seq (by rfl) z.len PySem.boot_len (pa_cons (pv 0) pa_nil)) (nomark _))
        (pss_one (ps_ret (pe_ix ix_list (pv 0) (pv 1) (fun _ _ => rfl))))
        pss_nil)
      (pss_one (ps_ret pe_int))), ?_⟩
    refine ⟨_, rfl, .ref l, rfl, l, ns.map V.int, rfl, .inl hs, _, _, rfl, rfl, _, rfl, ite2 (fun e => ?_) (fun e => ?_)⟩
    · have lt : k < ns.length := by
        have e := of_decide_eq_true e
        rw [List.length_map] at e
        omega
      exact ⟨.ref l, rfl, _, rfl, l, _, _, _, rfl, rfl, hs, atI_nat (j := k) (by rw [List.getElem?_map, List.getElem?_eq_getElem lt]; rfl), q _⟩
    · exact q 0
theorem ok_law_draw (F : Fun K "_law_draw" "_law_draw" s_law_draw f fd) (z : Z mg) : FnOk P w K mg base CX0 1 f fd ["box", "many"] spDraw := by
  refine F.ok sc_law_draw (fun vs H Q E h => ?_) (fun cdv A outer s H vs Q E hr h => ?_)
  · obtain ⟨b, many, rfl, _⟩ := h
    rfl
  · obtain ⟨b, many, rfl, hm, ⟨d, ds, n, hb, hd, ne, few⟩, q⟩ := h
    refine ⟨_, (pss_cons (ps_set (i := 2) sc_law_draw.nd rfl (Or.inl rfl) (pe_ix ix_list (pv 0) pe_int (fun _ _ => rfl)))
      (pss_cons (ps_asg (pe_op op_add (pv 2) pe_int) (pg_sub (pv 0) pe_int set_list))
      (pss_cons (ps_if (pt_cmpR op_lt (pv 2) (pe_callB call_len_seq (by rfl) z.len PySem.boot_len (pa_cons (pe_ix ix_list (pv 0) pe_int (fun _ _ => rfl)) pa_nil)) (nomark _))
        (pss_one (ps_ret (pe_op op_mod (pe_callTy call_int1 (by rfl) z.int (by decide +kernel) (pa_cons (pe_ix ix_list (pe_ix ix_list (pv 0) pe_int (fun _ _ => rfl)) (pv 2) (fun _ _ => rfl)) pa_nil)) (pv 1))))
        pss_nil)
      (pss_one (ps_ret (pe_op op_mod (pe_callTy call_int1 (by rfl) z.int (by decide +kernel) (pa_cons (pe_op op_add (pe_op op_mul (pv 2) pe_int) pe_int) pa_nil)) (pv 1))))))), ?_⟩
    have hB : ∀ {H : Hp} {m : Int}, H b = some (.lst [.ref d, .int m]) → SqL K H b [.ref d, .int m] := fun e => .inl (.inl e)
    -- one draw further
    refine ⟨.ref b, rfl, b, _, _, .int (n : Nat), rfl, rfl, hB hb, rfl, ?_⟩
    refine ⟨_, rfl, _, _, rfl, rfl, .ref b, rfl, b, _, _, 1, rfl, rfl, hb, rfl, ?_⟩
    have hb' : (upd H b (.lst ([.ref d, .int (n : Nat)].set 1 (.int ((n : Nat) + 1))))) b = some (.lst [.ref d, .int ((n + 1 : Nat) : Int)]) := upd_same
    have hd' : (upd H b (.lst ([.ref d, .int (n : Nat)].set 1 (.int ((n : Nat) + 1))))) d = some (.lst (ds.map V.int)) := by rw [upd_ne ne]; exact hd
    have dr : Drew b H (upd H b (.lst ([.ref d, .int (n : Nat)].set 1 (.int ((n : Nat) + 1))))) := ⟨⟨d, ds, n + 1, hb', hd', ne, few⟩, fun d' B => by
      obtain ⟨ds', n', e1, e2, ne', few'⟩ := B
      rw [hb] at e1
      cases e1
      exact ⟨ds, n + 1, hb', hd', ne, few⟩, fun p o np e => by rw [upd_ne np]; exact e⟩
    -- if at < len(box[0])
    refine ⟨_, rfl, .ref b, rfl, b, _, _, .ref d, rfl, rfl, hB hb', rfl, d, _, rfl, .inl (.inl (.inl hd')), _, _, rfl, rfl, _, rfl, ite2 (fun e => ?_) (fun e => ?_)⟩
    · have lt : n < ds.length := by
        have e := of_decide_eq_true e
        rw [List.length_map] at e
        omega
      refine ⟨.ref b, rfl, b, _, _, .ref d, rfl, rfl, hB hb', rfl, _, rfl, d, _, _, .int ds[n], rfl, rfl, .inl (.inl hd'), atI_nat (j := n) (by rw [List.getElem?_map, List.getElem?_eq_getElem lt]; rfl), .inl ⟨_, rfl, ?_⟩⟩
      exact ⟨_, rfl, _, _, rfl, rfl, hm, q _ _ (Int.emod_nonneg _ (by omega)) (Int.emod_lt_of_pos _ hm) dr⟩
    · refine ⟨_, rfl, _, _, rfl, rfl, .inr ⟨by decide, by decide⟩, _, _, rfl, rfl, .inl ⟨_, rfl, ?_⟩⟩
      exact ⟨_, rfl, _, _, rfl, rfl, hm, q _ _ (Int.emod_nonneg _ (by omega)) (Int.emod_lt_of_pos _ hm) dr⟩
theorem ok_law_digits (F : Fun K "_law_digits" "_law_digits" s_law_digits f fd) (z : Z mg) (claw_cell : Cal P w K mg base "_law_cell" 1 ["script", "k"] (spCell K)) :
    FnOk P w K mg base CX0 2 f fd ["script", "first", "last"] (spDigits K) := by
  refine F.ok sc_law_digits (fun vs H Q E h => ?_) (fun cdv A outer s H vs Q E hr h => ?_)
  · obtain ⟨l, ns, a, b, rfl, _⟩ := h
    rfl
  · obtain ⟨l, ns, a, b, rfl, hs, ha, hb, q⟩ := h
    refine ⟨_, (pss_cons (ps_set (i := 3) sc_law_digits.nd rfl (Or.inl rfl) (pe_lst pa_nil))
      (pss_cons (ps_for PassesOwn.never rfl (pi_range2 (by rfl) z.range (pa_cons (pv 1) (pa_cons (pv 2) pa_nil))) (pg_name (i := 4) sc_law_digits.nd rfl (Or.inl rfl))
        (pss_cons (ps_set (i := 5) sc_law_digits.nd rfl (Or.inl rfl) (pe_cal claw_cell (hr.mono (by decide)) (by rfl) (pa_cons (pv 0) (pa_cons (pv 4) pa_nil))))
        (pss_cons (ps_if (pt_cmpR op_lt (pv 5) pe_int (nomark _))
          (pss_one (ps_set (i := 5) sc_law_digits.nd rfl (Or.inl rfl) (pe_op op_sub pe_int (pe_op op_mul pe_int (pv 5)))))
          pss_nil)
        (pss_one (ps_if (pt_cmpR op_ge (pv 5) pe_int (nomark _))
          (pss_one (ps_for PassesOwn.never rfl (pi_range1 (by rfl) z.range (pa_cons pe_int pa_nil)) (pg_name (i := 6) sc_law_digits.nd rfl (Or.inl rfl))
            (pss_one (ps_if (pt_cmpR op_gt (pv 5) pe_int (nomark _))
              (pss_cons (ps_expr (pe_bm PySem.F.plainAttrs_list PySem.F.slot_list_append PySem.F.type_list_append mt_append (pv 3) (pa_cons (pe_op op_mod (pe_callTy call_int1 (by rfl) z.int (by decide +kernel) (pa_cons (pv 5) pa_nil)) pe_int) pa_nil)))
              (pss_one (ps_set (i := 5) sc_law_digits.nd rfl (Or.inl rfl) (pe_op op_fdiv (pv 5) pe_int))))
              pss_nil))))
          (pss_cons (ps_set (i := 7) sc_law_digits.nd rfl (Or.inl rfl) (pe_op op_mod (pe_callTy call_int1 (by rfl) z.int (by decide +kernel) (pa_cons (pe_op op_add (pe_op op_add (pe_op op_mul (pv 5) pe_int) (pe_op op_mul (pv 4) pe_int)) pe_int) pa_nil)) pe_int))
          (pss_one (ps_for PassesOwn.never rfl (pi_range1 (by rfl) z.range (pa_cons pe_int pa_nil)) (pg_name (i := 6) sc_law_digits.nd rfl (Or.inl rfl))
            (pss_cons (ps_set (i := 7) sc_law_digits.nd rfl (Or.inl rfl) (pe_op op_mod (pe_callTy call_int1 (by rfl) z.int (by decide +kernel) (pa_cons (pe_op op_add (pe_op op_add (pe_op op_mul (pv 7) pe_int) (pe_op op_mul pe_int (pv 6))) pe_int) pa_nil)) pe_int))
            (pss_one (ps_expr (pe_bm PySem.F.plainAttrs_list PySem.F.slot_list_append PySem.F.type_list_append mt_append (pv 3) (pa_cons (pe_op op_mod (pe_callTy call_int1 (by rfl) z.int (by decide +kernel) (pa_cons (pe_op op_fdiv (pv 7) pe_int) pa_nil)) pe_int) pa_nil)))))))))))))
      (pss_one (ps_ret (pv 3))))), ?_⟩
    -- digits = []
    refine ⟨Nat.zero_le _, fun D nD => ?_⟩
    -- cell by cell
    refine ⟨_, rfl, _, rfl, _, _, rfl, ⟨by omega, by omega, by omega, by omega⟩, ?_⟩
    refine for_range (lo := (a : Int)) (n := ((b : Int) - (a : Int)).toNat) (fun i σ H3 => ∃ (y4 y5 y6 y7 : Option V) (ds : List Int), σ = [some (.ref l), some (.int (a : Nat)), some (.int (b : Nat)), some (.ref D), y4, y5, y6, y7] ∧
      Same H H3 ∧ H3 D = some (.lst (ds.map V.int)) ∧ ds.length ≤ 60 * i) ⟨none, none, none, none, [], rfl, same_new nD, upd_same, Nat.zero_le _⟩ ?_ ?_
    · rintro i σ H3 hi ⟨y4, y5, y6, y7, ds, rfl, sm, hD, few⟩
      have hi' : i < 63 := by omega
      -- a cell
      refine ⟨.ref l, rfl, .int ((a : Int) + i), rfl, l, ns, a + i, by simp, sm.seq hs, fun c => ?_⟩
      have appd : ∀ {H4 : Hp} {es : List Int} (x : Int), H4 D = some (.lst (es.map V.int)) → Same H H4 → Same H (upd H4 D (.lst (es.map V.int ++ [.int x]))) := fun x e s p o q => by
        rw [upd_ne (ne_of_none q nD)]
        exact s p o q
      -- if cell < 0
      refine ⟨_, rfl, _, _, rfl, rfl, _, rfl, ite2 (fun _ => ?_) (fun _ => ?_)⟩
      · refine ⟨_, rfl, _, _, rfl, rfl, .inl ⟨by decide, by decide⟩, _, _, rfl, rfl, ?_⟩
        refine ⟨_, rfl, _, _, rfl, rfl, _, rfl, ite2 (fun _ => ?_) (fun _ => ?_)⟩
        · -- sixty turns
          refine ⟨60, rfl, by decide, by decide, ?_⟩
          refine for_range (lo := 0) (n := 60) (fun j σ H4 => ∃ (x6 x7 : Option V) (c : Int) (es : List Int), σ = [some (.ref l), some (.int (a : Nat)), some (.int (b : Nat)), some (.ref D), some (.int ((a : Int) + i)), some (.int c), x6, x7] ∧
            Same H H4 ∧ H4 D = some (.lst (es.map V.int)) ∧ es.length ≤ ds.length + j) ⟨_, _, _, ds, rfl, sm, hD, Nat.le_refl _⟩ ?_ ?_
          · rintro j σ H4 hj ⟨x6, x7, c, es, rfl, sm4, hD4, few4⟩
            refine ⟨_, rfl, _, _, rfl, rfl, _, rfl, ite2 (fun _ => ?_) (fun _ => ?_)⟩
            · refine ⟨.ref D, rfl, .inl ⟨rfl, _, .inl (.inl hD4)⟩, _, rfl, .inl ⟨_, rfl, ?_⟩⟩
              refine ⟨_, _, rfl, rfl, (by show (0 : Int) < 1000; decide), D, _, _, rfl, rfl, hD4, small5 (by rw [List.length_map]; omega), ?_⟩
              exact ⟨_, rfl, _, _, rfl, rfl, ⟨by decide, by decide⟩, _, _, _, es ++ [c % 1000], rfl, appd _ hD4 sm4, by rw [upd_same, List.map_append]; rfl, by rw [List.length_append]; simp only [List.length_singleton]; omega⟩
            · exact ⟨_, _, _, es, rfl, sm4, hD4, by omega⟩
          · rintro σ H4 ⟨x6, x7, c, es, rfl, sm4, hD4, few4⟩
            exact ⟨_, _, _, _, es, rfl, sm4, hD4, by omega⟩
        · -- twelve turns
          refine ⟨_, rfl, _, _, rfl, rfl, .inr ⟨by decide, by decide⟩, _, rfl, _, _, rfl, rfl, .inr ⟨by decide, by decide⟩, _, _, rfl, rfl, _, _, rfl, rfl, .inl ⟨_, rfl, ?_⟩⟩
          refine ⟨_, _, rfl, rfl, (by show (0 : Int) < 2147483399; decide), ?_⟩
          refine ⟨12, rfl, by decide, by decide, ?_⟩
          refine for_range (lo := 0) (n := 12) (fun j σ H4 => ∃ (x5 x6 : Option V) (c : Int) (es : List Int), σ = [some (.ref l), some (.int (a : Nat)), some (.int (b : Nat)), some (.ref D), some (.int ((a : Int) + i)), x5, x6, some (.int c)] ∧
            Same H H4 ∧ H4 D = some (.lst (es.map V.int)) ∧ es.length ≤ ds.length + j) ⟨_, _, _, ds, rfl, sm, hD, Nat.le_refl _⟩ ?_ ?_
          · rintro j σ H4 hj ⟨x5, x6, c, es, rfl, sm4, hD4, few4⟩
            refine ⟨_, rfl, _, _, rfl, rfl, .inr ⟨by decide, by decide⟩, _, rfl, _, _, rfl, rfl, .inl ⟨by decide, by decide⟩, _, _, rfl, rfl, _, _, rfl, rfl, .inl ⟨_, rfl, ?_⟩⟩
            refine ⟨_, _, rfl, rfl, (by show (0 : Int) < 2147483563; decide), ?_⟩
            refine ⟨.ref D, rfl, .inl ⟨rfl, _, .inl (.inl hD4)⟩, _, rfl, _, _, rfl, rfl, ⟨by decide, by decide⟩, .inl ⟨_, rfl, ?_⟩⟩
            refine ⟨_, _, rfl, rfl, (by show (0 : Int) < 1000; decide), D, _, _, rfl, rfl, hD4, small5 (by rw [List.length_map]; omega), ?_⟩
            exact ⟨_, _, _, es ++ [_], rfl, appd _ hD4 sm4, by rw [upd_same, List.map_append]; rfl, by rw [List.length_append]; simp only [List.length_singleton]; omega⟩
          · rintro σ H4 ⟨x5, x6, c, es, rfl, sm4, hD4, few4⟩
            exact ⟨_, _, _, _, es, rfl, sm4, hD4, by omega⟩
      · skip
        refine ⟨_, rfl, _, _, rfl, rfl, _, rfl, ite2 (fun _ => ?_) (fun _ => ?_)⟩
        · -- sixty turns
          refine ⟨60, rfl, by decide, by decide, ?_⟩
          refine for_range (lo := 0) (n := 60) (fun j σ H4 => ∃ (x6 x7 : Option V) (c : Int) (es : List Int), σ = [some (.ref l), some (.int (a : Nat)), some (.int (b : Nat)), some (.ref D), some (.int ((a : Int) + i)), some (.int c), x6, x7] ∧
            Same H H4 ∧ H4 D = some (.lst (es.map V.int)) ∧ es.length ≤ ds.length + j) ⟨_, _, _, ds, rfl, sm, hD, Nat.le_refl _⟩ ?_ ?_
          · rintro j σ H4 hj ⟨x6, x7, c, es, rfl, sm4, hD4, few4⟩
            refine ⟨_, rfl, _, _, rfl, rfl, _, rfl, ite2 (fun _ => ?_) (fun _ => ?_)⟩
            · refine ⟨.ref D, rfl, .inl ⟨rfl, _, .inl (.inl hD4)⟩, _, rfl, .inl ⟨_, rfl, ?_⟩⟩
              refine ⟨_, _, rfl, rfl, (by show (0 : Int) < 1000; decide), D, _, _, rfl, rfl, hD4, small5 (by rw [List.length_map]; omega), ?_⟩
              exact ⟨_, rfl, _, _, rfl, rfl, ⟨by decide, by decide⟩, _, _, _, es ++ [c % 1000], rfl, appd _ hD4 sm4, by rw [upd_same, List.map_append]; rfl, by rw [List.length_append]; simp only [List.length_singleton]; omega⟩
            · exact ⟨_, _, _, es, rfl, sm4, hD4, by omega⟩
          · rintro σ H4 ⟨x6, x7, c, es, rfl, sm4, hD4, few4⟩
            exact ⟨_, _, _, _, es, rfl, sm4, hD4, by omega⟩
        · -- twelve turns
          refine ⟨_, rfl, _, _, rfl, rfl, .inr ⟨by decide, by decide⟩, _, rfl, _, _, rfl, rfl, .inr ⟨by decide, by decide⟩, _, _, rfl, rfl, _, _, rfl, rfl, .inl ⟨_, rfl, ?_⟩⟩
          refine ⟨_, _, rfl, rfl, (by show (0 : Int) < 2147483399; decide), ?_⟩
          refine ⟨12, rfl, by decide, by decide, ?_⟩
          refine for_range (lo := 0) (n := 12) (fun j σ H4 => ∃ (x5 x6 : Option V) (c : Int) (es : List Int), σ = [some (.ref l), some (.int (a : Nat)), some (.int (b : Nat)), some (.ref D), some (.int ((a : Int) + i)), x5, x6, some (.int c)] ∧
            Same H H4 ∧ H4 D = some (.lst (es.map V.int)) ∧ es.length ≤ ds.length + j) ⟨_, _, _, ds, rfl, sm, hD, Nat.le_refl _⟩ ?_ ?_
          · rintro j σ H4 hj ⟨x5, x6, c, es, rfl, sm4, hD4, few4⟩
            refine ⟨_, rfl, _, _, rfl, rfl, .inr ⟨by decide, by decide⟩, _, rfl, _, _, rfl, rfl, .inl ⟨by decide, by decide⟩, _, _, rfl, rfl, _, _, rfl, rfl, .inl ⟨_, rfl, ?_⟩⟩
            refine ⟨_, _, rfl, rfl, (by show (0 : Int) < 2147483563; decide), ?_⟩
            refine ⟨.ref D, rfl, .inl ⟨rfl, _, .inl (.inl hD4)⟩, _, rfl, _, _, rfl, rfl, ⟨by decide, by decide⟩, .inl ⟨_, rfl, ?_⟩⟩
            refine ⟨_, _, rfl, rfl, (by show (0 : Int) < 1000; decide), D, _, _, rfl, rfl, hD4, small5 (by rw [List.length_map]; omega), ?_⟩
            exact ⟨_, _, _, es ++ [_], rfl, appd _ hD4 sm4, by rw [upd_same, List.map_append]; rfl, by rw [List.length_append]; simp only [List.length_singleton]; omega⟩
          · rintro σ H4 ⟨x5, x6, c, es, rfl, sm4, hD4, few4⟩
            exact ⟨_, _, _, _, es, rfl, sm4, hD4, by omega⟩
    · rintro σ H3 ⟨y4, y5, y6, y7, ds, rfl, sm, hD, few⟩
      exact ⟨.ref D, rfl, q H3 D ds sm nD hD (by omega)⟩
end
end K31

namespace K31
open PySem PySem.Spec PyProof.Rows L2 Pg
theorem seqT_same {K : PySem.W.Frag} {H H' : Hp} {a : Addr} {xs : List V} (e : Same H H') (h : SqT K H a xs) : SqT K H' a xs := by
  rcases h with (h | ⟨o, h⟩) | h
  · exact .inl (.inl (e _ _ h))
  · exact .inl (.inr ⟨o, e _ _ h⟩)
  · exact .inr h
theorem yes {σ : L2.St} {H : Hp} {Q : Bool → Hp → Prop} (h : Q true H) : tYes σ H Q := h
theorem Drew.pre {b : Addr} {H H1 H2 : Hp} (s : Same H H1) (x : Drew b H1 H2) : Drew b H H2 := ⟨x.box, fun d e => x.dig d (e.same s), fun p o n e => x.keep p o n (s _ _ e)⟩
theorem at_in {xs : List V} {r : Int} (h0 : 0 ≤ r) (h1 : r < xs.length) : ∃ v, v ∈ xs ∧ atI xs r = some v := by
  obtain ⟨j, rfl⟩ := Int.eq_ofNat_of_zero_le h0
  have lt : j < xs.length := by omega
  exact ⟨xs[j], List.getElem_mem lt, atI_nat (List.getElem?_eq_getElem lt)⟩
/-- plain signs, without the percent sign -/
def plainB (c : Nat) : Bool := decide (32 ≤ c ∧ c ≤ 126 ∧ c ≠ 37)
/-- .. and without the double quote -/
def safeB (c : Nat) : Bool := plainB c && (decide (c ≠ 34))
def Plain (z : Str) : Prop := ∀ c ∈ z.cps.toList, plainB c = true
def Safe (z : Str) : Prop := ∀ c ∈ z.cps.toList, safeB c = true
theorem Safe.plain {z : Str} (h : Safe z) : Plain z := fun c hc => (Bool.and_eq_true_iff.mp (h c hc)).1
theorem app_codes (x y : Str) : (x ++ y).cps.toList = x.cps.toList ++ y.cps.toList := by
  show (x.cps ++ y.cps).toList = _
  rw [Array.toList_append]
theorem Safe.app {x y : Str} (a : Safe x) (b : Safe y) : Safe (x ++ y) := fun c hc => by
  rw [app_codes] at hc
  rcases List.mem_append.mp hc with h | h
  · exact a c h
  · exact b c h
theorem Plain.app {x y : Str} (a : Plain x) (b : Plain y) : Plain (x ++ y) := fun c hc => by
  rw [app_codes] at hc
  rcases List.mem_append.mp hc with h | h
  · exact a c h
  · exact b c h
theorem len_app (x y : Str) : (x ++ y).length = x.length + y.length := by
  show (x.cps ++ y.cps).size = _
  rw [Array.size_append]
  rfl
theorem len_codes (z : Str) : z.length = z.cps.toList.length := by simp [Str.length]
theorem safe_of {z : Str} (h : z.cps.toList.all safeB = true) : Safe z := fun c hc => List.all_eq_true.mp h c hc
/-- the first n signs -/
theorem cut_to (z : Str) (n : Nat) : (cutS z none (some (n : Int))).cps.toList = z.cps.toList.take n := by
  unfold cutS
  rw [HT.sIx_none, show HT.sIx z.length z.length (some (n : Int)) = min n z.length from HT.sIx_nat z.length z.length n]
  show List.take (min n z.length - 0) (List.drop 0 z.cps.toList) = _
  rw [List.drop_zero, Nat.sub_zero, len_codes, List.take_eq_take_iff]
  omega
theorem sizeLine_big {n : Nat} (h : n ≤ 1000000) : n ≤ sizeLine := Nat.le_trans h (by decide)
/-- data that repr shows -/
structure Shows (d : PyData) : Prop where
  ok : d.showable = true
  nd : d.hasDict = false
  dep : d.depth ≤ 40
  sz : d.shown.length ≤ sizeLine
def spAlike (K : PySem.W.Frag) : Sp := fun vs H Q _ => ∃ (x y : V) (d e : PyData), vs = [x, y] ∧ Dp K H x d ∧ Dp K H y e ∧ Shows d ∧ Shows e ∧ Q (.bl (decide (d.shown = e.shown))) H
theorem shows_int {i : Int} (h1 : -999999999999 ≤ i) (h2 : i ≤ 999999999999) : Shows (.int i) := by
  refine ⟨?_, rfl, by show 0 ≤ 40; decide, Nat.le_trans (PyData.shown_int_le2 h1 h2) (by decide)⟩
  show decide (i.natAbs.log2 < 1920) = true
  refine decide_eq_true ?_
  by_cases z : i.natAbs = 0
  · rw [z]
    decide
  · refine (Nat.log2_lt z).mpr (Nat.lt_of_lt_of_le (show i.natAbs < 2 ^ 40 by omega) (Nat.pow_le_pow_right (n := 2) (by decide) (by decide)))
theorem shows_int2 {i j : Int} (h1 : -999999999999 ≤ i) (h2 : i ≤ 999999999999) (h3 : -999999999999 ≤ j) (h4 : j ≤ 999999999999) : Shows (.tuple [.int i, .int j]) := by
  have a := (shows_int h1 h2).ok
  have b := (shows_int h3 h4).ok
  refine ⟨?_, rfl, by show 1 ≤ 40; decide, PyData.shown_fits_bulk (B := 13) (by decide) (by decide) ?_ (by show 0 + 1 + (0 + 1 + 0) ≤ 2 ^ 20; decide)⟩
  · simp only [PyData.showable, PyData.showableAll] at a b ⊢
    rw [a, b]
    rfl
  · simp only [PyData.leavesShort, PyData.leavesShortAll, PyData.shown_int_le2 h1 h2, PyData.shown_int_le2 h3 h4, decide_true, Bool.and_true]
section
variable {P : Program} {w : World} {K : PySem.W.Frag} {mg : Str → Option Value} {base : Heap} {f : Addr} {fd : FuncData}
theorem ok_law_alike (F : Fun K "_law_alike" "_law_alike" s_law_alike f fd) (z : Z mg) : FnG P w K mg base 1 f fd ["one", "two"] (spAlike K) := by
  refine FnG.mk' F sc_law_alike (fun vs H Q E h => ?_) (fun cdv A outer s H vs Q gd hr h => ?_)
  · obtain ⟨x, y, d, e, rfl, _⟩ := h
    rfl
  · obtain ⟨x, y, d, e, rfl, hd, he, gd1, gd2, q⟩ := h
    refine ⟨_, (pss_one (ps_ret (pe_cmpR op_eq (pe_callB (call_reprD gd hr.units) (by rfl) z.repr (by decide +kernel) (pa_cons (pv 0) pa_nil)) (pe_callB (call_reprD gd hr.units) (by rfl) z.repr (by decide +kernel) (pa_cons (pv 1) pa_nil)) (nomark _)))), ?_⟩
    refine ⟨x, rfl, x, d, rfl, hd, gd1.ok, gd1.nd, gd1.dep, gd1.sz, y, rfl, y, e, rfl, he, gd2.ok, gd2.nd, gd2.dep, gd2.sz, rfl, ?_⟩
    have eq : decide (V.str d.shown = V.str e.shown) = decide (d.shown = e.shown) := by
      by_cases h : d.shown = e.shown
      · rw [decide_eq_true h, h]
        exact decide_eq_true rfl
      · rw [decide_eq_false h]
        exact decide_eq_false fun e => h (V.str.inj e)
    show Q (.bl (decide (V.str d.shown = V.str e.shown))) H
    rw [eq]
    exact q
end
end K31

namespace K31
open PySem PySem.Spec PyProof.Rows L2 Pg LamX
/-! ### timers as a row: a key's texts and the time at which it is due, as they were set -/
abbrev Tmr := List Str × Int
def encT (ts : List Tmr) : List (List Key × V) := ts.map fun z => (z.1.map Sum.inr, V.int z.2)
def lookT (ts : List Tmr) (k : List Str) : Option Int := (ts.find? fun z => decide (z.1 = k)).map (·.2)
def dropT (ts : List Tmr) (k : List Str) : List Tmr := ts.filter fun z => decide (z.1 ≠ k)
def ordT (ts : List Tmr) : List Tmr := ts.mergeSort fun a b => decide (a.2 ≤ b.2)
def keyD (k : List Str) : PyData := .tuple (k.map PyData.str)
def tmrD (z : Tmr) : PyData := .tuple [.int z.2, keyD z.1]
def lamQ : Str := "Timers._in_order.<locals>.<lambda>"
theorem inrs_inj : ∀ {a b : List Str}, a.map (Sum.inr : Str → Key) = b.map Sum.inr → a = b
  | [], [], _ => rfl
  | [], _ :: _, h => by cases h
  | _ :: _, [], h => by cases h
  | x :: a, y :: b, h => by
    rw [List.map_cons, List.map_cons] at h
    obtain ⟨h1, h2⟩ := List.cons.inj h
    rw [Sum.inr.inj h1, inrs_inj h2]
theorem keys_kV (k : List Str) : (k.map (Sum.inr : Str → Key)).map kV = k.map V.str := by rw [List.map_map]; rfl
theorem valV_T (k : List Str) : ∀ ts : List Tmr, valV (encT ts) (k.map Sum.inr) = (lookT ts k).map V.int
  | [] => rfl
  | z :: r => by
    show valV ((z.1.map Sum.inr, V.int z.2) :: encT r) _ = _
    unfold lookT
    rw [List.find?_cons]
    by_cases e : z.1 = k
    · rw [valV_pos (by rw [e]), decide_eq_true e]; rfl
    · rw [valV_neg (fun h => e (inrs_inj h)), decide_eq_false e]
      exact valV_T k r
theorem dropK_T (k : List Str) : ∀ ts : List Tmr, dropK (encT ts) (k.map Sum.inr) = encT (dropT ts k)
  | [] => rfl
  | z :: r => by
    have ih := dropK_T k r
    unfold dropK encT dropT at *
    rw [List.map_cons, List.filter_cons, List.filter_cons]
    by_cases e : z.1 = k
    · rw [if_neg (by simp [e]), if_neg (by simp [e])]; exact ih
    · rw [if_pos (show decide (z.1.map (Sum.inr : Str → Key) ≠ k.map Sum.inr) = true from decide_eq_true fun h => e (inrs_inj h)), if_pos (show decide (z.1 ≠ k) = true from decide_eq_true e), List.map_cons, ih]
theorem look_drop (ts : List Tmr) (k : List Str) : lookT (dropT ts k) k = none := by
  unfold lookT dropT
  have : (ts.filter fun z => decide (z.1 ≠ k)).find? (fun z => decide (z.1 = k)) = none := by
    rw [List.find?_eq_none]
    intro z hz
    have := (List.mem_filter.mp hz).2
    simpa using this
  rw [this]; rfl
theorem put_T (ts : List Tmr) (k : List Str) (due : Int) : putK (encT (dropT ts k)) (k.map Sum.inr) (.int due) = encT (dropT ts k ++ [(k, due)]) := by
  rw [putK_new _ (by rw [valV_T, look_drop]; rfl)]
  unfold encT
  rw [List.map_append]
  rfl
theorem enc_len (ts : List Tmr) : (encT ts).length = ts.length := by unfold encT; rw [List.length_map]
theorem drop_len (ts : List Tmr) (k : List Str) : (dropT ts k).length ≤ ts.length := List.length_filter_le _ _
theorem drop_none {ts : List Tmr} {k : List Str} (h : lookT ts k = none) : dropT ts k = ts := by
  unfold dropT
  rw [List.filter_eq_self]
  intro z hz
  refine decide_eq_true fun e => ?_
  unfold lookT at h
  rw [Option.map_eq_none_iff, List.find?_eq_none] at h
  exact h z hz (decide_eq_true e)
/-- timers at p, their dict at d -/
def TmAt (K : PySem.W.Frag) (C : Addr) (H : Hp) (p d : Addr) (ts : List Tmr) : Prop := ∃ dx, H p = some (.ins C dx [(("_dues" : Str), .ref d)]) ∧ H d = some (.dT (encT ts))
/-- all but x is as it was -/
def ButT (x : Addr) (H H' : Hp) : Prop := ∀ q o, H q = some o → q ≠ x → H' q = some o
theorem TmAt.ne {K : PySem.W.Frag} {C : Addr} {H : Hp} {p d : Addr} {ts : List Tmr} (t : TmAt K C H p d ts) : p ≠ d := by
  obtain ⟨dx, h1, h2⟩ := t
  rintro rfl
  rw [h1] at h2; cases h2
theorem TmAt.ext {K : PySem.W.Frag} {C : Addr} {H H' : Hp} {p d : Addr} {ts : List Tmr} (t : TmAt K C H p d ts) (e : ExtN H H') : TmAt K C H' p d ts :=
  let ⟨dx, h1, h2⟩ := t
  ⟨dx, e _ _ h1 (fun ps z => by cases z), e _ _ h2 (fun ps z => by cases z)⟩
theorem TmAt.same {K : PySem.W.Frag} {C : Addr} {H H' : Hp} {p d : Addr} {ts : List Tmr} (t : TmAt K C H p d ts) (e : Same H H') : TmAt K C H' p d ts :=
  let ⟨dx, h1, h2⟩ := t
  ⟨dx, e _ _ h1, e _ _ h2⟩
theorem TmAt.put {K : PySem.W.Frag} {C : Addr} {H : Hp} {p d : Addr} {ts us : List Tmr} (t : TmAt K C H p d ts) : TmAt K C (upd H d (.dT (encT us))) p d us :=
  let ⟨dx, h1, h2⟩ := t
  ⟨dx, by rw [upd_ne (TmAt.ne (K := K) (C := C) ⟨dx, h1, h2⟩)]; exact h1, upd_same⟩
theorem ButT.upd {x : Addr} {H : Hp} {o : HO} : ButT x H (upd H x o) := fun q o h n => by rw [upd_ne n]; exact h
theorem ButT.trans {x : Addr} {H H1 H2 : Hp} (a : ButT x H H1) (b : ButT x H1 H2) : ButT x H H2 := fun q o h n => b q o (a q o h n) n
def spTInit (K : PySem.W.Frag) (C : Addr) : Sp := fun vs H Q _ => ∃ (p dx : Addr), vs = [.ref p] ∧ H p = some (.ins C dx []) ∧ ∀ (d : Addr) (H' : Hp), H d = none → TmAt K C H' p d [] → (∀ b o, H b = some o → b ≠ p → H' b = some o) → Q .non H'
def spTRemove (K : PySem.W.Frag) (C : Addr) : Sp := fun vs H Q _ => ∃ (p d b : Addr) (ts : List Tmr) (k : List Str), vs = [.ref p, .ref b] ∧ TmAt K C H p d ts ∧ H b = some (.tup (k.map V.str)) ∧
  ∀ H', TmAt K C H' p d (dropT ts k) → ButT d H H' → (∀ q, H q = none → H' q = none) → Q (.bl (lookT ts k).isSome) H'
def spTPut (K : PySem.W.Frag) (C : Addr) : Sp := fun vs H Q _ => ∃ (p d b : Addr) (ts : List Tmr) (k : List Str) (due : Int), vs = [.ref p, .ref b, .int due] ∧ TmAt K C H p d ts ∧ H b = some (.tup (k.map V.str)) ∧ ts.length < 1000 ∧
  ∀ H', TmAt K C H' p d (dropT ts k ++ [(k, due)]) → ButT d H H' → (∀ q, H q = none → H' q = none) → Q .non H'
def spTDue (K : PySem.W.Frag) (C : Addr) : Sp := fun vs H Q _ => ∃ (p d b : Addr) (ts : List Tmr) (k : List Str), vs = [.ref p, .ref b] ∧ TmAt K C H p d ts ∧ H b = some (.tup (k.map V.str)) ∧ Q (((lookT ts k).map V.int).getD .non) H
/-- the timer's own pair at a -/
def TmrAt (H : Hp) (a : Addr) (z : Tmr) : Prop := ∃ b, H a = some (.tup [.int z.2, .ref b]) ∧ H b = some (.tup (z.1.map V.str))
/-- a row of them at l -/
def RowO (H : Hp) (l : Addr) (zs : List Tmr) : Prop := ∃ ps : List Addr, H l = some (.lst (ps.map V.ref)) ∧ Paired (TmrAt H) ps zs
theorem pair_zip {α β : Type} {R : α → β → Prop} : ∀ {as : List α} {bs : List β}, Paired R as bs → ∀ z ∈ as.zip bs, R z.1 z.2
  | _, _, .nil, z, hz => by simp at hz
  | _, _, .cons h t, z, hz => by
    rw [List.zip_cons_cons] at hz
    rcases List.mem_cons.mp hz with rfl | hz
    · exact h
    · exact pair_zip t z hz
theorem pair_maps {α β : Type} {R : α → β → Prop} {zs : List (α × β)} (h : ∀ z ∈ zs, R z.1 z.2) : Paired R (zs.map (·.1)) (zs.map (·.2)) := by
  induction zs with
  | nil => exact .nil
  | cons z r ih => exact .cons (h z List.mem_cons_self) (ih fun y hy => h y (List.mem_cons_of_mem _ hy))
def spTOrd (K : PySem.W.Frag) (C TA : Addr) : Sp := fun vs H Q _ => ∃ (p d : Addr) (ts : List Tmr), vs = [.ref p] ∧ TmAt K C H p d ts ∧ ts.length ≤ 1000 ∧ TabS H TA lamQ ∧
  ∀ (H' : Hp) (l : Addr), ExtN H H' → TabS H' TA lamQ → RowO H' l (ordT ts) → Q (.ref l) H'
/-- keys that repr and == reach -/
def KeyOk (k : List Str) : Prop := k.length ≤ 4 ∧ ∀ x ∈ k, Codes x ∧ x.length ≤ 10
def TmrOk (z : Tmr) : Prop := KeyOk z.1 ∧ -999999999999 ≤ z.2 ∧ z.2 ≤ 999999999999
theorem key_pd {k : List Str} (h : KeyOk k) : Pd 1 44 (keyD k) := by
  have a : PdA 0 (4 * (10 + 1)) (k.map PyData.str) := PdA.all (fun d hd => by
    obtain ⟨x, hx, rfl⟩ := List.mem_map.mp hd
    exact Pd.str (h.2 x hx).1 (h.2 x hx).2) (by rw [List.length_map]; exact h.1)
  exact a.tup
theorem tmr_pd {z : Tmr} (h : TmrOk z) : Pd 2 46 (tmrD z) := ((PdA.cons ((Pd.int h.2.1 h.2.2).mono (Nat.zero_le 1) (Nat.le_refl _)) (PdA.cons (key_pd h.1) PdA.nil)).tup).mono (by decide) (by decide)
theorem strs_dp {K : PySem.W.Frag} {H : Hp} : ∀ k : List Str, DpAll K H (k.map V.str) (k.map PyData.str)
  | [] => .nil
  | x :: r => .cons (.str x) (strs_dp r)
theorem key_dp {K : PySem.W.Frag} {H : Hp} {b : Addr} {k : List Str} (h : H b = some (.tup (k.map V.str))) : Dp K H (.ref b) (keyD k) := .tup (.inl (.inl h)) (strs_dp k)
theorem tmr_dp {K : PySem.W.Frag} {H : Hp} {a : Addr} {z : Tmr} (h : TmrAt H a z) : Dp K H (.ref a) (tmrD z) :=
  let ⟨_, h1, h2⟩ := h
  .tup (.inl (.inl h1)) (.cons (.int _) (.cons (key_dp h2) .nil))
theorem tmrs_dp {K : PySem.W.Frag} {H : Hp} {ps : List Addr} {zs : List Tmr} (h : Paired (TmrAt H) ps zs) : DpAll K H (ps.map V.ref) (zs.map tmrD) := by
  induction h with
  | nil => exact .nil
  | cons h _ ih => exact .cons (tmr_dp h) ih
theorem keys_dp {K : PySem.W.Frag} {H : Hp} {bs : List Addr} {zs : List Tmr} (h : Paired (fun (b : Addr) (x : Tmr) => H b = some (.tup (x.1.map V.str))) bs zs) : DpAll K H (bs.map V.ref) (zs.map fun x => keyD x.1) := by
  induction h with
  | nil => exact .nil
  | cons h _ ih => exact .cons (key_dp h) ih
theorem ord_mem {ts : List Tmr} {z : Tmr} : z ∈ ordT ts ↔ z ∈ ts := (List.mergeSort_perm _ _).mem_iff
theorem ord_len (ts : List Tmr) : (ordT ts).length = ts.length := (List.mergeSort_perm _ _).length_eq
def firstD (ts : List Tmr) : PyData := ((ordT ts).head?.map tmrD).getD .none
def spTFirst (K : PySem.W.Frag) (C TA : Addr) : Sp := fun vs H Q _ => ∃ (p d : Addr) (ts : List Tmr), vs = [.ref p] ∧ TmAt K C H p d ts ∧ ts.length ≤ 1000 ∧ (∀ z ∈ ts, TmrOk z) ∧ TabS H TA lamQ ∧
  ∀ (H' : Hp) (v : V), ExtN H H' → TabS H' TA lamQ → Dp K H' v (firstD ts) → Q v H'
def spTKeys (K : PySem.W.Frag) (C TA : Addr) : Sp := fun vs H Q _ => ∃ (p d : Addr) (ts : List Tmr), vs = [.ref p] ∧ TmAt K C H p d ts ∧ ts.length ≤ 1000 ∧ TabS H TA lamQ ∧
  ∀ (H' : Hp) (l : Addr), ExtN H H' → TabS H' TA lamQ → LAt K H' l ((ordT ts).map fun z => keyD z.1) → Q (.ref l) H'
section
variable {P : Program} {w : World} {K : PySem.W.Frag} {mg : Str → Option Value} {base : Heap} {f CTimers cA TA : Addr} {fd : FuncData}
theorem ok_Timers_init (F : Fun K "__init__" "Timers.__init__" s_Timers_init f fd) (z : Z mg) (T : T_Timers K mg CTimers) : FnOk P w K mg base CX0 1 f fd ["self"] (spTInit K CTimers) := by
  refine F.ok sc_Timers_init (fun vs H Q E h => ?_) (fun cdv A outer s H vs Q E hr h => ?_)
  · obtain ⟨p, dx, rfl, _⟩ := h
    rfl
  · obtain ⟨p, dx, rfl, hp, q⟩ := h
    refine ⟨_, (pss_one (ps_fld (pv 0) pe_dnewT rfl)), ?_⟩
    intro d hd
    have npd : p ≠ d := ne_of_none hp hd
    refine ⟨_, rfl, p, CTimers, dx, [], rfl, (by rw [upd_ne npd]; exact hp), T.cl, T.n_dues, (by show 0 < 1000; decide), ?_⟩
    refine q d _ hd ⟨dx, upd_same, by rw [upd_ne npd.symm, upd_same]; rfl⟩ fun b o e hb => ?_
    rw [upd_ne hb, upd_ne (ne_of_none e hd)]
    exact e
theorem ok_Timers_remove (F : Fun K "remove" "Timers.remove" s_Timers_remove f fd) (z : Z mg) (T : T_Timers K mg CTimers) : FnOk P w K mg base CX0 1 f fd ["self", "key"] (spTRemove K CTimers) := by
  refine F.ok sc_Timers_remove (fun vs H Q E h => ?_) (fun cdv A outer s H vs Q E hr h => ?_)
  · obtain ⟨p, d, b, ts, k, rfl, _⟩ := h
    rfl
  · obtain ⟨p, d, b, ts, k, rfl, ⟨dx, h1, h2⟩, hb, q⟩ := h
    refine ⟨_, (pss_cons (ps_if (pt_cmp (pc_dnotin (hu_of hr) (pv 1) (pe_fld (pv 0) rfl)))
        (pss_one (ps_ret pe_bl))
        pss_nil)
      (pss_cons (ps_ddelT (hu_of hr) (pe_fld (pv 0) rfl) (pv 1))
      (pss_one (ps_ret pe_bl)))), ?_⟩
    have hb' : H b = some (.tup ((k.map (Sum.inr : Str → Key)).map kV)) := by rw [keys_kV]; exact hb
    refine ⟨_, rfl, _, rfl, p, CTimers, dx, _, _, rfl, h1, T.cl, T.n_dues, rfl, d, _, rfl, DGet.t h2 hb', ?_⟩
    rw [valV_T]
    cases e : lookT ts k with
    | none =>
      refine ⟨_, rfl, iteT ?_⟩
      have := q H (by rw [drop_none e]; exact ⟨dx, h1, h2⟩) (fun q o h _ => h) fun _ h => h
      rw [e] at this
      exact this
    | some v =>
      refine ⟨_, rfl, iteF ?_⟩
      refine ⟨_, rfl, p, CTimers, dx, _, _, rfl, h1, T.cl, T.n_dues, rfl, _, rfl, d, _, _, b, rfl, h2, rfl, hb', by rw [valV_T, e]; rfl, ?_⟩
      rw [dropK_T]
      have := q _ (TmAt.put ⟨dx, h1, h2⟩) ButT.upd fun a h => by rw [upd_ne (by rintro rfl; rw [h2] at h; cases h)]; exact h
      rw [e] at this
      exact this
theorem ok_Timers_put (F : Fun K "put" "Timers.put" s_Timers_put f fd) (z : Z mg) (T : T_Timers K mg CTimers) (cTimers_remove : CalM P w K mg base CTimers "remove" 1 ["self", "key"] (spTRemove K CTimers)) : FnOk P w K mg base CX0 2 f fd ["self", "key", "due"] (spTPut K CTimers) := by
  refine F.ok sc_Timers_put (fun vs H Q E h => ?_) (fun cdv A outer s H vs Q E hr h => ?_)
  · obtain ⟨p, d, b, ts, k, due, rfl, _⟩ := h
    rfl
  · obtain ⟨p, d, b, ts, k, due, rfl, t, hb, few, q⟩ := h
    refine ⟨_, (pss_cons (ps_expr (pe_calM cTimers_remove (hr.mono (by decide)) (pv 0) (pa_cons (pv 1) pa_nil)))
      (pss_one (ps_dput (hu_of hr) (pe_fld (pv 0) rfl) (pv 1) (pv 2) rfl))), ?_⟩
    obtain ⟨dx, h1, h2⟩ := t
    refine ⟨_, rfl, p, dx, _, rfl, h1, rfl, _, rfl, p, d, b, ts, k, rfl, ⟨dx, h1, h2⟩, hb, fun H1 t1 b1 n1 => ?_⟩
    obtain ⟨dx1, g1, g2⟩ := t1
    have hb1 : H1 b = some (.tup ((k.map (Sum.inr : Str → Key)).map kV)) := by rw [keys_kV]; exact b1 _ _ hb (by rintro rfl; rw [h2] at hb; cases hb)
    have fw := drop_len ts k
    refine ⟨_, rfl, _, rfl, p, CTimers, dx1, _, _, rfl, g1, T.cl, T.n_dues, rfl, _, rfl, d, _, rfl, DPut.t g2 hb1 (by rw [enc_len]; exact small1000 (by omega)), ?_⟩
    rw [put_T]
    exact q _ (TmAt.put ⟨dx1, g1, g2⟩) (b1.trans ButT.upd) fun a h => by
      have := n1 a h
      rw [upd_ne (by rintro rfl; rw [g2] at this; cases this)]; exact this
theorem ok_Timers_due (F : Fun K "due" "Timers.due" s_Timers_due f fd) (z : Z mg) (T : T_Timers K mg CTimers) : FnOk P w K mg base CX0 1 f fd ["self", "key"] (spTDue K CTimers) := by
  refine F.ok sc_Timers_due (fun vs H Q E h => ?_) (fun cdv A outer s H vs Q E hr h => ?_)
  · obtain ⟨p, d, b, ts, k, rfl, _⟩ := h
    rfl
  · obtain ⟨p, d, b, ts, k, rfl, ⟨dx, h1, h2⟩, hb, q⟩ := h
    refine ⟨_, (pss_one (ps_ret (pe_dget1 (hu_of hr) (pe_fld (pv 0) rfl) (pv 1) ⟨by rfl, by rfl, by rfl, by rfl⟩))), ?_⟩
    have hb' : H b = some (.tup ((k.map (Sum.inr : Str → Key)).map kV)) := by rw [keys_kV]; exact hb
    refine ⟨_, rfl, p, CTimers, dx, _, _, rfl, h1, T.cl, T.n_dues, rfl, d, rfl, .inr ⟨_, .inl h2⟩, _, rfl, _, DGet.t h2 hb', ?_⟩
    rw [valV_T]
    exact q
theorem ok_Timers_in_order (F : FunC K "_in_order" "Timers._in_order" s_Timers_in_order f fd cA) (z : Z mg) (TB : TabB base mg cA TA) (T : T_Timers K mg CTimers) : FnOk P w K mg base CX0 2 f fd ["self"] (spTOrd K CTimers TA) := by
  refine F.ok sc_Timers_in_order (fun vs H Q E h => ?_) (fun A outer s H vs Q E hr h => ?_)
  · obtain ⟨p, d, ts, rfl, _⟩ := h
    rfl
  · obtain ⟨p, d, ts, rfl, t, few, tab, q⟩ := h
    refine ⟨_, (pss_cons (ps_lock (ps_setLc (i := 1) (own := [("key", 2), ("due", 3)]) (g := (gTup K 2 (gCons (gName 2) (gCons (gName 3) gNil)))) (tt := tYes) rfl sc_Timers_in_order.nd rfl rfl (sw_true rfl rfl rfl (by decide +kernel)) (pi_itemsT (pe_fld (pv 0) rfl)) (blkOk_by (own := [("key", 2), ("due", 3)]) (N := ["self", "timers", "key", "due"]) (sc := defScope s_Timers_in_order) (by decide +kernel)) (fun _ _ _ _ _ => (pg_tupK (K := K) rfl rfl (pgs_cons (pg_name (i := 2) sc_Timers_in_order.nd rfl (Or.inl rfl)) (pgs_cons (pg_name (i := 3) sc_Timers_in_order.nd rfl (Or.inl rfl)) pgs_nil)))) (fun _ _ _ _ _ => pts_nil) (fun _ _ _ _ _ => (pe_tup (pa_cons (pv 3) (pa_cons (pv 2) pa_nil))))))
      (pss_one (ps_ret (pe_sortedKey (k := 0) (by rfl) z.sorted (pv 1) TB rfl (hr.mono (by decide)) rfl ⟨rfl, rfl, rfl, rfl, by decide, by decide⟩ (by decide) (fun _ _ _ _ _ => rfl) rfl)))), ?_⟩
    obtain ⟨dx, h1, h2⟩ := t
    have npd : p ≠ d := TmAt.ne (K := K) (C := CTimers) ⟨dx, h1, h2⟩
    refine ⟨d, _, h2, trivial, fun od => ?_⟩
    refine ⟨_, rfl, p, CTimers, dx, _, _, rfl, by rw [upd_ne npd]; exact h1, T.cl, T.n_dues, rfl, d, od, encT ts, rfl, upd_same, fun D nD => ?_⟩
    have dD : d ≠ D := ne_of_none upd_same nD
    have nD0 : H D = none := by rw [upd_ne dD.symm] at nD; exact nD
    refine lc_itemsT (d := d) (o := od) (kvs := encT ts) (fun i H' => Same (upd H d (.frz od (.dT (encT ts)))) H' ∧ ∃ ps : List Addr, H' D = some (.lst (ps.map V.ref)) ∧ Paired (TmrAt H') ps (ts.take i))
      ⟨same_new nD, [], upd_same, .nil⟩ (fun i H' _ ⟨s1, _⟩ => s1 _ _ upd_same) ?_ ?_
    · rintro i k v T0 b H' hkv ⟨s1, ps, hD, pr⟩ hb nT
      obtain ⟨x, hx, rfl, rfl⟩ : ∃ x : Tmr, ts[i]? = some x ∧ k = x.1.map Sum.inr ∧ v = .int x.2 := by
        unfold encT at hkv
        rw [List.getElem?_map] at hkv
        cases e : ts[i]? with
        | none => rw [e] at hkv; cases hkv
        | some x =>
          rw [e] at hkv
          obtain ⟨e1, e2⟩ := Prod.mk.inj (Option.some.inj hkv)
          exact ⟨x, rfl, e1.symm, e2.symm⟩
      rw [keys_kV] at hb
      have sT := same_new (o := .tup [V.ref b, .int x.2]) nT
      have il : i < ts.length := (List.getElem?_eq_some_iff.mp hx).1
      have tk : ts.take (i + 1) = ts.take i ++ [x] := by rw [List.take_add_one, hx]; rfl
      refine ⟨T0, _, rfl, .inl (.inl upd_same), rfl, _, _, rfl, _, _, rfl, rfl, rfl, ?_⟩
      refine yes (iteT ?_)
      refine ⟨_, rfl, _, rfl, by show 2 ≤ sizeLine; decide, fun a na => ?_⟩
      have s2 := sT.trans (same_new (o := .tup [.int x.2, V.ref b]) na)
      have hD2 := s2 _ _ hD
      have hlen := Paired.length pr
      rw [List.length_take] at hlen
      have off : ∀ {q : Addr} {o : HO}, H' q = some o → q ≠ D → upd (upd (upd H' T0 (.tup [V.ref b, .int x.2])) a (.tup [.int x.2, V.ref b])) D (.lst (ps.map V.ref ++ [.ref a])) q = some o := fun {q o} h n => by rw [upd_ne n]; exact s2 _ _ h
      have aD : a ≠ D := (ne_of_none (sT _ _ hD) na).symm
      have bD : b ≠ D := by rintro rfl; rw [hD] at hb; cases hb
      refine ⟨_, hD2, by rw [List.length_map]; exact small5 (by omega), fun q o e => off (s1 _ _ e) (ne_of_none e nD), ps ++ [a], by rw [upd_same, List.map_append]; rfl, ?_⟩
      rw [tk]
      refine Paired.snoc (Paired.mapP pr fun c y ⟨b', g1, g2⟩ => ⟨b', off g1 (by rintro rfl; rw [hD] at g1; cases g1), off g2 (by rintro rfl; rw [hD] at g2; cases g2)⟩) ⟨b, ?_, off hb bD⟩
      rw [upd_ne aD, upd_same]
    · rintro H1 ⟨s1, ps, hD, pr⟩
      rw [enc_len, List.take_length] at pr
      have off : ∀ {q : Addr} {o : HO}, H1 q = some o → q ≠ d → upd H1 d (.dT (encT ts)) q = some o := fun {q o} h n => by rw [upd_ne n]; exact h
      have hd1 := s1 _ _ upd_same
      refine ⟨hd1, ?_⟩
      have sm : Same H (upd H1 d (.dT (encT ts))) := fun q o e => by
        by_cases hq : q = d
        · rw [hq, upd_same]; rw [hq, h2] at e; exact e
        · rw [upd_ne hq]; exact s1 _ _ (by rw [upd_ne hq]; exact e)
      have tmo : ∀ {c : Addr} {y : Tmr}, TmrAt H1 c y → TmrAt (upd H1 d (.dT (encT ts))) c y := fun {c y} ⟨b', g1, g2⟩ => ⟨b', off g1 (by rintro rfl; rw [hd1] at g1; cases g1), off g2 (by rintro rfl; rw [hd1] at g2; cases g2)⟩
      have pr2 := Paired.mapP pr fun c y h => tmo h
      have hD2 := off hD (by rintro rfl; rw [hd1] at hD; cases hD)
      generalize upd H1 d (.dT (encT ts)) = H2 at *
      refine ⟨_, rfl, D, (ps.zip ts).map fun z => (z.1, z.2.2), rfl, .inl (.inl ?_), fun z hz => ?_, tab.ext sm, fun H3 l e3 tab3 fr hl => ?_⟩
      · rw [hD2, List.map_map]
        congr 2
        rw [show ((fun z : Addr × Int => V.ref z.1) ∘ fun z : Addr × Tmr => (z.1, z.2.2)) = (V.ref ∘ Prod.fst) from rfl, ← List.map_map, List.map_fst_zip (Nat.le_of_eq (Paired.length pr2))]
      · obtain ⟨y, hy, rfl⟩ := List.mem_map.mp hz
        obtain ⟨b', g1, g2⟩ := pair_zip pr2 y hy
        exact ⟨_, .inl (.inl g1)⟩
      · refine q H3 l ((ExtN.of sm).trans e3) tab3 ?_
        have keepT : ∀ {c : Addr} {y : Tmr}, TmrAt H2 c y → TmrAt H3 c y := fun {c y} ⟨b', g1, g2⟩ => ⟨b', e3 _ _ g1 (fun ps z => by cases z), e3 _ _ g2 (fun ps z => by cases z)⟩
        have srt := List.map_mergeSort (r := fun a b : Addr × Tmr => decide (a.2.2 ≤ b.2.2)) (s := fun a b : Addr × Int => decide (a.2 ≤ b.2)) (f := fun z : Addr × Tmr => (z.1, z.2.2)) (l := ps.zip ts) (fun _ _ _ _ => rfl)
        have srt2 := List.map_mergeSort (r := fun a b : Addr × Tmr => decide (a.2.2 ≤ b.2.2)) (s := fun a b : Tmr => decide (a.2 ≤ b.2)) (f := fun z : Addr × Tmr => z.2) (l := ps.zip ts) (fun _ _ _ _ => rfl)
        rw [List.map_snd_zip (Nat.le_of_eq (Paired.length pr2).symm)] at srt2
        rw [← srt, List.map_map] at hl
        refine ⟨((ps.zip ts).mergeSort fun a b => decide (a.2.2 ≤ b.2.2)).map (·.1), by rw [hl, List.map_map]; rfl, ?_⟩
        unfold ordT
        rw [← srt2]
        exact pair_maps fun y hy => keepT (pair_zip pr2 y ((List.mergeSort_perm _ _).mem_iff.mp hy))
theorem ok_Timers_first (F : Fun K "first" "Timers.first" s_Timers_first f fd) (z : Z mg) (T : T_Timers K mg CTimers) (cTimers_in_order : CalM P w K mg base CTimers "_in_order" 2 ["self"] (spTOrd K CTimers TA)) : FnOk P w K mg base CX0 3 f fd ["self"] (spTFirst K CTimers TA) := by
  refine F.ok sc_Timers_first (fun vs H Q E h => ?_) (fun cdv A outer s H vs Q E hr h => ?_)
  · obtain ⟨p, d, ts, rfl, _⟩ := h
    rfl
  · obtain ⟨p, d, ts, rfl, ⟨dx, h1, h2⟩, few, fine, tab, q⟩ := h
    refine ⟨_, (pss_cons (ps_set (i := 1) sc_Timers_first.nd rfl (Or.inl rfl) (pe_calM0 cTimers_in_order (hr.mono (by decide)) (pv 0)))
      (pss_cons (ps_if (pt_cmpR (op_eqD hr.units) (pv 1) (pe_lst pa_nil) (nomark _))
        (pss_one (ps_ret pe_non))
        pss_nil)
      (pss_one (ps_ret (pe_ix ix_list (pv 1) pe_int (fun _ _ => rfl)))))), ?_⟩
    refine ⟨_, rfl, p, dx, _, rfl, h1, rfl, p, d, ts, rfl, ⟨dx, h1, h2⟩, few, tab, fun H1 l e1 tab1 ⟨ps, hl, pr⟩ => ?_⟩
    have pd : PdA 2 (1000 * (46 + 1)) ((ordT ts).map tmrD) := PdA.all (fun dd hd => by
      obtain ⟨x, hx, rfl⟩ := List.mem_map.mp hd
      exact tmr_pd (fine x (ord_mem.mp hx))) (by rw [List.length_map, ord_len]; exact few)
    refine ⟨_, rfl, Nat.zero_le _, fun m nm => ?_⟩
    have s2 := same_new (o := .lst []) nm
    have dl : Dp K (upd H1 m (.lst [])) (.ref l) (.list ((ordT ts).map tmrD)) := .lst (.inl (.inl (s2 _ _ hl))) (pd.keep (Same.keepT s2) (tmrs_dp pr))
    refine ⟨_, _, dl, .lst (.inl (.inl upd_same)) .nil, (pd.sz.lst).shaped (by decide), by decide +kernel, _, rfl, ?_⟩
    have ext2 : ExtN H (upd H1 m (.lst [])) := e1.trans (ExtN.of s2)
    have fn : ∀ x ∈ ordT ts, TmrOk x := fun x hx => fine x (ord_mem.mp hx)
    unfold firstD at q
    generalize ordT ts = zs at *
    cases pr with
    | nil => exact ite2 (fun _ => q _ .non ext2 (tab1.ext s2) .non) fun e => absurd (by decide +kernel) e
    | @cons a x ps r ht pr =>
      refine ite2 (fun e => absurd e (by show ¬ PyData.eqv (.list (tmrD x :: r.map tmrD)) (.list []) = true; unfold PyData.eqv; simp [PyData.eqvAll])) fun _ => ?_
      refine ⟨_, rfl, l, _, _, .ref a, rfl, rfl, .inl (.inl (s2 _ _ hl)), atI_nat (j := 0) rfl, ?_⟩
      exact q _ _ ext2 (tab1.ext s2) ((tmr_pd (fn x List.mem_cons_self)).keep (Same.keepT s2) (tmr_dp ht))
theorem ok_Timers_keys (F : Fun K "keys" "Timers.keys" s_Timers_keys f fd) (z : Z mg) (T : T_Timers K mg CTimers) (cTimers_in_order : CalM P w K mg base CTimers "_in_order" 2 ["self"] (spTOrd K CTimers TA)) : FnOk P w K mg base CX0 3 f fd ["self"] (spTKeys K CTimers TA) := by
  refine F.ok sc_Timers_keys (fun vs H Q E h => ?_) (fun cdv A outer s H vs Q E hr h => ?_)
  · obtain ⟨p, d, ts, rfl, _⟩ := h
    rfl
  · obtain ⟨p, d, ts, rfl, ⟨dx, h1, h2⟩, few, tab, q⟩ := h
    refine ⟨_, (pss_one (ps_ret (pe_lc (own := [("_", 1), ("key", 2)]) (g := (gTup K 2 (gCons (gName 1) (gCons (gName 2) gNil)))) (tt := tYes) rfl sc_Timers_keys.nd (pi_list (pe_calM0 cTimers_in_order (hr.mono (by decide)) (pv 0))) (blkOk_by (own := [("_", 1), ("key", 2)]) (N := ["self", "_", "key"]) (sc := defScope s_Timers_keys) (by decide +kernel)) (fun _ _ _ _ _ => (pg_tupK (K := K) rfl rfl (pgs_cons (pg_name (i := 1) sc_Timers_keys.nd rfl (Or.inl rfl)) (pgs_cons (pg_name (i := 2) sc_Timers_keys.nd rfl (Or.inl rfl)) pgs_nil)))) (fun _ _ _ _ _ => pts_nil) (fun _ _ _ _ _ => (pv 2))))), ?_⟩
    refine ⟨_, rfl, p, dx, _, rfl, h1, rfl, p, d, ts, rfl, ⟨dx, h1, h2⟩, few, tab, fun H1 l e1 tab1 ⟨ps, hl, pr⟩ => ?_⟩
    refine ⟨l, rfl, ⟨_, .inl (.inl hl)⟩, fun D nD => ?_⟩
    have few2 := ord_len ts
    have hlen := Paired.length pr
    have kD : ∀ {o : HO} {H' : Hp}, Same H1 H' → Same H1 (upd H' D o) := fun s1 q o e => by rw [upd_ne (ne_of_none e nD)]; exact s1 _ _ e
    refine lc_list (K := K) (a := l) (xs := ps.map V.ref) (fun i H' => Same H1 H' ∧ ∃ bs : List Addr, H' D = some (.lst (bs.map V.ref)) ∧ Paired (fun (b : Addr) (x : Tmr) => H' b = some (.tup (x.1.map V.str))) bs ((ordT ts).take i))
      ⟨same_new nD, [], upd_same, .nil⟩ (fun i H' _ ⟨s2, _⟩ => .inl (.inl (s2 _ _ hl))) ?_ ?_
    · rintro i y H' hy ⟨s2, bs, hD, pb⟩
      rw [List.getElem?_map] at hy
      obtain ⟨a, ha, rfl⟩ : ∃ a, ps[i]? = some a ∧ V.ref a = y := by
        cases e : ps[i]? with
        | none => rw [e] at hy; cases hy
        | some a => rw [e] at hy; exact ⟨a, rfl, Option.some.inj hy⟩
      obtain ⟨x, hx, b, g1, g2⟩ := paired_get pr ha
      have tk : (ordT ts).take (i + 1) = (ordT ts).take i ++ [x] := by rw [List.take_add_one, hx]; rfl
      have il : i < (ordT ts).length := (List.getElem?_eq_some_iff.mp hx).1
      have lb := Paired.length pb
      rw [List.length_take] at lb
      refine ⟨a, _, rfl, .inl (.inl (s2 _ _ g1)), rfl, _, _, rfl, _, _, rfl, rfl, rfl, ?_⟩
      refine yes (iteT ?_)
      have off : ∀ {q : Addr} {o : HO}, H' q = some o → q ≠ D → upd H' D (.lst (bs.map V.ref ++ [.ref b])) q = some o := fun {q o} h n => by rw [upd_ne n]; exact h
      refine ⟨_, rfl, _, hD, by rw [List.length_map]; exact small5 (by omega), kD s2, bs ++ [b], by rw [upd_same, List.map_append]; rfl, ?_⟩
      rw [tk]
      exact Paired.snoc (Paired.mapP pb fun c y h => off h (by rintro rfl; rw [hD] at h; cases h)) (off (s2 _ _ g2) (ne_of_none g2 nD))
    · rintro H2 ⟨s2, bs, hD, pb⟩
      rw [List.length_map, hlen, List.take_length] at pb
      refine q H2 D (e1.trans (ExtN.of s2)) (tab1.ext s2) ⟨_, hD, keys_dp pb⟩
end
end K31

namespace K31
open PySem PySem.Spec PyProof.Rows L2 Pg LamX
/-! ### by the times, and for the same time as they stand -/
theorem le_tot : PySem.W.TotalLe (fun a b : Tmr => decide (a.2 ≤ b.2)) :=
  ⟨fun a b c h1 h2 => decide_eq_true (Int.le_trans (of_decide_eq_true h1) (of_decide_eq_true h2)), fun a b => by
    rcases Int.le_total a.2 b.2 with h | h
    · exact .inl (decide_eq_true h)
    · exact .inr (decide_eq_true h)⟩
theorem ord_same (ts : List Tmr) (d : Int) : (ordT ts).filter (fun z => decide (z.2 = d)) = ts.filter fun z => decide (z.2 = d) := by
  have h := PySem.W.sort_stable le_tot ts (([] : List Str), d)
  have e : (PySem.W.sameRank (fun a b : Tmr => decide (a.2 ≤ b.2)) (([] : List Str), d)) = fun z => decide (z.2 = d) := by
    funext z
    show (decide (d ≤ z.2) && decide (z.2 ≤ d)) = decide (z.2 = d)
    by_cases h : z.2 = d
    · rw [decide_eq_true h, h]; simp
    · rw [decide_eq_false h]
      rcases Int.lt_or_gt_of_ne h with h | h
      · rw [decide_eq_false (p := d ≤ z.2) (by omega), Bool.false_and]
      · rw [decide_eq_false (p := z.2 ≤ d) (by omega), Bool.and_false]
  rw [e] at h
  exact h
theorem ord_sorted (ts : List Tmr) : (ordT ts).Pairwise fun a b => a.2 ≤ b.2 := (PySem.W.sort_pairwise le_tot ts).imp fun h => of_decide_eq_true h
/-- of a row that rises: what passes p ahead of what passes q -/
theorem filt_two {l : List Tmr} (s : l.Pairwise fun a b => a.2 ≤ b.2) (P : List Int) (d : Int) (h : ∀ x ∈ P, x < d) : l.filter (fun z => decide (z.2 ∈ P ++ [d])) = l.filter (fun z => decide (z.2 ∈ P)) ++ l.filter fun z => decide (z.2 = d) := by
  induction l with
  | nil => rfl
  | cons z r ih =>
    obtain ⟨h1, h2⟩ := List.pairwise_cons.mp s
    rw [List.filter_cons, List.filter_cons, List.filter_cons, ih h2]
    by_cases e : z.2 ∈ P
    · have nd : ¬ z.2 = d := fun q => by have := h _ e; omega
      rw [if_pos (decide_eq_true (List.mem_append_left _ e)), if_pos (decide_eq_true e), if_neg (by simpa using nd)]
      rfl
    · by_cases q : z.2 = d
      · have emp : r.filter (fun z => decide (z.2 ∈ P)) = [] := by
          rw [List.filter_eq_nil_iff]
          intro y hy m
          have := h1 y hy
          have := h _ (of_decide_eq_true m)
          omega
        rw [if_pos (decide_eq_true (List.mem_append_right _ (by rw [q]; exact List.mem_singleton.mpr rfl))), if_neg (by simpa using e), if_pos (decide_eq_true q), emp]
        rfl
      · rw [if_neg (by simp [e, q]), if_neg (by simpa using e), if_neg (by simpa using q)]
/-- what is found behind a time more -/
def moreT (fs ts : List Tmr) (d : Int) : List Tmr := fs ++ ts.filter fun z => decide (z.2 = d) && decide (z.1 ∉ fs.map (·.1))
theorem key_one {ts : List Tmr} (nd : (ts.map (·.1)).Nodup) : ∀ {x y : Tmr}, x ∈ ts → y ∈ ts → x.1 = y.1 → x = y := by
  induction ts with
  | nil => intro x y hx; cases hx
  | cons z r ih =>
    intro x y hx hy e
    obtain ⟨n1, n2⟩ := List.nodup_cons.mp nd
    rcases List.mem_cons.mp hx with e1 | h1
    · rcases List.mem_cons.mp hy with e2 | h2
      · rw [e1, e2]
      · rw [e1] at e
        exact absurd (show z.1 ∈ r.map (·.1) from List.mem_map.mpr ⟨y, h2, e.symm⟩) n1
    · rcases List.mem_cons.mp hy with e2 | h2
      · rw [e2] at e
        exact absurd (show z.1 ∈ r.map (·.1) from List.mem_map.mpr ⟨x, h1, e⟩) n1
      · exact ih n2 h1 h2 e
theorem more_next {ts : List Tmr} (nd : (ts.map (·.1)).Nodup) {P : List Int} {d : Int} (h : ∀ x ∈ P, x ≤ d) :
    moreT ((ordT ts).filter fun z => decide (z.2 ∈ P)) ts d = (ordT ts).filter fun z => decide (z.2 ∈ P ++ [d]) := by
  unfold moreT
  by_cases e : d ∈ P
  · have emp : (ts.filter fun z => decide (z.2 = d) && decide (z.1 ∉ ((ordT ts).filter fun z => decide (z.2 ∈ P)).map (·.1))) = [] := by
      rw [List.filter_eq_nil_iff]
      intro z hz m
      obtain ⟨m1, m2⟩ := Bool.and_eq_true_iff.mp m
      exact of_decide_eq_true m2 (List.mem_map.mpr ⟨z, List.mem_filter.mpr ⟨ord_mem.mpr hz, decide_eq_true (by rw [of_decide_eq_true m1]; exact e)⟩, rfl⟩)
    rw [emp, List.append_nil]
    refine List.filter_congr fun z _ => ?_
    rw [decide_eq_decide, List.mem_append, List.mem_singleton]
    exact ⟨.inl, fun q => q.elim id fun q => by rw [q]; exact e⟩
  · have lt : ∀ x ∈ P, x < d := fun x hx => by
      rcases Int.lt_or_eq_of_le (h x hx) with q | q
      · exact q
      · rw [q] at hx; exact absurd hx e
    rw [filt_two (ord_sorted ts) P d lt, ord_same]
    congr 1
    refine List.filter_congr fun z hz => ?_
    by_cases q : z.2 = d
    · rw [decide_eq_true q, Bool.true_and]
      refine decide_eq_true fun m => ?_
      obtain ⟨y, hy, ey⟩ := List.mem_map.mp m
      obtain ⟨y1, y2⟩ := List.mem_filter.mp hy
      rw [key_one nd (ord_mem.mp y1) hz ey] at y2
      have := of_decide_eq_true y2
      rw [q] at this
      exact e this
    · rw [decide_eq_false q, Bool.false_and]
theorem ord_all {ts : List Tmr} {ds : List Int} (h : ds.Perm (ts.map (·.2))) : ((ordT ts).filter fun z => decide (z.2 ∈ ds)) = ordT ts := by
  rw [List.filter_eq_self]
  intro z hz
  exact decide_eq_true (h.mem_iff.mpr (List.mem_map.mpr ⟨z, ord_mem.mp hz, rfl⟩))
theorem keyD_inj {a b : List Str} (h : keyD a = keyD b) : a = b := by
  unfold keyD at h
  have h1 := PyData.tuple.inj h
  clear h
  induction a generalizing b with
  | nil =>
    cases b with
    | nil => rfl
    | cons y b => cases h1
  | cons x a ih =>
    cases b with
    | nil => cases h1
    | cons y b =>
      obtain ⟨e1, e2⟩ := List.cons.inj h1
      rw [PyData.str.inj e1, ih e2]
theorem any_key {fs : List Tmr} {k : List Str} (hk : KeyOk k) (h : ∀ z ∈ fs, KeyOk z.1) : ((fs.map fun z => keyD z.1).any fun z => PyData.eqv z (keyD k)) = decide (k ∈ fs.map (·.1)) := by
  rw [Bool.eq_iff_iff, List.any_eq_true, decide_eq_true_eq]
  constructor
  · rintro ⟨x, hx, e⟩
    obtain ⟨z, hz, rfl⟩ := List.mem_map.mp hx
    have := ((key_pd (h z hz)).eqv (key_pd hk)).mp e
    exact List.mem_map.mpr ⟨z, hz, keyD_inj this⟩
  · intro m
    obtain ⟨z, hz, rfl⟩ := List.mem_map.mp m
    exact ⟨_, List.mem_map.mpr ⟨z, hz, rfl⟩, ((key_pd (h z hz)).eqv (key_pd hk)).mpr rfl⟩
/-- what holds of the timers that a law puts -/
structure TsOk (ts : List Tmr) (j : Nat) : Prop where
  few : ts.length ≤ j
  nd : (ts.map (·.1)).Nodup
  ok : ∀ z ∈ ts, TmrOk z
theorem TsOk.nil : TsOk [] 0 := ⟨Nat.le_refl _, List.nodup_nil, fun z h => (by cases h)⟩
theorem TsOk.drop {ts : List Tmr} {j : Nat} (t : TsOk ts j) (k : List Str) : TsOk (dropT ts k) j :=
  ⟨Nat.le_trans (drop_len ts k) t.few, (List.Sublist.map _ List.filter_sublist).nodup t.nd, fun z h => t.ok z (List.mem_filter.mp h).1⟩
theorem TsOk.mono {ts : List Tmr} {j i : Nat} (t : TsOk ts j) (h : j ≤ i) : TsOk ts i := ⟨Nat.le_trans t.few h, t.nd, t.ok⟩
theorem TsOk.put {ts : List Tmr} {j : Nat} (t : TsOk ts j) {k : List Str} {due : Int} (h : TmrOk (k, due)) : TsOk (dropT ts k ++ [(k, due)]) (j + 1) := by
  have d := t.drop k
  refine ⟨?_, ?_, fun z hz => ?_⟩
  · rw [List.length_append]
    have := d.few
    show _ + 1 ≤ _
    omega
  · rw [List.map_append, List.nodup_append]
    refine ⟨d.nd, by simp, fun a ha b hb => ?_⟩
    rw [List.map_singleton, List.mem_singleton] at hb
    obtain ⟨z, hz, rfl⟩ := List.mem_map.mp ha
    rw [hb]
    exact of_decide_eq_true (List.mem_filter.mp hz).2
  · rcases List.mem_append.mp hz with h1 | h1
    · exact d.ok z h1
    · rw [List.mem_singleton.mp h1]; exact h
/-- keys at l -/
def KeysAt (H : Hp) (l : Addr) (fs : List Tmr) : Prop := ∃ bs : List Addr, H l = some (.lst (bs.map V.ref)) ∧ Paired (fun (b : Addr) (x : Tmr) => H b = some (.tup (x.1.map V.str))) bs fs
theorem RowO.same {H H' : Hp} {l : Addr} {ts : List Tmr} (r : RowO H l ts) (s : Same H H') : RowO H' l ts :=
  let ⟨ps, h, pr⟩ := r
  ⟨ps, s _ _ h, Paired.mapP pr fun _ _ ⟨b, g1, g2⟩ => ⟨b, s _ _ g1, s _ _ g2⟩⟩
def spRowsO (K : PySem.W.Frag) : Sp := fun vs H Q _ => ∃ (l : Addr) (ts : List Tmr), vs = [.ref l] ∧ RowO H l ts ∧ TsOk ts 50 ∧ ∀ (H' : Hp) (r : Addr), Same H H' → KeysAt H' r (ordT ts) → Q (.ref r) H'
section
variable {P : Program} {w : World} {K : PySem.W.Frag} {mg : Str → Option Value} {base : Heap} {f CTimers cA TA : Addr} {fd : FuncData}
theorem ok_law_rows_in_order (F : Fun K "_law_rows_in_order" "_law_rows_in_order" s_law_rows_in_order f fd) (z : Z mg) : FnOk P w K mg base CX0 1 f fd ["rows"] (spRowsO K) := by
  refine F.ok sc_law_rows_in_order (fun vs H Q E h => ?_) (fun cdv A outer s H vs Q E hr h => ?_)
  · obtain ⟨l, ts, rfl, _⟩ := h
    rfl
  · obtain ⟨l, ts, rfl, ⟨ps, hl, pr⟩, ok, q⟩ := h
    refine ⟨_, (pss_cons (ps_set (i := 1) sc_law_rows_in_order.nd rfl (Or.inl rfl) (pe_lst pa_nil))
      (pss_cons (ps_for PassesOwn.never rfl (pi_list (pe_callB cr_sorted (by rfl) z.sorted (by decide +kernel) (pa_cons (pe_lc (own := [("row", 3)]) (g := (gName 3)) (tt := tYes) rfl sc_law_rows_in_order.nd (pi_list (pv 0)) (blkOk_by (own := [("row", 3)]) (N := ["rows", "found", "due", "row"]) (sc := defScope s_law_rows_in_order) (by decide +kernel)) (fun _ _ _ _ _ => pg_name (i := 3) sc_law_rows_in_order.nd rfl (Or.inl rfl)) (fun _ _ _ _ _ => pts_nil) (fun _ _ _ _ _ => (pe_ix (ix_tupK (K := K) rfl) (pv 3) pe_int (fun _ _ => rfl)))) pa_nil))) (pg_name (i := 2) sc_law_rows_in_order.nd rfl (Or.inl rfl))
        (pss_one (ps_for PassesOwn.never rfl (pi_list (pv 0)) (pg_name (i := 3) sc_law_rows_in_order.nd rfl (Or.inl rfl))
          (pss_one (ps_if (PW.pt (pw_and (pt_cmpR op_eq (pe_ix ix_tup (pv 3) pe_int (fun _ _ => rfl)) (pv 2) (nomark _)) (pw_and1 (pt_cmpR (op_notInD (u65 hr)) (pe_ix ix_tup (pv 3) pe_int (fun _ _ => rfl)) (pv 1) (by rfl)))))
            (pss_one (ps_expr (pe_bm PySem.F.plainAttrs_list PySem.F.slot_list_append PySem.F.type_list_append mt_append (pv 1) (pa_cons (pe_ix ix_tup (pv 3) pe_int (fun _ _ => rfl)) pa_nil))))
            pss_nil)))))
      (pss_one (ps_ret (pv 1))))), ?_⟩
    have lp := Paired.length pr
    have few := ok.few
    refine ⟨Nat.zero_le _, fun L nL => ?_⟩
    have sL := same_new (o := .lst []) nL
    refine ⟨_, rfl, l, rfl, ⟨_, .inl (.inl (sL _ _ hl))⟩, fun D nD => ?_⟩
    refine lc_pick (K := K) (a := l) (xs := ps.map V.ref) (ts := ts) (by rw [List.length_map]; exact lp) (fun _ => true) (fun _ x => V.int x.2) nD (.inl (.inl (sL _ _ hl))) (by rw [List.length_map]; exact small5 (by omega)) ?_ ?_
    · rintro i y x H' R S hy hx s1 hR _
      rw [List.getElem?_map] at hy
      obtain ⟨a, ha, rfl⟩ : ∃ a, ps[i]? = some a ∧ V.ref a = y := by
        cases e : ps[i]? with
        | none => rw [e] at hy; cases hy
        | some a => rw [e] at hy; exact ⟨a, rfl, Option.some.inj hy⟩
      obtain ⟨x', hx', b, g1, g2⟩ := paired_get pr ha
      obtain rfl : x' = x := Option.some.inj (hx'.symm.trans hx)
      refine ⟨rfl, yes (iteT ?_)⟩
      exact ⟨.ref a, rfl, a, _, _, .int x'.2, rfl, rfl, .inl (.inl (s1 _ _ (sL _ _ g1))), atI_nat (j := 0) rfl, hR rfl⟩
    have ev : (((ps.map V.ref).zip ts).filter fun _ => true).map (fun z => V.int z.2.2) = (ts.map (·.2)).map V.int := by
      rw [List.filter_eq_self.mpr (fun _ _ => rfl), List.map_map, show (fun z : V × Tmr => V.int z.2.2) = ((V.int ∘ fun x : Tmr => x.2) ∘ Prod.snd) from rfl, ← List.map_map, List.map_snd_zip (by rw [List.length_map]; omega)]
    rw [ev]
    have sD := sL.trans (same_new (o := .lst ((ts.map (·.2)).map V.int)) nD)
    refine ⟨D, ts.map (·.2), rfl, .inl (.inl upd_same), by rw [List.length_map]; omega, fun ds N pm so nN => ?_⟩
    have sN := sD.trans (same_new (o := .lst (ds.map V.int)) nN)
    have LD : L ≠ D := ne_of_none upd_same nD
    have hL0 : (upd (upd (upd H L (.lst [])) D (.lst ((ts.map (·.2)).map V.int))) N (.lst (ds.map V.int))) L = some (.lst []) := same_new nN _ _ (same_new nD _ _ upd_same)
    have NL : N ≠ L := (ne_of_none (same_new nD _ _ upd_same) nN).symm
    refine ⟨N, rfl, ⟨_, .inl (.inl upd_same)⟩, ?_⟩
    refine for_list (K := K) (a := N) (xs := ds.map V.int) (fun i σ H3 => ∃ (y2 y3 : Option V), σ = [some (.ref l), some (.ref L), y2, y3] ∧ Same H H3 ∧ H3 N = some (.lst (ds.map V.int)) ∧ KeysAt H3 L ((ordT ts).filter fun z => decide (z.2 ∈ ds.take i)))
      ⟨_, _, rfl, sN, upd_same, [], hL0, by rw [List.filter_eq_nil_iff.mpr fun z _ => by simp]; exact .nil⟩ (fun i σ H3 _ ⟨_, _, _, _, h, _⟩ => .inl (.inl h)) ?_ ?_
    · rintro i y σ H3 hy ⟨y2, y3, rfl, s3, hN, ka⟩
      rw [List.getElem?_map] at hy
      obtain ⟨d, hd, rfl⟩ : ∃ d, ds[i]? = some d ∧ V.int d = y := by
        cases e : ds[i]? with
        | none => rw [e] at hy; cases hy
        | some d => rw [e] at hy; exact ⟨d, rfl, Option.some.inj hy⟩
      have tk : ds.take (i + 1) = ds.take i ++ [d] := by rw [List.take_add_one, hd]; rfl
      have le : ∀ x ∈ ds.take i, x ≤ d := fun x hx => by
        obtain ⟨j, hj⟩ := List.getElem?_of_mem hx
        rw [List.getElem?_take] at hj
        split at hj
        · rename_i ji
          obtain ⟨l1, e1⟩ := List.getElem?_eq_some_iff.mp hj
          obtain ⟨l2, e2⟩ := List.getElem?_eq_some_iff.mp hd
          have := List.pairwise_iff_getElem.mp so j i l1 l2 ji
          rw [e1, e2] at this
          exact this
        · cases hj
      rw [tk, ← more_next ok.nd le]
      have fsub : ∀ z ∈ (ordT ts).filter (fun z => decide (z.2 ∈ ds.take i)), z ∈ ts := fun z hz => ord_mem.mp (List.mem_filter.mp hz).1
      have flen : ((ordT ts).filter fun z => decide (z.2 ∈ ds.take i)).length ≤ 50 := Nat.le_trans (List.length_filter_le _ _) (by rw [ord_len]; exact few)
      generalize (ordT ts).filter (fun z => decide (z.2 ∈ ds.take i)) = fs at *
      refine ⟨_, rfl, l, rfl, ⟨_, .inl (.inl (s3 _ _ hl))⟩, ?_⟩
      refine for_list (K := K) (a := l) (xs := ps.map V.ref) (fun k σ H4 => ∃ (y3 : Option V), σ = [some (.ref l), some (.ref L), some (.int d), y3] ∧ Same H H4 ∧ H4 N = some (.lst (ds.map V.int)) ∧ KeysAt H4 L (moreT fs (ts.take k) d))
        ⟨_, rfl, s3, hN, by unfold moreT; rw [List.take_zero, List.filter_nil, List.append_nil]; exact ka⟩ (fun k σ H4 _ ⟨_, _, s4, _⟩ => .inl (.inl (s4 _ _ hl))) ?_ ?_
      · rintro k y σ H4 hy ⟨y3, rfl, s4, hN4, bs, hL4, pb⟩
        rw [List.getElem?_map] at hy
        obtain ⟨a, ha, rfl⟩ : ∃ a, ps[k]? = some a ∧ V.ref a = y := by
          cases e : ps[k]? with
          | none => rw [e] at hy; cases hy
          | some a => rw [e] at hy; exact ⟨a, rfl, Option.some.inj hy⟩
        obtain ⟨x, hx, b, g1, g2⟩ := paired_get pr ha
        have tk2 : ts.take (k + 1) = ts.take k ++ [x] := by rw [List.take_add_one, hx]; rfl
        have kl : k < ts.length := (List.getElem?_eq_some_iff.mp hx).1
        have fr : ∀ y ∈ ts.take k, y.1 ≠ x.1 := fun y hy e => by
          obtain ⟨j, hj⟩ := List.getElem?_of_mem hy
          rw [List.getElem?_take] at hj
          split at hj
          · rename_i jk
            have nd := ok.nd
            have ej : (ts.map (·.1))[j]? = some x.1 := by rw [List.getElem?_map, hj]; exact congrArg some e
            have ek : (ts.map (·.1))[k]? = some x.1 := by rw [List.getElem?_map, hx]; rfl
            have := (List.getElem?_inj (by rw [List.length_map]; omega) nd).mp (ej.trans ek.symm)
            omega
          · cases hj
        have nxt : moreT fs (ts.take (k + 1)) d = moreT fs (ts.take k) d ++ (if decide (x.2 = d) && decide (x.1 ∉ fs.map (·.1)) then [x] else []) := by
          unfold moreT
          rw [tk2, List.filter_append, List.append_assoc, List.filter_cons, List.filter_nil]
        have inm : x.1 ∈ (moreT fs (ts.take k) d).map (·.1) ↔ x.1 ∈ fs.map (·.1) := by
          unfold moreT
          rw [List.map_append, List.mem_append]
          refine ⟨fun q => q.elim id fun q => ?_, .inl⟩
          obtain ⟨y, hy, e⟩ := List.mem_map.mp q
          exact absurd e (fr y (List.mem_filter.mp hy).1)
        have mfine : ∀ z ∈ moreT fs (ts.take k) d, KeyOk z.1 := fun z hz => by
          rcases List.mem_append.mp hz with h | h
          · exact (ok.ok z (fsub z h)).1
          · exact (ok.ok z (List.mem_of_mem_take (List.mem_filter.mp h).1)).1
        have mlen : (moreT fs (ts.take k) d).length ≤ 100 := by
          unfold moreT
          rw [List.length_append]
          have := List.length_filter_le (fun z : Tmr => decide (z.2 = d) && decide (z.1 ∉ fs.map (·.1))) (ts.take k)
          rw [List.length_take] at this
          omega
        have kx := (ok.ok x (List.mem_of_getElem? hx)).1
        have pk : PdA 1 (100 * (44 + 1)) ((moreT fs (ts.take k) d).map fun z => keyD z.1) := PdA.all (fun dd hd => by
          obtain ⟨z, hz, rfl⟩ := List.mem_map.mp hd
          exact key_pd (mfine z hz)) (by rw [List.length_map]; exact mlen)
        refine ⟨.ref a, rfl, a, _, _, .int x.2, rfl, rfl, .inl (.inl (s4 _ _ g1)), atI_nat (j := 0) rfl, _, rfl, rfl, _, rfl, ite2 (fun e => ?_) (fun e => ?_)⟩
        · have e1 : x.2 = d := by
            have := of_decide_eq_true e
            exact V.int.inj this
          refine ⟨.ref a, rfl, a, _, _, .ref b, rfl, rfl, .inl (.inl (s4 _ _ g1)), atI_nat (j := 1) rfl, _, rfl, keyD x.1, _, key_dp (s4 _ _ g2), .lst (.inl (.inl hL4)) (keys_dp pb), (key_pd kx).sz.shaped (by decide), (pk.sz.lst).shaped (by decide), _, rfl, ?_⟩
          have eqd : decide (x.1 ∈ (moreT fs (ts.take k) d).map (·.1)) = decide (x.1 ∈ fs.map (·.1)) := decide_eq_decide.mpr inm
          rw [any_key kx mfine, eqd]
          refine ite2 (fun q => ?_) (fun q => ?_)
          · have q' : x.1 ∉ fs.map (·.1) := by simpa using q
            refine ⟨.ref L, rfl, .inl ⟨rfl, _, .inl (.inl hL4)⟩, .ref a, rfl, a, _, _, .ref b, rfl, rfl, .inl (.inl (s4 _ _ g1)), atI_nat (j := 1) rfl, L, _, _, rfl, rfl, hL4, small5 (by have := Paired.length pb; rw [List.length_map]; omega), ?_⟩
            have off : ∀ {q : Addr} {o : HO}, H4 q = some o → q ≠ L → upd H4 L (.lst (bs.map V.ref ++ [.ref b])) q = some o := fun {q o} h n => by rw [upd_ne n]; exact h
            refine ⟨_, rfl, fun q o e => off (s4 _ _ e) (ne_of_none e nL), off hN4 NL, bs ++ [b], by rw [upd_same, List.map_append]; rfl, ?_⟩
            rw [nxt, e1, decide_eq_true rfl, show decide (x.1 ∉ fs.map (·.1)) = true from decide_eq_true q', Bool.and_true, if_pos rfl]
            exact Paired.snoc (Paired.mapP pb fun c y h => off h (by rintro rfl; rw [hL4] at h; cases h)) (off (s4 _ _ g2) (ne_of_none g2 nL))
          · have q' : x.1 ∈ fs.map (·.1) := by simpa using q
            refine ⟨_, rfl, s4, hN4, bs, hL4, ?_⟩
            rw [nxt, show decide (x.1 ∉ fs.map (·.1)) = false from decide_eq_false fun h => h q', Bool.and_false, if_neg Bool.false_ne_true, List.append_nil]
            exact pb
        · refine ⟨_, rfl, s4, hN4, bs, hL4, ?_⟩
          have : decide (x.2 = d) = false := decide_eq_false fun h => e (by rw [h]; exact decide_eq_true rfl)
          rw [nxt, this, Bool.false_and, if_neg Bool.false_ne_true, List.append_nil]
          exact pb
      · rintro σ H4 ⟨y3', rfl, s4, hN4, ka4⟩
        rw [List.length_map, lp, List.take_length] at ka4
        exact ⟨_, _, rfl, s4, hN4, ka4⟩
    · rintro σ H3 ⟨y2, y3, rfl, s3, hN, ka⟩
      rw [List.length_map, List.take_length, ord_all pm] at ka
      exact ⟨_, rfl, q H3 L s3 ka⟩
end
end K31

namespace K31
open PySem PySem.Spec PyProof.Rows L2 Pg LamX
theorem tab_but {H H' : Hp} {x T : Addr} {q : Str} {o : HO} (t : TabS H T q) (k : ButT x H H') (hx : H x = some o) (n1 : ∀ ps, o ≠ .tbl ps) (n2 : ∀ c, o ≠ CodeO c q) : TabS H' T q := by
  obtain ⟨ps, h1, h2, h3⟩ := t
  refine ⟨ps, k _ _ h1 (by rintro rfl; rw [hx] at h1; exact n1 _ (Option.some.inj h1)), h2, fun pos cv hc => ?_⟩
  obtain ⟨c, e1, e2⟩ := h3 pos cv hc
  exact ⟨c, e1, k _ _ e2 (by rintro rfl; rw [hx] at e2; exact n2 _ (Option.some.inj e2))⟩
theorem lst_tbl {xs : List V} : (∀ ps, HO.lst xs ≠ .tbl ps) ∧ ∀ c q, HO.lst xs ≠ CodeO c q := ⟨fun ps z => (by cases z), fun c q z => by unfold CodeO at z; cases z⟩
theorem dT_tbl {xs : List (List Key × V)} : (∀ ps, HO.dT xs ≠ .tbl ps) ∧ ∀ c q, HO.dT xs ≠ CodeO c q := ⟨fun ps z => (by cases z), fun c q z => by unfold CodeO at z; cases z⟩
theorem RowO.ext {H H' : Hp} {l : Addr} {ts : List Tmr} (r : RowO H l ts) (s : ExtN H H') : RowO H' l ts :=
  let ⟨ps, h, pr⟩ := r
  ⟨ps, s _ _ h (fun ps z => by cases z), Paired.mapP pr fun _ _ ⟨b, g1, g2⟩ => ⟨b, s _ _ g1 (fun ps z => by cases z), s _ _ g2 (fun ps z => by cases z)⟩⟩
/-- all but x, which is no tuple and not the row -/
theorem RowO.but {H H' : Hp} {x l : Addr} {ts : List Tmr} {o : HO} (r : RowO H l ts) (k : ButT x H H') (hx : H x = some o) (n1 : ∀ xs, o ≠ .tup xs) (nl : l ≠ x) : RowO H' l ts :=
  let ⟨ps, h, pr⟩ := r
  ⟨ps, k _ _ h nl, Paired.mapP pr fun _ _ ⟨b, g1, g2⟩ => ⟨b, k _ _ g1 (by rintro rfl; rw [hx] at g1; exact n1 _ (Option.some.inj g1)), k _ _ g2 (by rintro rfl; rw [hx] at g2; exact n1 _ (Option.some.inj g2))⟩⟩
theorem RowO.box {H : Hp} {b l : Addr} {ts : List Tmr} (r : RowO H l ts) (hb : Box H b) : l ≠ b := by
  rintro rfl
  obtain ⟨ps, h, _⟩ := r
  obtain ⟨dg, ds, n, h1, _⟩ := hb
  rw [h1] at h
  match ps, h with
  | [], h => cases h
  | [_], h => cases h
  | _ :: _ :: _, h => cases h
/-- where the law stands -/
structure LT (K : PySem.W.Frag) (C TA : Addr) (H : Hp) (b p d R : Addr) (ts : List Tmr) (j : Nat) : Prop where
  box : Box H b
  tm : TmAt K C H p d ts
  rows : RowO H R ts
  tab : TabS H TA lamQ
  ok : TsOk ts j
section
variable {K : PySem.W.Frag} {C TA b p d R : Addr} {H H' : Hp} {ts : List Tmr} {j : Nat}
theorem LT.same (x : LT K C TA H b p d R ts j) (s : Same H H') : LT K C TA H' b p d R ts j := ⟨x.box.same s, x.tm.same s, x.rows.same s, x.tab.ext s, x.ok⟩
theorem LT.ext (x : LT K C TA H b p d R ts j) (s : ExtN H H') (t : TabS H' TA lamQ) : LT K C TA H' b p d R ts j := by
  refine ⟨?_, x.tm.ext s, x.rows.ext s, t, x.ok⟩
  obtain ⟨dg, ds, n, h1, h2, h3⟩ := x.box
  exact ⟨dg, ds, n, s _ _ h1 (fun ps z => by cases z), s _ _ h2 (fun ps z => by cases z), h3⟩
theorem LT.drew (x : LT K C TA H b p d R ts j) (s : Drew b H H') : LT K C TA H' b p d R ts j := by
  have k : ButT b H H' := fun q o e n => s.keep q o n e
  obtain ⟨dg, ds, n, h1, h2, h3⟩ := x.box
  obtain ⟨dx, g1, g2⟩ := x.tm
  refine ⟨s.box, ⟨dx, k _ _ g1 (by rintro rfl; rw [h1] at g1; cases g1), k _ _ g2 (by rintro rfl; rw [h1] at g2; cases g2)⟩, x.rows.but k h1 (fun xs z => by cases z) (x.rows.box x.box), tab_but x.tab k h1 lst_tbl.1 fun c => lst_tbl.2 c _, x.ok⟩
/-- the timers were changed -/
theorem LT.tms {us : List Tmr} {i : Nat} {R' : Addr} (x : LT K C TA H b p d R ts j) (s : ButT d H H') (t : TmAt K C H' p d us) (r : RowO H' R' us) (o : TsOk us i) : LT K C TA H' b p d R' us i := by
  obtain ⟨dx, g1, g2⟩ := x.tm
  obtain ⟨dg, ds, n, h1, h2, h3⟩ := x.box
  refine ⟨⟨dg, ds, n, s _ _ h1 (by rintro rfl; rw [g2] at h1; cases h1), s _ _ h2 (by rintro rfl; rw [g2] at h2; cases h2), h3⟩, t, r, tab_but x.tab s g2 dT_tbl.1 fun c => dT_tbl.2 c _, o⟩
/-- another row, that stands for the same -/
theorem LT.row {R' : Addr} (x : LT K C TA H b p d R ts j) (r : RowO H R' ts) : LT K C TA H b p d R' ts j := ⟨x.box, x.tm, r, x.tab, x.ok⟩
end
def keys8 : List (List Str) := [["pause"], ["wait"], ["attempt", "a"], ["attempt", "b"], ["delay", "a"], ["delay", "b"], ["attempt", "ab"], ["x", "y", "z"]]
theorem keys8_ok : ∀ k ∈ keys8, KeyOk k := by
  intro k hk
  have : keys8.all (fun k => decide (k.length ≤ 4) && k.all fun x => x.cps.toList.all (fun c => decide (c < 1114112)) && decide (x.length ≤ 10)) = true := by decide +kernel
  have h := List.all_eq_true.mp this k hk
  obtain ⟨h1, h2⟩ := Bool.and_eq_true_iff.mp h
  refine ⟨of_decide_eq_true h1, fun x hx => ?_⟩
  obtain ⟨h3, h4⟩ := Bool.and_eq_true_iff.mp (List.all_eq_true.mp h2 x hx)
  exact ⟨fun c hc => of_decide_eq_true (List.all_eq_true.mp h3 c hc), of_decide_eq_true h4⟩
/-- tuples of texts, made one behind another -/
def taS (k : List Str) : TA := k.foldr (fun x t => tCons (tC (V.str x)) t) tNil
def taK (ks : List (List Str)) : TA := ks.foldr (fun k t => tCons (tTup (taS k)) t) tNil
theorem taS_at (k : List Str) : ∀ {σ : L2.St} {H : Hp} {Q : List V → Hp → Prop}, Q (k.map V.str) H → taS k σ H Q := by
  induction k with
  | nil => intro σ H Q h; exact h
  | cons x r ih => intro σ H Q h; exact ih (Q := fun xs H2 => Q (V.str x :: xs) H2) h
theorem taK_at (ks : List (List Str)) (small : ∀ k ∈ ks, k.length ≤ 10) : ∀ {σ : L2.St} {H : Hp} {Q : List V → Hp → Prop}, (∀ (us : List Addr) (H' : Hp), Same H H' → Paired (fun (u : Addr) (k : List Str) => H' u = some (.tup (k.map V.str))) us ks → Q (us.map V.ref) H') → taK ks σ H Q := by
  induction ks with
  | nil => intro σ H Q h; exact h [] H (Same.refl _) .nil
  | cons k r ih =>
    intro σ H Q h
    refine taS_at k (Q := fun vs H1 => vs.length ≤ sizeLine ∧ ∀ p, H1 p = none → taK r σ (upd H1 p (.tup vs)) fun xs H2 => Q (.ref p :: xs) H2) ⟨?_, fun u nu => ?_⟩
    · rw [List.length_map]
      have := small k List.mem_cons_self
      exact Nat.le_trans this (by decide)
    · refine ih (fun k hk => small k (List.mem_cons_of_mem _ hk)) fun us H' s pr => ?_
      exact h (u :: us) H' ((same_new nu).trans s) (.cons (s _ _ upd_same) pr)
theorem pick_row {β : Type} {F : Addr → β → Prop} {ps : List Addr} {ts : List β} (pr : Paired F ps ts) (p : β → Bool) : ∃ qs : List Addr, (((ps.map V.ref).zip ts).filter fun z => p z.2).map (fun z => z.1) = qs.map V.ref ∧ Paired F qs (ts.filter p) := by
  induction pr with
  | nil => exact ⟨[], rfl, .nil⟩
  | @cons a t ps ts h _ ih =>
    obtain ⟨qs, e, pq⟩ := ih
    cases hp : p t with
    | true => exact ⟨a :: qs, by rw [List.map_cons, List.zip_cons_cons, List.filter_cons_of_pos (p := fun z : V × β => p z.2) (a := (V.ref a, t)) hp, List.map_cons, e]; rfl, by rw [List.filter_cons_of_pos hp]; exact .cons h pq⟩
    | false => exact ⟨qs, by rw [List.map_cons, List.zip_cons_cons, List.filter_cons_of_neg (p := fun z : V × β => p z.2) (a := (V.ref a, t)) (by simp [hp])]; exact e, by rw [List.filter_cons_of_neg (by simp [hp])]; exact pq⟩
theorem eq_key {a b : List Str} (h1 : KeyOk a) (h2 : KeyOk b) : PyData.eqv (keyD a) (keyD b) = decide (a = b) := by
  rw [Bool.eq_iff_iff, (key_pd h1).eqv (key_pd h2), decide_eq_true_eq]
  exact ⟨keyD_inj, fun h => by rw [h]⟩
theorem eq_empty (l : List PyData) : PyData.eqv (.list l) (.list []) = l.isEmpty := by
  cases l with
  | nil => decide +kernel
  | cons x r => unfold PyData.eqv; simp [PyData.eqvAll]
theorem there_is (ts : List Tmr) (k : List Str) : (!((ts.filter fun z => decide (z.1 = k)).map tmrD).isEmpty) = (lookT ts k).isSome := by
  unfold lookT
  rw [Option.isSome_map, List.isEmpty_map]
  induction ts with
  | nil => rfl
  | cons z r ih =>
    rw [List.filter_cons, List.find?_cons]
    by_cases e : z.1 = k
    · rw [if_pos (decide_eq_true e), decide_eq_true e]; rfl
    · rw [if_neg (by simpa using e), decide_eq_false e]; exact ih
theorem shows_bool (b : Bool) : Shows (.bool b) := by
  cases b <;> exact ⟨by decide +kernel, rfl, by decide, by decide +kernel⟩
theorem RowO.drew {H H' : Hp} {b l : Addr} {ts : List Tmr} (r : RowO H l ts) (hb : Box H b) (s : Drew b H H') : RowO H' l ts := by
  have n := r.box hb
  obtain ⟨dg, ds, m, h1, _⟩ := hb
  exact r.but (fun q o e n => s.keep q o n e) h1 (fun xs z => by cases z) n
theorem keep_drew {H H' : Hp} {b u : Addr} {xs : List V} (h : H u = some (.tup xs)) (hb : Box H b) (s : Drew b H H') : H' u = some (.tup xs) := s.keep u _ (by
  rintro rfl
  obtain ⟨dg, ds, m, h1, _⟩ := hb
  rw [h1] at h; cases h) h
theorem ext_keepT {K : PySem.W.Frag} {H H' : Hp} (e : ExtN H H') : KeepT K H H' := fun a xs h => extN_sqT e h
theorem KeysAt.ext {H H' : Hp} {l : Addr} {fs : List Tmr} (k : KeysAt H l fs) (e : ExtN H H') : KeysAt H' l fs :=
  let ⟨bs, h, pr⟩ := k
  ⟨bs, e _ _ h (fun ps z => by cases z), Paired.mapP pr fun _ _ g => e _ _ g (fun ps z => by cases z)⟩
theorem KeysAt.same {H H' : Hp} {l : Addr} {fs : List Tmr} (k : KeysAt H l fs) (s : Same H H') : KeysAt H' l fs := k.ext (ExtN.of s)
theorem keys_pd {fs : List Tmr} (h : ∀ z ∈ fs, TmrOk z) (l : fs.length ≤ 100) : PdA 1 (100 * (44 + 1)) (fs.map fun z => keyD z.1) := PdA.all (fun dd hd => by
  obtain ⟨z, hz, rfl⟩ := List.mem_map.mp hd
  exact key_pd (h z hz).1) (by rw [List.length_map]; exact l)
theorem found_one {ts : List Tmr} (nd : (ts.map (·.1)).Nodup) (k : List Str) : ((ts.filter fun z => decide (z.1 = k)) = [] ∧ lookT ts k = none) ∨ ∃ x, (ts.filter fun z => decide (z.1 = k)) = [x] ∧ lookT ts k = some x.2 := by
  unfold lookT
  induction ts with
  | nil => exact .inl ⟨rfl, rfl⟩
  | cons z r ih =>
    obtain ⟨n1, n2⟩ := List.nodup_cons.mp nd
    rw [List.filter_cons, List.find?_cons]
    by_cases e : z.1 = k
    · refine .inr ⟨z, ?_, by rw [decide_eq_true e]; rfl⟩
      rw [if_pos (decide_eq_true e)]
      congr 1
      rw [List.filter_eq_nil_iff]
      intro y hy m
      exact n1 (List.mem_map.mpr ⟨y, hy, (of_decide_eq_true m).trans e.symm⟩)
    · rw [if_neg (by simpa using e), decide_eq_false e]
      exact ih n2
theorem first_pd {ts : List Tmr} (h : ∀ z ∈ ts, TmrOk z) : Pd 2 46 (firstD ts) := by
  unfold firstD
  cases e : (ordT ts).head? with
  | none => exact Pd.none.mono (by decide) (by decide)
  | some x => exact tmr_pd (h x (ord_mem.mp (List.mem_of_mem_head? e)))
theorem Shows.of' {D M : Nat} {d : PyData} (s : Sz D M d) (h1 : D ≤ 40 := by decide) (h2 : M ≤ 2 ^ 20 := by decide) : Shows d := ⟨s.ok, s.nd, Nat.le_trans s.dep h1, s.fits h2⟩
theorem pick_due (p : Tmr → Bool) : ∀ {xs : List V} {ts : List Tmr}, xs.length = ts.length → ((xs.zip ts).filter fun z => p z.2).map (fun z => V.int z.2.2) = ((ts.filter p).map (·.2)).map V.int
  | [], [], _ => rfl
  | [], _ :: _, h => by cases h
  | _ :: _, [], h => by cases h
  | v :: xs, t :: ts, h => by
    have ih := pick_due p (xs := xs) (ts := ts) (by simpa using h)
    rw [List.zip_cons_cons]
    cases hp : p t with
    | true => rw [List.filter_cons_of_pos (p := fun z : V × Tmr => p z.2) (a := (v, t)) hp, List.filter_cons_of_pos hp, List.map_cons, ih]; rfl
    | false => rw [List.filter_cons_of_neg (p := fun z : V × Tmr => p z.2) (a := (v, t)) (by simp [hp]), List.filter_cons_of_neg (by simp [hp]), ih]
def spLaw (TA : Addr) (K : PySem.W.Frag) : Sp := fun vs H Q _ => ∃ (a : Addr) (ns : List Int), vs = [.ref a] ∧ H TA = some (.tbl #[]) ∧ SqL K H a (ns.map V.int) ∧ ns.length ≤ 63 ∧ ∀ H', Q (.bl true) H'
section
variable {P : Program} {w : World} {K : PySem.W.Frag} {mg : Str → Option Value} {base : Heap} {f CTimers cA TA : Addr} {fd : FuncData}
theorem ok_law (F : Fun K "law" "law" s_law f fd) (z : Z mg) (claw_digits : Cal P w K mg base "_law_digits" 2 ["script", "first", "last"] (spDigits K))
    (claw_draw : Cal P w K mg base "_law_draw" 1 ["box", "many"] spDraw) (claw_alike : CalG P w K mg base "_law_alike" 1 ["one", "two"] (spAlike K))
    (claw_rows_in_order : Cal P w K mg base "_law_rows_in_order" 1 ["rows"] (spRowsO K))
    (kTimers : CalK P w K mg base "Timers" CTimers 1 ["self"] (spTInit K CTimers)) (cTimers_remove : CalM P w K mg base CTimers "remove" 1 ["self", "key"] (spTRemove K CTimers))
    (cTimers_put : CalM P w K mg base CTimers "put" 2 ["self", "key", "due"] (spTPut K CTimers)) (cTimers_due : CalM P w K mg base CTimers "due" 1 ["self", "key"] (spTDue K CTimers))
    (cTimers_first : CalM P w K mg base CTimers "first" 3 ["self"] (spTFirst K CTimers TA)) (cTimers_keys : CalM P w K mg base CTimers "keys" 3 ["self"] (spTKeys K CTimers TA)) : FnG P w K mg base 5 f fd ["script"] (spLaw TA K) := by
  refine FnG.mk' F sc_law (fun vs H Q E h => ?_) (fun cdv A outer s H vs Q gd hr h => ?_)
  · obtain ⟨a, ns, rfl, _⟩ := h
    rfl
  · obtain ⟨a, ns, rfl, hT, hs, few, q⟩ := h
    refine ⟨_, (pss_cons (ps_set (i := 1) sc_law.nd rfl (Or.inl rfl) (pe_lst (pa_cons (pe_cal claw_digits (hr.mono (by decide)) (by rfl) (pa_cons (pv 0) (pa_cons pe_int (pa_cons pe_int pa_nil)))) (pa_cons pe_int pa_nil))))
      (pss_cons (ps_set (i := 2) sc_law.nd rfl (Or.inl rfl) (pe_mk0 kTimers (hr.mono (by decide)) (by rfl)))
      (pss_cons (ps_set (i := 3) sc_law.nd rfl (Or.inl rfl) (pe_lst pa_nil))
      (pss_cons (ps_for PassesOwn.never rfl (pi_range1 (by rfl) z.range (pa_cons (pe_cal claw_draw (hr.mono (by decide)) (by rfl) (pa_cons (pv 1) (pa_cons pe_int pa_nil))) pa_nil)) (pg_name (i := 4) sc_law.nd rfl (Or.inl rfl))
        (pss_cons (ps_set (i := 5) sc_law.nd rfl (Or.inr rfl) (pe_ix ix_list (pe_lst (pa_cons (pe_tup (pa_cons pe_str pa_nil)) (pa_cons (pe_tup (pa_cons pe_str pa_nil)) (pa_cons (pe_tup (pa_cons pe_str (pa_cons pe_str pa_nil))) (pa_cons (pe_tup (pa_cons pe_str (pa_cons pe_str pa_nil))) (pa_cons (pe_tup (pa_cons pe_str (pa_cons pe_str pa_nil))) (pa_cons (pe_tup (pa_cons pe_str (pa_cons pe_str pa_nil))) (pa_cons (pe_tup (pa_cons pe_str (pa_cons pe_str pa_nil))) (pa_cons (pe_tup (pa_cons pe_str (pa_cons pe_str (pa_cons pe_str pa_nil)))) pa_nil))))))))) (pe_cal claw_draw (hr.mono (by decide)) (by rfl) (pa_cons (pv 1) (pa_cons pe_int pa_nil))) (fun _ _ => rfl)))
        (pss_cons (ps_set (i := 6) sc_law.nd rfl (Or.inl rfl) (pe_cmpR (op_neD hr.units) (pe_lc (own := [("row", 12)]) (g := (gName 12)) rfl sc_law.nd (pi_list (pv 3)) (blkOk_by (own := [("row", 12)]) (N := ["script", "box", "timers", "rows", "turn", "key", "there", "rest", "due", "order", "first", "found", "row"]) (sc := defScope s_law) (by decide +kernel)) (fun _ _ _ _ _ => pg_name (i := 12) sc_law.nd rfl (Or.inl rfl)) (fun _ _ _ _ _ => (pts_one (pt_cmpR (op_eqDK (K := K) rfl hr.units) (pe_ix (ix_tupK (K := K) rfl) (pv 12) pe_int (fun _ _ => rfl)) (pv 5) (nomark _)))) (fun _ _ _ _ _ => (pv 12))) (pe_lst pa_nil) (nomark _)))
        (pss_cons (ps_setLc (i := 7) (own := [("row", 12)]) (g := (gName 12)) rfl sc_law.nd rfl rfl (sw_true rfl rfl rfl (by decide +kernel)) (pi_list (pv 3)) (blkOk_by (own := [("row", 12)]) (N := ["script", "box", "timers", "rows", "turn", "key", "there", "rest", "due", "order", "first", "found", "row"]) (sc := defScope s_law) (by decide +kernel)) (fun _ _ _ _ _ => pg_name (i := 12) sc_law.nd rfl (Or.inl rfl)) (fun _ _ _ _ _ => (pts_one (pt_cmpR (op_neDK (K := K) rfl hr.units) (pe_ix (ix_tupK (K := K) rfl) (pv 12) pe_int (fun _ _ => rfl)) (pv 5) (nomark _)))) (fun _ _ _ _ _ => (pv 12)))
        (C8.pss_cut (ps_if (pt_cmpR op_eq (pe_cal claw_draw (hr.mono (by decide)) (by rfl) (pa_cons (pv 1) (pa_cons pe_int pa_nil))) pe_int (nomark _))
          (pss_cons (ps_set (i := 3) sc_law.nd rfl (Or.inl rfl) (pv 7))
          (pss_one (ps_if (pt_not (pt_val (pe_calG claw_alike gd (hr.mono (by decide)) (by rfl) (pa_cons (pe_calM cTimers_remove (hr.mono (by decide)) (pv 2) (pa_cons (pv 5) pa_nil)) (pa_cons (pv 6) pa_nil)))))
            (pss_one (ps_ret pe_bl))
            pss_nil)))
          (pss_cons (ps_set (i := 8) sc_law.nd rfl (Or.inl rfl) (pe_ix ix_list (pe_lst (pa_cons (pe_cal claw_draw (hr.mono (by decide)) (by rfl) (pa_cons (pv 1) (pa_cons pe_int pa_nil))) (pa_cons (pe_cal claw_draw (hr.mono (by decide)) (by rfl) (pa_cons (pv 1) (pa_cons pe_int pa_nil))) pa_nil))) (pe_cal claw_draw (hr.mono (by decide)) (by rfl) (pa_cons (pv 1) (pa_cons pe_int pa_nil))) (fun _ _ => rfl)))
          (pss_cons (ps_set (i := 3) sc_law.nd rfl (Or.inl rfl) (pe_op op_cat (pv 7) (pe_lst (pa_cons (pe_tup (pa_cons (pv 8) (pa_cons (pv 5) pa_nil))) pa_nil))))
          (pss_one (ps_if (pt_cmpR op_notN (pe_calM cTimers_put (hr.mono (by decide)) (pv 2) (pa_cons (pv 5) (pa_cons (pv 8) pa_nil))) pe_non (nomark _))
            (pss_one (ps_ret pe_bl))
            pss_nil)))))
        (pss_cons (ps_set (i := 9) sc_law.nd rfl (Or.inl rfl) (pe_cal claw_rows_in_order (hr.mono (by decide)) (by rfl) (pa_cons (pv 3) pa_nil)))
        (pss_cons (ps_if (pt_not (pt_val (pe_calG claw_alike gd (hr.mono (by decide)) (by rfl) (pa_cons (pe_callTy call_list_of (by rfl) z.list (by decide +kernel) (pa_cons (pe_calM0 cTimers_keys (hr.mono (by decide)) (pv 2)) pa_nil)) (pa_cons (pv 9) pa_nil)))))
          (pss_one (ps_ret pe_bl))
          pss_nil)
        (pss_cons (ps_set (i := 10) sc_law.nd rfl (Or.inl rfl) pe_non)
        (C8.pss_cut (ps_if (pt_cmpR (op_neD hr.units) (pv 9) (pe_lst pa_nil) (nomark _))
          (pss_one (ps_set (i := 10) sc_law.nd rfl (Or.inl rfl) (pe_tup (pa_cons (pe_callB (cr_min rfl) (by rfl) z.min (by decide +kernel) (pa_cons (pe_lc (own := [("row", 12)]) (g := (gName 12)) (tt := tYes) rfl sc_law.nd (pi_list (pv 3)) (blkOk_by (own := [("row", 12)]) (N := ["script", "box", "timers", "rows", "turn", "key", "there", "rest", "due", "order", "first", "found", "row"]) (sc := defScope s_law) (by decide +kernel)) (fun _ _ _ _ _ => pg_name (i := 12) sc_law.nd rfl (Or.inl rfl)) (fun _ _ _ _ _ => pts_nil) (fun _ _ _ _ _ => (pe_ix (ix_tupK (K := K) rfl) (pv 12) pe_int (fun _ _ => rfl)))) pa_nil)) (pa_cons (pe_ix ix_list (pv 9) pe_int (fun _ _ => rfl)) pa_nil)))))
          pss_nil)
        (pss_cons (ps_if (pt_not (pt_val (pe_calG claw_alike gd (hr.mono (by decide)) (by rfl) (pa_cons (pe_calM0 cTimers_first (hr.mono (by decide)) (pv 2)) (pa_cons (pv 10) pa_nil)))))
          (pss_one (ps_ret pe_bl))
          pss_nil)
        (pss_cons (ps_setLc (i := 11) (own := [("row", 12)]) (g := (gName 12)) rfl sc_law.nd rfl rfl (sw_true rfl rfl rfl (by decide +kernel)) (pi_list (pv 3)) (blkOk_by (own := [("row", 12)]) (N := ["script", "box", "timers", "rows", "turn", "key", "there", "rest", "due", "order", "first", "found", "row"]) (sc := defScope s_law) (by decide +kernel)) (fun _ _ _ _ _ => pg_name (i := 12) sc_law.nd rfl (Or.inl rfl)) (fun _ _ _ _ _ => (pts_one (pt_cmpR (op_eqDK (K := K) rfl hr.units) (pe_ix (ix_tupK (K := K) rfl) (pv 12) pe_int (fun _ _ => rfl)) (pv 5) (nomark _)))) (fun _ _ _ _ _ => (pe_ix (ix_tupK (K := K) rfl) (pv 12) pe_int (fun _ _ => rfl))))
        (pss_one (ps_if (pt_not (pt_val (pe_calG claw_alike gd (hr.mono (by decide)) (by rfl) (pa_cons (pe_calM cTimers_due (hr.mono (by decide)) (pv 2) (pa_cons (pv 5) pa_nil)) (pa_cons (pe_ix ix_list (pe_op op_cat (pe_lst (pa_cons pe_non pa_nil)) (pv 11)) (pe_callB call_len_seq (by rfl) z.len PySem.boot_len (pa_cons (pv 11) pa_nil)) (fun _ _ => rfl)) pa_nil)))))
          (pss_one (ps_ret pe_bl))
          pss_nil)))))))))))))
      (pss_one (ps_ret pe_bl)))))), ?_⟩
    -- the box
    refine ⟨.ref a, rfl, a, ns, 0, 63, rfl, hs, by decide, by decide, fun H1 p ds sm np hp fewd => ?_⟩
    refine ⟨by show 2 ≤ sizeLine; decide, fun b nb => ?_⟩
    have npb : p ≠ b := ne_of_none hp nb
    have box0 : Box (upd H1 b (.lst [.ref p, .int 0])) b := ⟨p, ds, 0, upd_same, by rw [upd_ne npb]; exact hp, npb, fewd⟩
    have tab0 : TabS (upd H1 b (.lst [.ref p, .int 0])) TA lamQ := TabS.nil (same_new nb _ _ (sm _ _ hT))
    generalize upd H1 b (.lst [.ref p, .int 0]) = H2 at *
    -- the timers
    intro c dx nc ndx ndc
    refine ⟨c, dx, rfl, upd_same, fun d H3 nd ca kp => ?_⟩
    have s23 : Same H2 H3 := fun q o e => kp q o (by rw [upd_ne (ne_of_none e nc), upd_ne (ne_of_none e ndx)]; exact e) (ne_of_none e nc)
    refine ⟨rfl, Nat.zero_le _, fun R nR => ?_⟩
    have s34 : Same H3 (upd H3 R (.lst [])) := same_new nR
    have l0 : LT K CTimers TA (upd H3 R (.lst [])) b c d R [] 0 := ⟨(box0.same s23).same s34, ca.same s34, ⟨[], upd_same, .nil⟩, (tab0.ext s23).ext s34, TsOk.nil⟩
    generalize upd H3 R (.lst []) = H4 at *
    refine ⟨.ref b, rfl, b, 41, rfl, by decide, l0.box, fun n H5 n0 n1 d5 => ⟨n, rfl, by omega, by omega, ?_⟩⟩
    refine for_range (lo := 0) (n := n.toNat) (fun j σ H7 => ∃ (y4 y5 y6 y7 y8 y9 y10 y11 y12 : Option V) (R : Addr) (ts : List Tmr), σ = [some (.ref a), some (.ref b), some (.ref c), some (.ref R), y4, y5, y6, y7, y8, y9, y10, y11, y12] ∧ LT K CTimers TA H7 b c d R ts j)
      ⟨_, _, _, _, _, _, _, _, _, R, [], rfl, l0.drew d5⟩ ?_ ?_
    · clear l0 d5 ca
      rintro j σ H7 hj ⟨y4, y5, y6, y7, y8, y9, y10, y11, y12, R, ts, rfl, x⟩
      have j41 : j ≤ 41 := by omega
      -- key
      refine ⟨by show 1 ≤ sizeLine; decide, fun u1 m1 => ?_⟩
      have s1 : Same H7 (upd H7 u1 (.tup [V.str "pause"])) := same_new m1
      have k1 : (upd H7 u1 (.tup [V.str "pause"])) u1 = some (.tup [V.str "pause"]) := upd_same
      generalize upd H7 u1 (.tup [V.str "pause"]) = G1 at *
      refine ⟨by show 1 ≤ sizeLine; decide, fun u2 m2 => ?_⟩
      have s2 : Same G1 (upd G1 u2 (.tup [V.str "wait"])) := same_new m2
      have k2 : (upd G1 u2 (.tup [V.str "wait"])) u2 = some (.tup [V.str "wait"]) := upd_same
      generalize upd G1 u2 (.tup [V.str "wait"]) = G2 at *
      refine ⟨by show 2 ≤ sizeLine; decide, fun u3 m3 => ?_⟩
      have s3 : Same G2 (upd G2 u3 (.tup [V.str "attempt", V.str "a"])) := same_new m3
      have k3 : (upd G2 u3 (.tup [V.str "attempt", V.str "a"])) u3 = some (.tup [V.str "attempt", V.str "a"]) := upd_same
      generalize upd G2 u3 (.tup [V.str "attempt", V.str "a"]) = G3 at *
      refine ⟨by show 2 ≤ sizeLine; decide, fun u4 m4 => ?_⟩
      have s4 : Same G3 (upd G3 u4 (.tup [V.str "attempt", V.str "b"])) := same_new m4
      have k4 : (upd G3 u4 (.tup [V.str "attempt", V.str "b"])) u4 = some (.tup [V.str "attempt", V.str "b"]) := upd_same
      generalize upd G3 u4 (.tup [V.str "attempt", V.str "b"]) = G4 at *
      refine ⟨by show 2 ≤ sizeLine; decide, fun u5 m5 => ?_⟩
      have s5 : Same G4 (upd G4 u5 (.tup [V.str "delay", V.str "a"])) := same_new m5
      have k5 : (upd G4 u5 (.tup [V.str "delay", V.str "a"])) u5 = some (.tup [V.str "delay", V.str "a"]) := upd_same
      generalize upd G4 u5 (.tup [V.str "delay", V.str "a"]) = G5 at *
      refine ⟨by show 2 ≤ sizeLine; decide, fun u6 m6 => ?_⟩
      have s6 : Same G5 (upd G5 u6 (.tup [V.str "delay", V.str "b"])) := same_new m6
      have k6 : (upd G5 u6 (.tup [V.str "delay", V.str "b"])) u6 = some (.tup [V.str "delay", V.str "b"]) := upd_same
      generalize upd G5 u6 (.tup [V.str "delay", V.str "b"]) = G6 at *
      refine ⟨by show 2 ≤ sizeLine; decide, fun u7 m7 => ?_⟩
      have s7 : Same G6 (upd G6 u7 (.tup [V.str "attempt", V.str "ab"])) := same_new m7
      have k7 : (upd G6 u7 (.tup [V.str "attempt", V.str "ab"])) u7 = some (.tup [V.str "attempt", V.str "ab"]) := upd_same
      generalize upd G6 u7 (.tup [V.str "attempt", V.str "ab"]) = G7 at *
      refine ⟨by show 3 ≤ sizeLine; decide, fun u8 m8 => ?_⟩
      have s8 : Same G7 (upd G7 u8 (.tup [V.str "x", V.str "y", V.str "z"])) := same_new m8
      have k8 : (upd G7 u8 (.tup [V.str "x", V.str "y", V.str "z"])) u8 = some (.tup [V.str "x", V.str "y", V.str "z"]) := upd_same
      generalize upd G7 u8 (.tup [V.str "x", V.str "y", V.str "z"]) = G8 at *
      refine ⟨by show 8 ≤ sizeLine; decide, fun M nM => ?_⟩
      have s9 : Same G8 (upd G8 M (.lst [.ref u1, .ref u2, .ref u3, .ref u4, .ref u5, .ref u6, .ref u7, .ref u8])) := same_new nM
      have kM : (upd G8 M (.lst [.ref u1, .ref u2, .ref u3, .ref u4, .ref u5, .ref u6, .ref u7, .ref u8])) M = some (.lst [.ref u1, .ref u2, .ref u3, .ref u4, .ref u5, .ref u6, .ref u7, .ref u8]) := upd_same
      have sA : Same H7 (upd G8 M (.lst [.ref u1, .ref u2, .ref u3, .ref u4, .ref u5, .ref u6, .ref u7, .ref u8])) := s1.trans (s2.trans (s3.trans (s4.trans (s5.trans (s6.trans (s7.trans (s8.trans s9)))))))
      have pk : Paired (fun (u : Addr) (k : List Str) => (upd G8 M (.lst [.ref u1, .ref u2, .ref u3, .ref u4, .ref u5, .ref u6, .ref u7, .ref u8])) u = some (.tup (k.map V.str))) [u1, u2, u3, u4, u5, u6, u7, u8] keys8 :=
        .cons (s9 _ _ (s8 _ _ (s7 _ _ (s6 _ _ (s5 _ _ (s4 _ _ (s3 _ _ (s2 _ _ k1)))))))) (.cons (s9 _ _ (s8 _ _ (s7 _ _ (s6 _ _ (s5 _ _ (s4 _ _ (s3 _ _ k2))))))) (.cons (s9 _ _ (s8 _ _ (s7 _ _ (s6 _ _ (s5 _ _ (s4 _ _ k3)))))) (.cons (s9 _ _ (s8 _ _ (s7 _ _ (s6 _ _ (s5 _ _ k4)))))
          (.cons (s9 _ _ (s8 _ _ (s7 _ _ (s6 _ _ k5)))) (.cons (s9 _ _ (s8 _ _ (s7 _ _ k6))) (.cons (s9 _ _ (s8 _ _ k7)) (.cons (s9 _ _ k8) .nil)))))))
      generalize upd G8 M (.lst [.ref u1, .ref u2, .ref u3, .ref u4, .ref u5, .ref u6, .ref u7, .ref u8]) = H8 at *
      have x8 := x.same sA
      have bM : M ≠ b := (x.box.ne (by
        cases e : H7 M with
        | none => rfl
        | some o => rw [s8 _ _ (s7 _ _ (s6 _ _ (s5 _ _ (s4 _ _ (s3 _ _ (s2 _ _ (s1 _ _ e)))))))] at nM; cases nM))
      clear s1 s2 s3 s4 s5 s6 s7 s8 s9 sA k1 k2 k3 k4 k5 k6 k7 k8 m1 m2 m3 m4 m5 m6 m7 m8 nM x
      refine ⟨.ref b, rfl, b, 8, rfl, by decide, x8.box, fun r H9 r0 r1 d9 => ?_⟩
      obtain ⟨v, hv, at_v⟩ := at_in (xs := [u1, u2, u3, u4, u5, u6, u7, u8].map V.ref) r0 r1
      obtain ⟨u, hu, rfl⟩ := List.mem_map.mp hv
      obtain ⟨k, hk, hku⟩ : ∃ k ∈ keys8, H8 u = some (.tup (k.map V.str)) := by
        obtain ⟨i, hi⟩ := List.getElem?_of_mem hu
        obtain ⟨k, hk, e⟩ := paired_get pk hi
        exact ⟨k, List.mem_of_getElem? hk, e⟩
      have kok := keys8_ok k hk
      have hkb : u ≠ b := by
        rintro rfl
        obtain ⟨dg, ds, n, h1, _⟩ := x8.box
        rw [h1] at hku; cases hku
      refine ⟨M, _, _, _, rfl, rfl, .inl (.inl (d9.keep M _ bM kM)), at_v, ?_⟩
      have hk9 := d9.keep u _ hkb hku
      replace x8 := x8.drew d9
      clear kM pk at_v hv d9 hku hkb bM hu
      -- there
      obtain ⟨ps, hR, pr⟩ := x8.rows
      have lp := Paired.length pr
      have few2 := x8.ok.few
      refine ⟨_, rfl, R, rfl, ⟨_, .inl (.inl hR)⟩, fun D nD => ?_⟩
      refine lc_pick (K := K) (a := R) (xs := ps.map V.ref) (ts := ts) (by rw [List.length_map]; exact lp) (fun z => decide (z.1 = k)) (fun v _ => v) nD (.inl (.inl hR)) (by rw [List.length_map]; exact small5 (by omega)) ?_ ?_
      · rintro i y t H' S1 S2 hy ht s1 hS1 hS2
        rw [List.getElem?_map] at hy
        obtain ⟨a', ha', rfl⟩ : ∃ a', ps[i]? = some a' ∧ V.ref a' = y := by
          cases e : ps[i]? with
          | none => rw [e] at hy; cases hy
          | some a' => rw [e] at hy; exact ⟨a', rfl, Option.some.inj hy⟩
        obtain ⟨t', ht', b', g1, g2⟩ := paired_get pr ha'
        obtain rfl : t' = t := Option.some.inj (ht'.symm.trans ht)
        have kt := (x8.ok.ok t' (List.mem_of_getElem? ht)).1
        refine ⟨rfl, .ref a', rfl, a', _, _, .ref b', rfl, rfl, .inl (.inl (s1 _ _ g1)), atI_nat (j := 1) rfl, _, rfl, _, _, key_dp (s1 _ _ g2), key_dp (s1 _ _ hk9), (key_pd kt).sz.shaped (by decide), (key_pd kok).sz.shaped (by decide), _, rfl, ?_⟩
        rw [eq_key kt kok]
        exact ite2 (fun e => ⟨_, rfl, hS1 e⟩) (fun e => hS2 (by simpa using e))
      obtain ⟨qs, eq1, pq⟩ := pick_row pr fun z => decide (z.1 = k)
      rw [eq1]
      refine ⟨Nat.zero_le _, fun m nm => ?_⟩
      have sD := same_new (o := .lst (qs.map V.ref)) nD
      have sm := same_new (o := .lst []) nm
      have pdf : PdA 2 (100 * (46 + 1)) ((ts.filter fun z => decide (z.1 = k)).map tmrD) := PdA.all (fun dd hd => by
        obtain ⟨t, ht, rfl⟩ := List.mem_map.mp hd
        exact tmr_pd (x8.ok.ok t (List.mem_filter.mp ht).1)) (by rw [List.length_map]; exact Nat.le_trans (List.length_filter_le _ _) (by omega))
      have sDm := sD.trans sm
      refine ⟨_, _, .lst (.inl (.inl (sm _ _ upd_same))) (tmrs_dp (Paired.mapP pq fun _ _ ⟨b', g1, g2⟩ => ⟨b', sDm _ _ g1, sDm _ _ g2⟩)), .lst (.inl (.inl upd_same)) .nil, (pdf.sz.lst).shaped (by decide), by decide +kernel, ?_⟩
      rw [eq_empty, there_is]
      have x10 := x8.same sDm
      have hk10 := sDm _ _ hk9
      clear pq pdf sD sm eq1 x8 hk9
      generalize upd (upd H9 D (.lst (qs.map V.ref))) m (.lst []) = H10 at *
      replace hR := sDm _ _ hR
      replace pr : Paired (TmrAt H10) ps ts := Paired.mapP pr fun _ _ ⟨b', g1, g2⟩ => ⟨b', sDm _ _ g1, sDm _ _ g2⟩
      clear sDm
      -- rest
      refine ⟨_, rfl, R, rfl, ⟨_, .inl (.inl hR)⟩, fun D2 nD2 => ?_⟩
      refine lc_pick (K := K) (a := R) (xs := ps.map V.ref) (ts := ts) (by rw [List.length_map]; exact lp) (fun z => decide (z.1 ≠ k)) (fun v _ => v) nD2 (.inl (.inl hR)) (by rw [List.length_map]; exact small5 (by omega)) ?_ ?_
      · rintro i y t H' S1 S2 hy ht s1 hS1 hS2
        rw [List.getElem?_map] at hy
        obtain ⟨a', ha', rfl⟩ : ∃ a', ps[i]? = some a' ∧ V.ref a' = y := by
          cases e : ps[i]? with
          | none => rw [e] at hy; cases hy
          | some a' => rw [e] at hy; exact ⟨a', rfl, Option.some.inj hy⟩
        obtain ⟨t', ht', b', g1, g2⟩ := paired_get pr ha'
        obtain rfl : t' = t := Option.some.inj (ht'.symm.trans ht)
        have kt := (x10.ok.ok t' (List.mem_of_getElem? ht)).1
        refine ⟨rfl, .ref a', rfl, a', _, _, .ref b', rfl, rfl, .inl (.inl (s1 _ _ g1)), atI_nat (j := 1) rfl, _, rfl, _, _, key_dp (s1 _ _ g2), key_dp (s1 _ _ hk10), (key_pd kt).sz.shaped (by decide), (key_pd kok).sz.shaped (by decide), _, rfl, ?_⟩
        rw [eq_key kt kok]
        exact ite2 (fun e => ⟨_, rfl, hS1 (by simpa using e)⟩) (fun e => hS2 (by simpa using e))
      obtain ⟨qs2, eq2, pq2⟩ := pick_row pr fun z => decide (z.1 ≠ k)
      rw [eq2]
      have sD2 := same_new (o := .lst (qs2.map V.ref)) nD2
      have row2 : RowO (upd H10 D2 (.lst (qs2.map V.ref))) D2 (dropT ts k) := ⟨qs2, upd_same, Paired.mapP pq2 fun _ _ ⟨b', g1, g2⟩ => ⟨b', sD2 _ _ g1, sD2 _ _ g2⟩⟩
      have x11 := x10.same sD2
      have hk11 := sD2 _ _ hk10
      clear pq2 sD2 eq2 x10 hk10 pr hR lp
      generalize upd H10 D2 (.lst (qs2.map V.ref)) = H11 at *
      -- the deed
      refine ⟨fun σ' H' => ∃ (y8 y9 y10 y11 y12 : Option V) (R' : Addr) (us : List Tmr), σ' = [some (.ref a), some (.ref b), some (.ref c), some (.ref R'), some (.int (0 + (j : Int))), some (.ref u), some (.bl (lookT ts k).isSome), some (.ref D2), y8, y9, y10, y11, y12] ∧ LT K CTimers TA H' b c d R' us (j + 1) ∧ H' u = some (.tup (k.map V.str)), ?_, ?_⟩
      · refine ⟨.ref b, rfl, b, 4, rfl, by decide, x11.box, fun r H12 r0 r1 d12 => ⟨rfl, _, rfl, ite2 (fun _ => ?_) (fun _ => ?_)⟩⟩
        · -- removed
          have row3 := row2.drew x11.box d12
          have hk12 := keep_drew hk11 x11.box d12
          have x12 := x11.drew d12
          obtain ⟨dx2, g1, g2⟩ := x12.tm
          refine ⟨_, rfl, _, rfl, c, dx2, _, rfl, g1, rfl, _, rfl, c, d, u, ts, k, rfl, ⟨dx2, g1, g2⟩, hk12, fun H13 t13 b13 f13 => ?_⟩
          refine ⟨_, rfl, _, _, _, _, rfl, .bl _, .bl _, shows_bool _, shows_bool _, true, by rw [decide_eq_true rfl], iteF ?_⟩
          have row4 : RowO H13 D2 (dropT ts k) := row3.but b13 g2 (fun xs z => by cases z) (by
            rintro rfl
            obtain ⟨ps', e, _⟩ := row3
            rw [g2] at e; cases e)
          exact ⟨_, _, _, _, _, D2, dropT ts k, rfl, x12.tms b13 t13 row4 ((x12.ok.drop k).mono (by omega)), b13 _ _ hk12 (by rintro rfl; rw [g2] at hk12; cases hk12)⟩
        · -- put
          have row3 := row2.drew x11.box d12
          have hk12 := keep_drew hk11 x11.box d12
          have x12 := x11.drew d12
          refine ⟨.ref b, rfl, b, 4, rfl, by decide, x12.box, fun e1 H13 e10 e11 d13 => ⟨.ref b, rfl, b, 1000, rfl, by decide, d13.box, fun e2 H14 e20 e21 d14 => ⟨by show 2 ≤ sizeLine; decide, fun N nN => ?_⟩⟩⟩
          have d24 := d13.trans d14
          have row4 := row3.drew x12.box d24
          have hk14 := keep_drew hk12 x12.box d24
          have x14 := x12.drew d24
          have sN := same_new (o := .lst [.int e1, .int e2]) nN
          have kN : (upd H14 N (.lst [.int e1, .int e2])) N = some (.lst [.int e1, .int e2]) := upd_same
          have bN : N ≠ b := x14.box.ne nN
          replace row4 := row4.same sN
          replace hk14 := sN _ _ hk14
          replace x14 := x14.same sN
          clear d13 d14 d24 nN sN x12 hk12 row3
          generalize upd H14 N (.lst [.int e1, .int e2]) = H15 at *
          refine ⟨.ref b, rfl, b, 2, rfl, by decide, x14.box, fun e3 H16 e30 e31 d16 => ?_⟩
          obtain ⟨v, hv, at_v⟩ := at_in (xs := [V.int e1, V.int e2]) e30 e31
          obtain ⟨due, rfl, due0, due1⟩ : ∃ due, v = .int due ∧ 0 ≤ due ∧ due < 1000 := by
            rcases List.mem_cons.mp hv with h | h
            · exact ⟨e1, h, by omega, by omega⟩
            · exact ⟨e2, List.mem_singleton.mp h, by omega, by omega⟩
          refine ⟨N, _, _, _, rfl, rfl, .inl (.inl (d16.keep N _ bN kN)), at_v, ?_⟩
          have row5 := row4.drew x14.box d16
          have hk16 := keep_drew hk14 x14.box d16
          have x16 := x14.drew d16
          clear row4 hk14 x14 d16 kN bN at_v hv
          obtain ⟨us5, r5, p5⟩ := row5
          have few5 := Paired.length p5
          have dl := drop_len ts k
          refine ⟨_, rfl, _, rfl, _, rfl, by show 2 ≤ sizeLine; decide, fun W nW => ⟨by show 1 ≤ sizeLine; decide, fun W2 nW2 => ?_⟩⟩
          have sW := same_new (o := .tup [.int due, .ref u]) nW
          have sW2 := same_new (o := .lst [.ref W]) nW2
          have sWW := sW.trans sW2
          refine ⟨D2, W2, _, _, rfl, rfl, sWW _ _ r5, upd_same, sizeLine_big (by rw [List.length_map]; show us5.length + 1 ≤ _; omega), fun R2 nR2 => ?_⟩
          have sR2 := same_new (o := .lst (us5.map V.ref ++ [.ref W])) nR2
          have row6 : RowO (upd (upd (upd H16 W (.tup [.int due, .ref u])) W2 (.lst [.ref W])) R2 (.lst (us5.map V.ref ++ [.ref W]))) R2 (dropT ts k ++ [(k, due)]) :=
            ⟨us5 ++ [W], by rw [upd_same, List.map_append]; rfl, Paired.snoc (Paired.mapP p5 fun _ _ ⟨b', g1, g2⟩ => ⟨b', sR2 _ _ (sWW _ _ g1), sR2 _ _ (sWW _ _ g2)⟩) ⟨u, sR2 _ _ (sW2 _ _ upd_same), sR2 _ _ (sWW _ _ hk16)⟩⟩
          have x17 := x16.same (sWW.trans sR2)
          have hk17 := (sWW.trans sR2) _ _ hk16
          clear x16 hk16 sR2 sWW sW sW2 nR2 nW2 nW p5 r5
          generalize upd (upd (upd H16 W (.tup [.int due, .ref u])) W2 (.lst [.ref W])) R2 (.lst (us5.map V.ref ++ [.ref W])) = H17 at *
          obtain ⟨dx2, g1, g2⟩ := x17.tm
          have fw := x17.ok.few
          refine ⟨_, rfl, c, dx2, _, rfl, g1, rfl, _, rfl, _, rfl, c, d, u, ts, k, due, rfl, ⟨dx2, g1, g2⟩, hk17, by omega, fun H18 t18 b18 f18 => ?_⟩
          refine ⟨rfl, _, rfl, iteF ?_⟩
          have row7 : RowO H18 R2 (dropT ts k ++ [(k, due)]) := row6.but b18 g2 (fun xs z => by cases z) (by
            rintro rfl
            obtain ⟨ps', e, _⟩ := row6
            rw [g2] at e; cases e)
          exact ⟨_, _, _, _, _, R2, dropT ts k ++ [(k, due)], rfl, x17.tms b18 t18 row7 (x17.ok.put ⟨kok, by show -999999999999 ≤ due; omega, by show due ≤ 999999999999; omega⟩), b18 _ _ hk17 (by rintro rfl; rw [g2] at hk17; cases hk17)⟩
      · clear x11 row2 hk11 few2
        rintro σ H12 ⟨y8', y9', y10', y11', y12', R', us', rfl, x12, hk12⟩
        have ok50 : TsOk us' 50 := x12.ok.mono (by omega)
        have few12 := ok50.few
        refine ⟨_, rfl, R', us', rfl, x12.rows, ok50, fun H13 r s13 kr => ?_⟩
        replace x12 := x12.same s13
        replace hk12 := s13 _ _ hk12
        clear s13
        obtain ⟨dx2, g1, g2⟩ := x12.tm
        refine ⟨_, rfl, c, dx2, _, rfl, g1, rfl, c, d, us', rfl, ⟨dx2, g1, g2⟩, by omega, x12.tab, fun H14 l e14 t14 ⟨vl, hl, dl⟩ => ?_⟩
        refine ⟨l, vl, rfl, .inl (.inl (.inl hl)), fun l2 nl2 => ?_⟩
        have x14 := x12.ext e14 t14
        have hk14 := e14 _ _ hk12 (fun ps z => by cases z)
        have kr14 := kr.ext e14
        have s15 := same_new (o := .lst vl) nl2
        have pk := keys_pd (fs := ordT us') (fun z hz => ok50.ok z (ord_mem.mp hz)) (by rw [ord_len]; omega)
        have shk : Shows (.list ((ordT us').map fun z => keyD z.1)) := ⟨pk.sz.lst.ok, pk.sz.lst.nd, Nat.le_trans pk.sz.lst.dep (by decide), pk.sz.lst.fits (by decide)⟩
        replace x14 := x14.same s15
        replace hk14 := s15 _ _ hk14
        replace kr14 := kr14.same s15
        have dkr : Dp K (upd H14 l2 (.lst vl)) (.ref r) (.list ((ordT us').map fun z => keyD z.1)) := by
          obtain ⟨bs, h1, pr1⟩ := kr14
          exact .lst (.inl (.inl h1)) (keys_dp pr1)
        refine ⟨_, rfl, _, _, _, _, rfl, .lst (.inl (.inl upd_same)) (pk.keep (Same.keepT s15) dl), dkr, shk, shk, true, by rw [decide_eq_true rfl], iteF ?_⟩
        clear dl hl s15 nl2 x12 hk12 kr e14 t14 g1 g2
        generalize upd H14 l2 (.lst vl) = H15 at *
        -- first
        refine ⟨fun σ' H' => ∃ v, σ' = [some (.ref a), some (.ref b), some (.ref c), some (.ref R'), some (.int (0 + (j : Int))), some (.ref u), some (.bl (lookT ts k).isSome), some (.ref D2), y8', some (.ref r), some v, y11', y12'] ∧ LT K CTimers TA H' b c d R' us' (j + 1) ∧ H' u = some (.tup (k.map V.str)) ∧ Dp K H' v (firstD us'), ?_, ?_⟩
        · obtain ⟨bs, hbs, pbs⟩ := kr14
          refine ⟨_, rfl, Nat.zero_le _, fun m nm => ?_⟩
          have sm := same_new (o := .lst []) nm
          refine ⟨_, _, .lst (.inl (.inl (sm _ _ hbs))) (pk.keep (Same.keepT sm) (keys_dp pbs)), .lst (.inl (.inl upd_same)) .nil, (pk.sz.lst).shaped (by decide), by decide +kernel, _, rfl, ?_⟩
          rw [eq_empty]
          replace x14 := x14.same sm
          replace hk14 := sm _ _ hk14
          replace hbs := sm _ _ hbs
          replace pbs := Paired.mapP pbs fun _ _ g => sm _ _ g
          clear sm nm dkr
          generalize upd H15 m (.lst []) = H16 at *
          cases eo : ordT us' with
          | nil =>
            refine iteF ⟨_, rfl, x14, hk14, ?_⟩
            unfold firstD
            rw [eo]
            exact .non
          | cons y rest =>
            refine iteT ?_
            rw [eo] at pbs
            obtain ⟨ps6, hR6, pr6⟩ := x14.rows
            have lp6 := Paired.length pr6
            refine ⟨_, rfl, R', rfl, ⟨_, .inl (.inl hR6)⟩, fun D3 nD3 => ?_⟩
            refine lc_pick (K := K) (a := R') (xs := ps6.map V.ref) (ts := us') (by rw [List.length_map]; exact lp6) (fun _ => true) (fun _ x => V.int x.2) nD3 (.inl (.inl hR6)) (by rw [List.length_map]; exact small5 (by omega)) ?_ ?_
            · rintro i y1 x1 H' S1 S2 hy hx s1 hS1 _
              rw [List.getElem?_map] at hy
              obtain ⟨a', ha', rfl⟩ : ∃ a', ps6[i]? = some a' ∧ V.ref a' = y1 := by
                cases e : ps6[i]? with
                | none => rw [e] at hy; cases hy
                | some a' => rw [e] at hy; exact ⟨a', rfl, Option.some.inj hy⟩
              obtain ⟨x2, hx2, b', g1, g2⟩ := paired_get pr6 ha'
              obtain rfl : x2 = x1 := Option.some.inj (hx2.symm.trans hx)
              refine ⟨rfl, yes (iteT ?_)⟩
              exact ⟨.ref a', rfl, a', _, _, .int x2.2, rfl, rfl, .inl (.inl (s1 _ _ g1)), atI_nat (j := 0) rfl, hS1 rfl⟩
            have ev : (((ps6.map V.ref).zip us').filter fun _ => true).map (fun z => V.int z.2.2) = (us'.map (·.2)).map V.int := by
              rw [List.filter_eq_self.mpr (fun _ _ => rfl), List.map_map, show (fun z : V × Tmr => V.int z.2.2) = ((V.int ∘ fun x : Tmr => x.2) ∘ Prod.snd) from rfl, ← List.map_map, List.map_snd_zip (by rw [List.length_map]; omega)]
            rw [ev]
            have s17 := same_new (o := .lst ((us'.map (·.2)).map V.int)) nD3
            have ym : y ∈ us' := ord_mem.mp (by rw [eo]; exact List.mem_cons_self)
            refine ⟨D3, us'.map (·.2), rfl, .inl (.inl upd_same), by rw [List.length_map]; exact List.length_pos_of_mem ym, fun mm hm hmin => ?_⟩
            have ey : mm = y.2 := by
              obtain ⟨y', hy', rfl⟩ := List.mem_map.mp hm
              refine Int.le_antisymm (hmin _ (List.mem_map.mpr ⟨y, ym, rfl⟩)) ?_
              have hm' := ord_mem.mpr hy'
              have so := ord_sorted us'
              rw [eo] at hm' so
              rcases List.mem_cons.mp hm' with e | e
              · rw [e]; exact Int.le_refl _
              · exact (List.pairwise_cons.mp so).1 _ e
            subst ey
            cases pbs with
            | @cons b0 _ bs' _ hb0 _ =>
              refine ⟨.ref r, rfl, r, _, _, .ref b0, rfl, rfl, .inl (.inl (s17 _ _ hbs)), atI_nat (j := 0) rfl, by show 2 ≤ sizeLine; decide, fun W nW => ?_⟩
              have sW := s17.trans (same_new (o := .tup [.int y.2, .ref b0]) nW)
              refine ⟨_, rfl, x14.same sW, sW _ _ hk14, ?_⟩
              unfold firstD
              rw [eo]
              exact tmr_dp ⟨b0, upd_same, sW _ _ hb0⟩
        · clear x14 hk14 kr14 pk shk dkr
          rintro σ H16 ⟨v, rfl, x16, hk16, dv⟩
          obtain ⟨dx2, g1, g2⟩ := x16.tm
          refine ⟨_, rfl, c, dx2, _, rfl, g1, rfl, c, d, us', rfl, ⟨dx2, g1, g2⟩, by omega, ok50.ok, x16.tab, fun H17 v2 e17 t17 dv2 => ?_⟩
          have x17 := x16.ext e17 t17
          have hk17 := e17 _ _ hk16 (fun ps z => by cases z)
          have pf := first_pd ok50.ok
          have shf : Shows (firstD us') := Shows.of' pf.sz
          refine ⟨_, rfl, _, _, _, _, rfl, dv2, pf.keep (ext_keepT e17) dv, shf, shf, true, by rw [decide_eq_true rfl], iteF ?_⟩
          clear x16 hk16 dv dv2 e17 t17 g1 g2
          -- found
          obtain ⟨ps6, hR6, pr6⟩ := x17.rows
          have lp6 := Paired.length pr6
          refine ⟨_, rfl, R', rfl, ⟨_, .inl (.inl hR6)⟩, fun D3 nD3 => ?_⟩
          refine lc_pick (K := K) (a := R') (xs := ps6.map V.ref) (ts := us') (by rw [List.length_map]; exact lp6) (fun z => decide (z.1 = k)) (fun _ x => V.int x.2) nD3 (.inl (.inl hR6)) (by rw [List.length_map]; exact small5 (by omega)) ?_ ?_
          · rintro i y t H' S1 S2 hy ht s1 hS1 hS2
            rw [List.getElem?_map] at hy
            obtain ⟨a', ha', rfl⟩ : ∃ a', ps6[i]? = some a' ∧ V.ref a' = y := by
              cases e : ps6[i]? with
              | none => rw [e] at hy; cases hy
              | some a' => rw [e] at hy; exact ⟨a', rfl, Option.some.inj hy⟩
            obtain ⟨t', ht', b', g1, g2⟩ := paired_get pr6 ha'
            obtain rfl : t' = t := Option.some.inj (ht'.symm.trans ht)
            have kt := (ok50.ok t' (List.mem_of_getElem? ht)).1
            refine ⟨rfl, .ref a', rfl, a', _, _, .ref b', rfl, rfl, .inl (.inl (s1 _ _ g1)), atI_nat (j := 1) rfl, _, rfl, _, _, key_dp (s1 _ _ g2), key_dp (s1 _ _ hk17), (key_pd kt).sz.shaped (by decide), (key_pd kok).sz.shaped (by decide), _, rfl, ?_⟩
            rw [eq_key kt kok]
            exact ite2 (fun e => ⟨.ref a', rfl, a', _, _, .int t'.2, rfl, rfl, .inl (.inl (s1 _ _ g1)), atI_nat (j := 0) rfl, hS1 e⟩) (fun e => hS2 (by simpa using e))
          rw [pick_due (fun z => decide (z.1 = k)) (xs := ps6.map V.ref) (ts := us') (by rw [List.length_map]; exact lp6)]
          have s18 := same_new (o := .lst (((us'.filter fun z => decide (z.1 = k)).map (·.2)).map V.int)) nD3
          have hD3 : (upd H17 D3 (.lst (((us'.filter fun z => decide (z.1 = k)).map (·.2)).map V.int))) D3 = some (.lst (((us'.filter fun z => decide (z.1 = k)).map (·.2)).map V.int)) := upd_same
          replace x17 := x17.same s18
          replace hk17 := s18 _ _ hk17
          clear s18 nD3 hR6 pr6 lp6
          generalize upd H17 D3 (.lst (((us'.filter fun z => decide (z.1 = k)).map (·.2)).map V.int)) = H18 at *
          obtain ⟨dx3, g1, g2⟩ := x17.tm
          refine ⟨_, rfl, c, dx3, _, rfl, g1, rfl, _, rfl, c, d, u, us', k, rfl, ⟨dx3, g1, g2⟩, hk17, ?_⟩
          refine ⟨by show 1 ≤ sizeLine; decide, fun N nN => ?_⟩
          have sN := same_new (o := .lst [.non]) nN
          have f1 := found_one x17.ok.nd k
          have flen : (us'.filter fun z => decide (z.1 = k)).length ≤ 1 := by
            rcases f1 with ⟨e, _⟩ | ⟨x1, e, _⟩ <;> rw [e] <;> simp
          refine ⟨_, rfl, N, D3, _, _, rfl, rfl, upd_same, sN _ _ hD3, sizeLine_big (by rw [List.length_map, List.length_map]; show 1 + _ ≤ _; omega), fun M nM => ?_⟩
          have sM := same_new (o := .lst ([V.non] ++ ((us'.filter fun z => decide (z.1 = k)).map (·.2)).map V.int)) nM
          have sA := sN.trans sM
          refine ⟨_, rfl, D3, _, rfl, .inl (.inl (.inl (sA _ _ hD3))), ?_⟩
          have x20 := x17.same sA
          rcases f1 with ⟨e1, e2⟩ | ⟨x1, e1, e2⟩
          · rw [e1] at x20 ⊢
            rw [e2]
            have hM : (upd (upd H18 N (.lst [.non])) M (.lst ([V.non] ++ (([] : List Tmr).map (·.2)).map V.int))) M = some (.lst [.non]) := upd_same
            refine ⟨M, _, _, .non, rfl, rfl, .inl (.inl hM), atI_nat (j := 0) rfl, ?_⟩
            refine ⟨_, _, _, _, rfl, .non, .non, Shows.of' Pd.none.sz, Shows.of' Pd.none.sz, true, by rw [decide_eq_true rfl], iteF ?_⟩
            exact ⟨_, _, _, _, _, _, _, _, _, R', us', rfl, x20⟩
          · rw [e1] at x20 ⊢
            rw [e2]
            have hM : (upd (upd H18 N (.lst [.non])) M (.lst ([V.non] ++ (([x1] : List Tmr).map (·.2)).map V.int))) M = some (.lst [.non, .int x1.2]) := upd_same
            have x1m : x1 ∈ us' := (List.mem_filter.mp (by rw [e1]; exact List.mem_singleton.mpr rfl : x1 ∈ us'.filter fun z => decide (z.1 = k))).1
            have x1o := ok50.ok x1 x1m
            refine ⟨M, _, _, .int x1.2, rfl, rfl, .inl (.inl hM), atI_nat (j := 1) rfl, ?_⟩
            have sh := shows_int x1o.2.1 x1o.2.2
            refine ⟨_, _, _, _, rfl, .int _, .int _, sh, sh, true, by rw [decide_eq_true rfl], iteF ?_⟩
            exact ⟨_, _, _, _, _, _, _, _, _, R', us', rfl, x20⟩
    · rintro σ H7 _
      exact q H7
end
end K31

namespace K31
open PySem PySem.Spec PyProof.Rows L2 Pg
/-! what the top has written -/
theorem all_mk {l : PySem.W.OpenLaw} {w : World} {K : PySem.W.Frag} {h : Heap} {mg : Str → Option Value} {fa f0 f1 f2 f3 f4 f5 f6 f7 f8 f9 f10 f11 f12 CTimers cA TA : Addr} (X : K.In h) (G : h.Ns mainGlobals mg) (hfa : mg "law" = some (.ref fa))
    {od0 an0 od1 an1 od2 an2 od3 an3 od4 an4 od5 an5 od6 an6 od7 an7 od8 an8 od9 an9 od10 an10 od11 an11 od12 an12 : Option Addr} {sl0 sl1 sl2 sl3 sl4 sl5 sl6 sl7 sl8 sl9 sl10 sl11 sl12 : Array (Option Value)} {oc0 kV0 dc0 pm0 ct0 oc1 kV1 dc1 pm1 cd1 ct1 oc2 kV2 dc2 pm2 cd2 ct2 oc3 kV3 dc3 pm3 cd3 ct3 oc4 kV4 dc4 pm4 cd4 ct4 oc5 kV5 dc5 pm5 cd5 ct5 oc6 kV6 dc6 pm6 cd6 ct6 oc7 kV7 dc7 pm7 cd7 ct7 oc8 kV8 dc8 pm8 cd8 ct8 oc9 kV9 dc9 pm9 cd9 ct9 oc10 kV10 dc10 pm10 cd10 ct10 oc11 kV11 dc11 pm11 cd11 ct11 oc12 kV12 dc12 pm12 cd12 ct12 : Value}
    (a0 : PySem.W.findIn K (.ref CTimers) "_in_order" = some (some (.ref f0))) (i0 : PySem.W.isFn K (.ref f0) = true) (l0 : K.lookup f0 = some ⟨oc0, od0, .func (PySem.W.fnOf "_in_order" "Timers._in_order" (defArgs s_Timers_in_order) (defBody s_Timers_in_order) (defScope s_Timers_in_order) .none kV0 dc0 pm0 an0 (Value.ref cA) ct0), sl0⟩)
      (c0 : PySem.W.codeIn K (Value.ref cA) "Timers._in_order" = true) (k0 : PySem.W.keepIn K (.ref f0) = true)
    (a1 : PySem.W.findIn K (.ref CTimers) "__init__" = some (some (.ref f1))) (i1 : PySem.W.isFn K (.ref f1) = true) (l1 : K.lookup f1 = some ⟨oc1, od1, .func (PySem.W.fnOf "__init__" "Timers.__init__" (defArgs s_Timers_init) (defBody s_Timers_init) (defScope s_Timers_init) .none kV1 dc1 pm1 an1 cd1 ct1), sl1⟩)
      (c1 : PySem.W.codeIn K cd1 "Timers.__init__" = true) (k1 : PySem.W.keepIn K (.ref f1) = true)
    (a2 : PySem.W.findIn K (.ref CTimers) "remove" = some (some (.ref f2))) (i2 : PySem.W.isFn K (.ref f2) = true) (l2 : K.lookup f2 = some ⟨oc2, od2, .func (PySem.W.fnOf "remove" "Timers.remove" (defArgs s_Timers_remove) (defBody s_Timers_remove) (defScope s_Timers_remove) .none kV2 dc2 pm2 an2 cd2 ct2), sl2⟩)
      (c2 : PySem.W.codeIn K cd2 "Timers.remove" = true) (k2 : PySem.W.keepIn K (.ref f2) = true)
    (a3 : PySem.W.findIn K (.ref CTimers) "put" = some (some (.ref f3))) (i3 : PySem.W.isFn K (.ref f3) = true) (l3 : K.lookup f3 = some ⟨oc3, od3, .func (PySem.W.fnOf "put" "Timers.put" (defArgs s_Timers_put) (defBody s_Timers_put) (defScope s_Timers_put) .none kV3 dc3 pm3 an3 cd3 ct3), sl3⟩)
      (c3 : PySem.W.codeIn K cd3 "Timers.put" = true) (k3 : PySem.W.keepIn K (.ref f3) = true)
    (a4 : PySem.W.findIn K (.ref CTimers) "due" = some (some (.ref f4))) (i4 : PySem.W.isFn K (.ref f4) = true) (l4 : K.lookup f4 = some ⟨oc4, od4, .func (PySem.W.fnOf "due" "Timers.due" (defArgs s_Timers_due) (defBody s_Timers_due) (defScope s_Timers_due) .none kV4 dc4 pm4 an4 cd4 ct4), sl4⟩)
      (c4 : PySem.W.codeIn K cd4 "Timers.due" = true) (k4 : PySem.W.keepIn K (.ref f4) = true)
    (a5 : PySem.W.findIn K (.ref CTimers) "first" = some (some (.ref f5))) (i5 : PySem.W.isFn K (.ref f5) = true) (l5 : K.lookup f5 = some ⟨oc5, od5, .func (PySem.W.fnOf "first" "Timers.first" (defArgs s_Timers_first) (defBody s_Timers_first) (defScope s_Timers_first) .none kV5 dc5 pm5 an5 cd5 ct5), sl5⟩)
      (c5 : PySem.W.codeIn K cd5 "Timers.first" = true) (k5 : PySem.W.keepIn K (.ref f5) = true)
    (a6 : PySem.W.findIn K (.ref CTimers) "keys" = some (some (.ref f6))) (i6 : PySem.W.isFn K (.ref f6) = true) (l6 : K.lookup f6 = some ⟨oc6, od6, .func (PySem.W.fnOf "keys" "Timers.keys" (defArgs s_Timers_keys) (defBody s_Timers_keys) (defScope s_Timers_keys) .none kV6 dc6 pm6 an6 cd6 ct6), sl6⟩)
      (c6 : PySem.W.codeIn K cd6 "Timers.keys" = true) (k6 : PySem.W.keepIn K (.ref f6) = true)
    (a7 : PySem.W.nsIn K mainGlobals "_law_cell" = some (some (.ref f7))) (l7 : K.lookup f7 = some ⟨oc7, od7, .func (PySem.W.fnOf "_law_cell" "_law_cell" (defArgs s_law_cell) (defBody s_law_cell) (defScope s_law_cell) .none kV7 dc7 pm7 an7 cd7 ct7), sl7⟩)
      (c7 : PySem.W.codeIn K cd7 "_law_cell" = true) (k7 : PySem.W.keepIn K (.ref f7) = true)
    (a8 : PySem.W.nsIn K mainGlobals "_law_digits" = some (some (.ref f8))) (l8 : K.lookup f8 = some ⟨oc8, od8, .func (PySem.W.fnOf "_law_digits" "_law_digits" (defArgs s_law_digits) (defBody s_law_digits) (defScope s_law_digits) .none kV8 dc8 pm8 an8 cd8 ct8), sl8⟩)
      (c8 : PySem.W.codeIn K cd8 "_law_digits" = true) (k8 : PySem.W.keepIn K (.ref f8) = true)
    (a9 : PySem.W.nsIn K mainGlobals "_law_draw" = some (some (.ref f9))) (l9 : K.lookup f9 = some ⟨oc9, od9, .func (PySem.W.fnOf "_law_draw" "_law_draw" (defArgs s_law_draw) (defBody s_law_draw) (defScope s_law_draw) .none kV9 dc9 pm9 an9 cd9 ct9), sl9⟩)
      (c9 : PySem.W.codeIn K cd9 "_law_draw" = true) (k9 : PySem.W.keepIn K (.ref f9) = true)
    (a10 : PySem.W.nsIn K mainGlobals "_law_alike" = some (some (.ref f10))) (l10 : K.lookup f10 = some ⟨oc10, od10, .func (PySem.W.fnOf "_law_alike" "_law_alike" (defArgs s_law_alike) (defBody s_law_alike) (defScope s_law_alike) .none kV10 dc10 pm10 an10 cd10 ct10), sl10⟩)
      (c10 : PySem.W.codeIn K cd10 "_law_alike" = true) (k10 : PySem.W.keepIn K (.ref f10) = true)
    (a11 : PySem.W.nsIn K mainGlobals "_law_rows_in_order" = some (some (.ref f11))) (l11 : K.lookup f11 = some ⟨oc11, od11, .func (PySem.W.fnOf "_law_rows_in_order" "_law_rows_in_order" (defArgs s_law_rows_in_order) (defBody s_law_rows_in_order) (defScope s_law_rows_in_order) .none kV11 dc11 pm11 an11 cd11 ct11), sl11⟩)
      (c11 : PySem.W.codeIn K cd11 "_law_rows_in_order" = true) (k11 : PySem.W.keepIn K (.ref f11) = true)
    (a12 : PySem.W.nsIn K mainGlobals "law" = some (some (.ref f12))) (l12 : K.lookup f12 = some ⟨oc12, od12, .func (PySem.W.fnOf "law" "law" (defArgs s_law) (defBody s_law) (defScope s_law) .none kV12 dc12 pm12 an12 cd12 ct12), sl12⟩)
      (c12 : PySem.W.codeIn K cd12 "law" = true) (k12 : PySem.W.keepIn K (.ref f12) = true)
    (qTimers0 : PySem.W.nsIn K mainGlobals "Timers" = some (some (.ref CTimers))) (qTimers1 : PySem.W.plainGet K CTimers Str.empty = true) (qTimers2 : PySem.W.hasDictIn K CTimers = true) (qTimers3 : PySem.W.plainOver K CTimers = true) (qTimers4 : PySem.W.findIn K (.ref CTimers) "__setattr__" = some (some (.builtin "object.__setattr__"))) (qTimers5 : PySem.W.makesIn K CTimers = true) (qTimers6 : PySem.W.keepIn K (.ref CTimers) = true)
    (pTimers0 : PySem.W.findIn K (.ref CTimers) "_dues" = some none)
    (z0 : PySem.W.nsIn K mainGlobals "len" = some none)
    (z1 : PySem.W.nsIn K mainGlobals "range" = some none)
    (z2 : PySem.W.nsIn K mainGlobals "int" = some none)
    (z3 : PySem.W.nsIn K mainGlobals "repr" = some none)
    (z4 : PySem.W.nsIn K mainGlobals "list" = some none)
    (z5 : PySem.W.nsIn K mainGlobals "sorted" = some none)
    (z6 : PySem.W.nsIn K mainGlobals "min" = some none) :
    ∃ fd : FuncData, (∀ (s : Shared) (v : Value), BindsTo s fd ⟨[v], []⟩ [("script", v)]) ∧ ∀ base : Heap, K.In base → base.Ns mainGlobals mg → LamX.TabB base mg cA TA → FnG l.prog w K mg base 5 fa fd ["script"] (spLaw TA K) := by
  obtain rfl : fa = f12 := by
    have e := hfa.symm.trans (PySem.W.mg_of X G a12)
    cases e
    rfl
  have z : Z mg := ⟨PySem.W.mg_none_of X G z0, PySem.W.mg_none_of X G z1, PySem.W.mg_none_of X G z2, PySem.W.mg_none_of X G z3, PySem.W.mg_none_of X G z4, PySem.W.mg_none_of X G z5, PySem.W.mg_none_of X G z6⟩
  have tTimers : T_Timers K mg CTimers := ⟨⟨qTimers1, qTimers2, qTimers3, qTimers4⟩, PySem.W.mg_of X G qTimers0, pTimers0⟩
  have F0 := funC_mk (st := s_Timers_in_order) l0 c0 k0
  have b0 := F0.plain.binds (ps := ["self"]) fun _ _ _ _ _ _ us hl => match us, hl with | [_], _ => rfl
  have F1 := fun_mk (st := s_Timers_init) l1 c1 k1
  have b1 := F1.binds (ps := ["self"]) fun _ _ _ _ _ _ us hl => match us, hl with | [_], _ => rfl
  have F2 := fun_mk (st := s_Timers_remove) l2 c2 k2
  have b2 := F2.binds (ps := ["self", "key"]) fun _ _ _ _ _ _ us hl => match us, hl with | [_, _], _ => rfl
  have F3 := fun_mk (st := s_Timers_put) l3 c3 k3
  have b3 := F3.binds (ps := ["self", "key", "due"]) fun _ _ _ _ _ _ us hl => match us, hl with | [_, _, _], _ => rfl
  have F4 := fun_mk (st := s_Timers_due) l4 c4 k4
  have b4 := F4.binds (ps := ["self", "key"]) fun _ _ _ _ _ _ us hl => match us, hl with | [_, _], _ => rfl
  have F5 := fun_mk (st := s_Timers_first) l5 c5 k5
  have b5 := F5.binds (ps := ["self"]) fun _ _ _ _ _ _ us hl => match us, hl with | [_], _ => rfl
  have F6 := fun_mk (st := s_Timers_keys) l6 c6 k6
  have b6 := F6.binds (ps := ["self"]) fun _ _ _ _ _ _ us hl => match us, hl with | [_], _ => rfl
  have F7 := fun_mk (st := s_law_cell) l7 c7 k7
  have b7 := F7.binds (ps := ["script", "k"]) fun _ _ _ _ _ _ us hl => match us, hl with | [_, _], _ => rfl
  have F8 := fun_mk (st := s_law_digits) l8 c8 k8
  have b8 := F8.binds (ps := ["script", "first", "last"]) fun _ _ _ _ _ _ us hl => match us, hl with | [_, _, _], _ => rfl
  have F9 := fun_mk (st := s_law_draw) l9 c9 k9
  have b9 := F9.binds (ps := ["box", "many"]) fun _ _ _ _ _ _ us hl => match us, hl with | [_, _], _ => rfl
  have F10 := fun_mk (st := s_law_alike) l10 c10 k10
  have b10 := F10.binds (ps := ["one", "two"]) fun _ _ _ _ _ _ us hl => match us, hl with | [_, _], _ => rfl
  have F11 := fun_mk (st := s_law_rows_in_order) l11 c11 k11
  have b11 := F11.binds (ps := ["rows"]) fun _ _ _ _ _ _ us hl => match us, hl with | [_], _ => rfl
  have F12 := fun_mk (st := s_law) l12 c12 k12
  refine ⟨PySem.W.fnOf "law" "law" (defArgs s_law) (defBody s_law) (defScope s_law) .none kV12 dc12 pm12 an12 cd12 ct12, fun s v => .of_eq rfl, fun base _ _ TB => ?_⟩
  have C_Timers_in_order : CalM l.prog w K mg base CTimers "_in_order" 2 ["self"] (spTOrd K CTimers TA) := ⟨tTimers.cl, f0, _, ok_Timers_in_order F0 z TB tTimers, b0, ⟨a0, i0, k0⟩⟩
  have C_Timers : CalK l.prog w K mg base "Timers" CTimers 1 ["self"] (spTInit K CTimers) := ⟨PySem.W.mg_of X G qTimers0, f1, _, ⟨qTimers5, a1, i1, qTimers6⟩, ok_Timers_init F1 z tTimers, b1⟩
  have C_Timers_remove : CalM l.prog w K mg base CTimers "remove" 1 ["self", "key"] (spTRemove K CTimers) := ⟨tTimers.cl, f2, _, ok_Timers_remove F2 z tTimers, b2, ⟨a2, i2, k2⟩⟩
  have C_Timers_put : CalM l.prog w K mg base CTimers "put" 2 ["self", "key", "due"] (spTPut K CTimers) := ⟨tTimers.cl, f3, _, ok_Timers_put F3 z tTimers C_Timers_remove, b3, ⟨a3, i3, k3⟩⟩
  have C_Timers_due : CalM l.prog w K mg base CTimers "due" 1 ["self", "key"] (spTDue K CTimers) := ⟨tTimers.cl, f4, _, ok_Timers_due F4 z tTimers, b4, ⟨a4, i4, k4⟩⟩
  have C_Timers_first : CalM l.prog w K mg base CTimers "first" 3 ["self"] (spTFirst K CTimers TA) := ⟨tTimers.cl, f5, _, ok_Timers_first F5 z tTimers C_Timers_in_order, b5, ⟨a5, i5, k5⟩⟩
  have C_Timers_keys : CalM l.prog w K mg base CTimers "keys" 3 ["self"] (spTKeys K CTimers TA) := ⟨tTimers.cl, f6, _, ok_Timers_keys F6 z tTimers C_Timers_in_order, b6, ⟨a6, i6, k6⟩⟩
  have C_law_cell : Cal l.prog w K mg base "_law_cell" 1 ["script", "k"] (spCell K) := ⟨f7, _, ok_law_cell F7 z , b7, PySem.W.mg_of X G a7, k7⟩
  have C_law_digits : Cal l.prog w K mg base "_law_digits" 2 ["script", "first", "last"] (spDigits K) := ⟨f8, _, ok_law_digits F8 z C_law_cell, b8, PySem.W.mg_of X G a8, k8⟩
  have C_law_draw : Cal l.prog w K mg base "_law_draw" 1 ["box", "many"] spDraw := ⟨f9, _, ok_law_draw F9 z , b9, PySem.W.mg_of X G a9, k9⟩
  have C_law_alike : CalG l.prog w K mg base "_law_alike" 1 ["one", "two"] (spAlike K) := ⟨f10, _, ok_law_alike F10 z , b10, PySem.W.mg_of X G a10, k10⟩
  have C_law_rows_in_order : Cal l.prog w K mg base "_law_rows_in_order" 1 ["rows"] (spRowsO K) := ⟨f11, _, ok_law_rows_in_order F11 z , b11, PySem.W.mg_of X G a11, k11⟩
  exact ok_law F12 z C_law_digits C_law_draw C_law_alike C_law_rows_in_order C_Timers C_Timers_remove C_Timers_put C_Timers_due C_Timers_first C_Timers_keys
end K31
open PySem PySem.W PyProof.Rows
set_option maxRecDepth 100000 in
set_option maxHeartbeats 0 in
theorem PySem.Challenge.cw_pagesatonce_k31_timers_in_order_holds : PySem.Challenge.rw_pagesatonce_k31_timers_in_order.Holds := by
  w_on; o_law; km_head; (case hw => w_witness2)
  k_fill
  refine Pg.walkGT (l := PySem.Challenge.rw_pagesatonce_k31_timers_in_order) (n := 63) (k := 5) (x := "script") (sp := K31.spLaw) rfl (by decide) rfl ⟨rfl, by decide, by decide⟩ (fun w h Y => PySem.W.km_in_of Y) ?F (fun T K H a ns hl hT hS => ⟨a, ns, rfl, hT, hS, hl, fun _ => rfl⟩)
  case F =>
    intro w mg fa h Y KX G hmg
    refine' Pg.tab_mk ?h1 ?h2 ?h3 (K31.all_mk KX G hmg ?a0 ?i0 ?l0 ?c0 ?k0 ?a1 ?i1 ?l1 ?c1 ?k1 ?a2 ?i2 ?l2 ?c2 ?k2 ?a3 ?i3 ?l3 ?c3 ?k3 ?a4 ?i4 ?l4 ?c4 ?k4 ?a5 ?i5 ?l5 ?c5 ?k5 ?a6 ?i6 ?l6 ?c6 ?k6 ?a7 ?l7 ?c7 ?k7 ?a8 ?l8 ?c8 ?k8 ?a9 ?l9 ?c9 ?k9 ?a10 ?l10 ?c10 ?k10 ?a11 ?l11 ?c11 ?k11 ?a12 ?l12 ?c12 ?k12 ?qTimers0 ?qTimers1 ?qTimers2 ?qTimers3 ?qTimers4 ?qTimers5 ?qTimers6 ?pTimers0 ?z0 ?z1 ?z2 ?z3 ?z4 ?z5 ?z6)
    (case qTimers0 => k_is); (case qTimers1 => k_is); (case qTimers2 => k_is); (case qTimers3 => k_is); (case qTimers4 => k_is); (case qTimers5 => k_is)
    (case qTimers6 => k_is); (case pTimers0 => k_is); (case a0 => k_is); (case i0 => k_is); (case l0 => k_is); (case c0 => k_is)
    (case k0 => k_is); (case a1 => k_is); (case i1 => k_is); (case l1 => k_is); (case c1 => k_is); (case k1 => k_is)
    (case a2 => k_is); (case i2 => k_is); (case l2 => k_is); (case c2 => k_is); (case k2 => k_is); (case a3 => k_is)
    (case i3 => k_is); (case l3 => k_is); (case c3 => k_is); (case k3 => k_is); (case a4 => k_is); (case i4 => k_is)
    (case l4 => k_is); (case c4 => k_is); (case k4 => k_is); (case a5 => k_is); (case i5 => k_is); (case l5 => k_is)
    (case c5 => k_is); (case k5 => k_is); (case a6 => k_is); (case i6 => k_is); (case l6 => k_is); (case c6 => k_is)
    (case k6 => k_is); (case a7 => k_is); (case l7 => k_is); (case c7 => k_is); (case k7 => k_is); (case a8 => k_is)
    (case l8 => k_is); (case c8 => k_is); (case k8 => k_is); (case a9 => k_is); (case l9 => k_is); (case c9 => k_is)
    (case k9 => k_is); (case a10 => k_is); (case l10 => k_is); (case c10 => k_is); (case k10 => k_is); (case a11 => k_is)
    (case l11 => k_is); (case c11 => k_is); (case k11 => k_is); (case a12 => k_is); (case l12 => k_is); (case c12 => k_is)
    (case k12 => k_is); (case z0 => k_is); (case z1 => k_is); (case z2 => k_is); (case z3 => k_is); (case z4 => k_is)
    (case z5 => k_is); (case z6 => k_is)
    (case h1 => exact PySem.W.km_tabs_of Y _ (List.mem_singleton.mpr rfl))
    (case h2 => rfl)
    (case h3 => exact PySem.W.codeHd_of_K KX (by kernel_rfl))

