import PyProof.Rows.All
import Wide.All
import OpenK.AllK
import Wide.FinOn
import PyProof.ReprRoads
import HandS.ForMost
import HandS.Strs
import HandS.StrMore
import HandS.TupAny
import HandS.RaiseMore
import HandS.Codes
import HandS.SetFor
import KE.KDictWalk
import PyProof.Rows.SortShellAny
import HandS.Style
import HandS.ForExc
import HandS.FStr
import HandS.ExcInit
import KE.KExcSuper
import PyProof.FString
import HandS.DictComp
import HandS.TryOnly
import HandS.IsInst
import HandS.Zip
import HandS.Rev
import HandS.ExcIs
import HandS.Lambda
import HandS.SortKw
import HandS.DictTup
import KE.SortKeyHeap
import KE.KNestM
import KE.SortData
import HandS.Deep
import KE.KDictPairs
import HandS.TupLe
import HandS.Set
import HandS.SetBool
import PyProof.Rows.ReprShort
import PyProof.ReprBulk
import PySem.Challenge.RW_pagesatonce_k61_mirrors_show_complete_ve
set_option Elab.async false
set_option linter.all false
set_option maxRecDepth 100000
set_option maxHeartbeats 4000000
/-! Promises of defs that are called while no repr is under way (for repr of lists and tuples). -/
namespace Pg
open PySem PySem.Spec PyProof.Rows L2

section
variable {P : Program} {w : World} {K : PySem.W.Frag} {mg : Str → Option Value} {base : Heap}

/-- the promise of a def that is only called where no repr runs -/
structure FnG (P : Program) (w : World) (K : PySem.W.Frag) (mg : Str → Option Value) (base : Heap) (k : Nat) (f : Addr) (fd : FuncData) (ps : List Str) (sp : Sp) : Prop where
  few : ∀ vs H Q E, sp vs H Q E → vs.length = ps.length
  go : ∀ (A : Around) (fr : List Env) (s : Shared) (H : Hp) (gs : Args) (us : List Value) (vs : List V) (Q : VK), A.guards = some [] → Room k A → Env0 P w K mg base A fr s H →
    BindsTo s fd gs (ps.zip us) → Vals vs us → sp vs H Q E0 → codeAny (model P w) A (.call (.ref f) gs) (CR CX0 fr P w H s Q E0) s

/-- an ordinary promise serves there too -/
theorem FnG.of {k : Nat} {f : Addr} {fd : FuncData} {ps : List Str} {sp : Sp} (F : FnOk P w K mg base CX0 k f fd ps sp) : FnG P w K mg base k f fd ps sp :=
  ⟨F.len, fun A fr s H gs us vs Q _ hr e b r h => F.run A fr s H gs us vs Q E0 hr e b r h⟩

theorem FnG.mk' {x qual : Str} {st : Stmt} {f : Addr} {fd : FuncData} {N ps : List Str} {k : Nat} {sp : Sp} (D : Fun K x qual st f fd) (S : FnScope N ps (defScope st)) (few : ∀ vs H Q E, sp vs H Q E → vs.length = ps.length)
    (body : ∀ (cd : Value) (A : Around) (fr : List Env) (s : Shared) (H : Hp) (vs : List V) (Q : VK), A.guards = some [] → Room k (A.deeper (envOfC qual (defScope st) s.heap.objs.size f cd)) → sp vs H Q E0 →
      ∃ t, PSs (cxOf CX0 P w K mg base N qual (defScope st) f cd A fr s H E0).nox (defBody st) t ∧ t { nx := fun _ H' => Q .non H', rt := Q } (start N vs) H) : FnG P w K mg base (k + 1) f fd ps sp := by
  obtain ⟨_, _, _, _, _, _, cd, _, _, rfl, at_f, rec_ok⟩ := D.ex
  constructor
  · exact few
  intro A fr s H gs us vs Q hg hr e b r h
  have inK : K.In s.heap := e.mod.kin.keeps (fun c o q => (e.bs c o q).left)
  have nl : s.heap.NoLimit := e.mod.nolimit.keeps (fun c o q => (e.bs c o q).left)
  have kinds : ∀ y ∈ ps.zip us, (defScope st).names.lookup y.1 = some .local ∨
      ((defScope st).names.lookup y.1 = some .cell ∧ ((cellsFrom (s.heap.objs.size + 1) (defScope st).names []).lookup y.1).isSome = true) := by
    intro y hy
    obtain ⟨y1, y2⟩ := y
    cases S.par y1 (List.of_mem_zip hy).left with
    | inl q => left; exact q
    | inr q => right; exact ⟨q, PySem.W.cellsFrom_some _ _ _ (Or.inl q)⟩
  apply codeAny_call_function hr.depth (inK _ _ at_f) rfl S.co S.gen rfl (PySem.W.codeRec_of inK rec_ok)
  apply b
  apply wpAny_newFunctionEnv_cells S.kind kinds
  intro env he s1 x
  subst he
  refine And.intro (nl.keeps x.toInCall.keep) (codeAny_func ?_)
  obtain ⟨t, ht, q⟩ := body cd A fr s H vs Q hg (hr.deeper _) h
  have J0 := inv_start (E := E0) (CX := CX0) S hr.hd e (few _ _ _ _ h) r x
  apply wpAny_mono (ht.nox.run [] s1 _ H _ J0 q)
  · intro fl s2 hs
    match fl, hs with
    | .ret u, hs => obtain ⟨v, _, H2, J, rv, z⟩ := hs; exact ⟨v, H2, J.os, J.bare, J.base, J.hok, rv, z⟩
    | .next, hs => obtain ⟨_, H2, J, z⟩ := hs; exact ⟨V.non, H2, J.os, J.bare, J.base, J.hok, rfl, z⟩
    | .brk, hs => obtain ⟨_, _, _, z⟩ := hs; exact z.elim
    | .cont, hs => obtain ⟨_, _, _, z⟩ := hs; exact z.elim
  · intro _ _ z
    exact z

/-- a callee by its name, with all its arguments given -/
def Cal (P : Program) (w : World) (K : PySem.W.Frag) (mg : Str → Option Value) (base : Heap) (x : Str) (k : Nat) (ps : List Str) (sp : Sp) : Prop :=
  ∃ f fd, FnOk P w K mg base CX0 k f fd ps sp ∧ Binds K fd ps [] ∧ mg x = some (.ref f) ∧ PySem.W.keepIn K (.ref f) = true
def CalG (P : Program) (w : World) (K : PySem.W.Frag) (mg : Str → Option Value) (base : Heap) (x : Str) (k : Nat) (ps : List Str) (sp : Sp) : Prop :=
  ∃ f fd, FnG P w K mg base k f fd ps sp ∧ Binds K fd ps [] ∧ mg x = some (.ref f) ∧ PySem.W.keepIn K (.ref f) = true
theorem Cal.mono {x : Str} {j k : Nat} {ps : List Str} {sp : Sp} (C : Cal P w K mg base x j ps sp) (h : j ≤ k) : Cal P w K mg base x k ps sp :=
  let ⟨f, fd, F, r⟩ := C
  ⟨f, fd, F.mono h, r⟩
end

section
variable {X : Cx} {k : Nat} {x : Str} {ps : List Str} {sp : Sp} {p pos : Pos} {e : Expr} {es : List Expr} {t : TA}

theorem pe_cal (C : Cal X.prog X.w X.K X.mg X.base x k ps sp) (hr : Room k X.A) (hg : Gl X x) (ha : PA X (e :: es) t) (hdb : (x == ("__debug__" : Str)) = false := by decide)
    (he : starEach (e :: es) X.env = (false, eval e X.env) :: starEach es X.env := by rfl) (hpl : (backTo pos (starEach es X.env)).any (·.1) = false := by rfl) :
    PE X (.Call (.Name x p) (e :: es) [] pos) (tCall sp [] E0 t) := by
  obtain ⟨_, _, F, b, g, kp⟩ := C
  exact pe_call F hr hg g kp b .nil pass0 ha hdb he hpl

theorem pe_calG (C : CalG X.prog X.w X.K X.mg X.base x k ps sp) (gd : X.A.guards = some []) (hr : Room k X.A) (hg : Gl X x) (ha : PA X (e :: es) t) (hdb : (x == ("__debug__" : Str)) = false := by decide)
    (he : starEach (e :: es) X.env = (false, eval e X.env) :: starEach es X.env := by rfl) (hpl : (backTo pos (starEach es X.env)).any (·.1) = false := by rfl) :
    PE X (.Call (.Name x p) (e :: es) [] pos) (tCall sp [] E0 t) := by
  obtain ⟨f, fd, F, b, g, kp⟩ := C
  constructor
  intro pins s σ H Q I h
  apply wpAny_Call_Name_kw (ld_glob I hg g ?_ hdb)
  apply PySem.W.callWith_K (h₀ := X.base) I.ok.mod.kin kp ?_ he hpl
  apply thn (ha.run pos pins s σ H _ I h)
  rintro us s1 ⟨vs, H1, I1, r, q⟩
  refine And.intro I1.kIn ?_
  have q' : sp (vs ++ []) H1 Q E0 := q
  rw [List.append_nil] at q'
  have n1 : us.length = ps.length := by rw [← r.length]; exact F.few _ _ _ _ q'
  have bb := b s1 us I1.kIn (by rw [List.append_nil]; exact n1)
  rw [List.append_nil] at bb
  apply wpAny_call
  apply codeAny_mono (F.go X.A X.stack s1 H1 ⟨us, []⟩ us vs Q gd hr I1.env0 bb r q')
  intro res s2 z
  match res, z with
  | .ok (.ret u), z => exact I1.after z
  | .ok .next, z => exact False.elim z
  | .ok .brk, z => exact False.elim z
  | .ok .cont, z => exact False.elim z
  | .error _, z => exact False.elim z
end

/-! ### repr of data -/
section
variable {X : Cx}
/-- repr(v): v data of any depth -/
def rRepr (K : PySem.W.Frag) : List V → Hp → VK → Prop := fun xs H Q => ∃ v d, xs = [v] ∧ Dp K H v d ∧ d.showable = true ∧ d.hasDict = false ∧ d.depth ≤ 40 ∧ d.shown.length ≤ sizeLine ∧ Q (.str d.shown) H
theorem call_reprD (gd : X.A.guards = some []) (hu : X.A.units + 64 < cLine) : CallR X (.builtin "repr") (rRepr X.K) := by
  intro pins s σ H xs us Q I r h
  obtain ⟨v, d, rfl, hd, sh, nd, dep, sz, q⟩ := h
  obtain ⟨u, rfl, ru⟩ := vals1 r
  have fin : ∀ (h' : Heap) (u : Tok) (tk : Nat), (∀ b o, s.heap.get? b = some o → h'.get? b = some o) → EP X pins σ Q (.str d.shown u) { s with heap := h', toks := tk } :=
    fun h' u tk kp => ⟨.str d.shown, H, I.kept kp, ⟨u, rfl⟩, q⟩
  obtain ⟨as, rd⟩ := Dp.reads I d v u hd ru
  cases hd with
  | lst hs ha =>
    cases ru
    exact repr_of_reads' rd sh (PyData.noDict_hsm nd) gd (by omega) (fun _ _ z => z) fin sz
  | tup hs ha =>
    cases ru
    exact repr_of_reads' rd sh (PyData.noDict_hsm nd) gd (by omega) (fun _ _ z => z) fin sz
  | non =>
    cases ru
    exact PySem.P.repr_of_none (fin _ _ _ fun _ _ z => z)
  | bl b =>
    cases ru
    exact PySem.P.repr_of_bool (by simpa only [PyData.shown] using fin s.heap _ (s.toks + 1) fun _ _ z => z)
  | int i =>
    obtain ⟨t, rfl⟩ := ru
    exact PySem.P.repr_of_int (by simpa [PyData.showable] using sh) (by simpa only [PyData.shown] using fin s.heap _ (s.toks + 1) fun _ _ z => z)
  | str z =>
    obtain ⟨t, rfl⟩ := ru
    exact PySem.P.repr_of_str (by simpa only [PyData.shown] using fin s.heap _ (s.toks + 1) fun _ _ z => z) (by simpa only [PyData.shown] using sz)
end

/-! ### the law's own entry -/
section
variable {P : Program} {w : World} {K : PySem.W.Frag} {mg mb : Str → Option Value}
/-- the state in which the law is entered: at most the script is tracked -/
structure Entry (P : Program) (w : World) (K : PySem.W.Frag) (H : Hp) (h : Heap) (a : Addr) (ns : List Int) : Prop where
  only : Only H
  seq : SqL K H a (ns.map V.int)
  held : HOk P w H h
  nope : ∀ b, b ≠ a → H b = none
  off : H a = none ∨ K.lookup a = none
theorem Entry.there {s : Shared} {a : Addr} {vs : List Value} {ns : List Int} (hk : K.In s.heap) (at_a : s.heap.get? a = some { cls := .type "list", data := .seq vs.toArray }) (hi : IntsAre vs ns) (few : ns.length ≤ sizeLine) :
    ∃ H, Entry P w K H s.heap a ns := by
  have rel := vals_ints hi
  by_cases e : ∃ o, K.lookup a = some o
  · obtain ⟨o, e⟩ := e
    obtain rfl : o = { cls := .type "list", data := .seq vs.toArray } := Option.some.inj ((hk a o e).symm.trans at_a)
    have nl : ∀ b u, (fun _ => none : Hp) b = some u → False := fun b u q => by cases q
    exact ⟨fun _ => none, fun _ => Or.inl rfl, Or.inr ⟨_, vs.toArray, _, e, rfl, rfl, rfl, by rw [List.size_toArray, hi.length]; exact few, by simpa using rel⟩, fun b u q => (nl b u q).elim, fun _ _ => rfl, Or.inl rfl⟩
  · have e' : K.lookup a = none := by
      cases q : K.lookup a with
      | none => rfl
      | some o => exact absurd ⟨o, q⟩ e
    refine ⟨fun b => if b = a then some (.frz { cls := .type "list", data := .seq vs.toArray } (.lst (ns.map V.int))) else none, ?_, Or.inl (Or.inr ⟨_, if_pos rfl⟩), ?_, fun b hb => if_neg hb, Or.inr e'⟩
    · intro b
      by_cases hb : b = a
      · right; exact ⟨_, _, if_pos hb⟩
      · left; exact if_neg hb
    · intro b u q
      by_cases hb : b = a
      · subst hb
        simp only [if_pos] at q
        cases q
        exact ⟨at_a, by rw [List.length_map]; exact few, vs, _, rel, at_a⟩
      · simp [hb] at q
theorem enter_law {k : Nat} {fa a : Addr} {fd : FuncData} {x : Str} {sp : Sp} {s : Shared} {vs : List Value} {ns : List Int}
    (hk : K.In s.heap) (hn : s.heap.Ns mainGlobals mg) (hb : s.heap.Ns builtinsNs mb) (hbb : ∀ x : Str, x ≠ "__name__" → mb x = bootBuiltins x) (nl : s.heap.NoLimit) (hg : s.gens = #[])
    (at_a : s.heap.get? a = some { cls := .type "list", data := .seq vs.toArray }) (hi : IntsAre vs ns) (few : ns.length ≤ sizeLine) (hr : Room k callerA)
    (F : ∀ base : Heap, K.In base → base.Ns mainGlobals mg → FnG P w K mg base k fa fd [x] sp) (hbind : ∀ (s : Shared) (u : Value), BindsTo s fd ⟨[u], []⟩ [(x, u)])
    (hsp : ∀ H : Hp, Only H → SqL K H a (ns.map V.int) → sp [.ref a] H (fun v _ => v = .bl true) E0) :
    codeAny (model P w) callerA (.call (.ref fa) ⟨[.ref a], []⟩) (fun r s' => r = .ok (.ret (.bool true)) ∧ OldK s.heap s'.heap ∧ s'.os = s.os ∧ AllBare s'.gens) s := by
  obtain ⟨H, En⟩ := Entry.there (P := P) (w := w) hk at_a hi few
  have out : ∀ {b : Addr} {o : Obj}, s.heap.get? b = some o → b ≠ a → (hidT s.heap H).get? b = some o := fun q hne => hidT_get q (En.nope _ hne)
  have dicts : ∀ {b : Addr} {m : Str → Option Value}, s.heap.Ns b m → (hidT s.heap H).Ns b m := by
    rintro b m ⟨o, es, ep, q, d, r⟩
    refine ⟨o, es, ep, out q ?_, d, r⟩
    rintro rfl
    rw [at_a] at q
    cases q
    cases d
  have inK : K.In (hidT s.heap H) := by
    intro b o q
    by_cases hba : b = a
    · subst hba
      rcases En.off with z | z
      · exact hidT_get (hk _ _ q) z
      · rw [z] at q; cases q
    · exact out (hk _ _ q) hba
  have modl : Mod K mg (hidT s.heap H) := {
    kin := inK
    glob := dicts hn
    blt := ⟨mb, dicts hb, hbb⟩
    nolimit := by obtain ⟨mc, z1, z2⟩ := nl; exact ⟨mc, dicts z1, z2⟩ }
  have none_in : ∀ b, b ∈ frs ([] : List Env) → False := fun b z => by
    have z' : b ∈ ([] : List Addr) := z
    cases z'
  have e0 : Env0 P w K mg (hidT s.heap H) callerA [] s H := {
    frames := rfl
    mod := modl
    bs := fun b o q => of_hidT q
    bsz := Nat.le_of_eq (hidT_size _ _)
    funs := trivial
    frf := fun b z => (none_in b z).elim
    hok := En.held
    bare := .of_eq hg }
  apply codeAny_mono ((F _ inK (dicts hn)).go callerA [] s H ⟨[.ref a], []⟩ [.ref a] [.ref a] _ rfl hr e0 (hbind s (.ref a)) (.cons rfl .nil) (hsp H En.only En.seq))
  intro r s' z
  match r, z with
  | .error _, z => exact False.elim z
  | .ok .next, z => exact False.elim z
  | .ok .brk, z => exact False.elim z
  | .ok .cont, z => exact False.elim z
  | .ok (.ret u), z =>
    obtain ⟨v, H', os, bare, un, held, rv, rfl⟩ := z
    cases rv
    refine ⟨rfl, OldK.of_keep ?_, os, bare⟩
    intro b o q
    rcases En.only b with y | ⟨ob, xs, y⟩
    · exact un.keep b o q y (none_in b) (by intro y2; cases y2)
    · have y1 := (En.held b _ y).left
      have y2 := (held b _ (un.frzs b ob _ y)).left
      rw [y1] at q
      cases q
      exact y2
end

/-- the goal that k_head leaves, from the law's promise -/
theorem walkG {l : PySem.W.OpenLaw} {n k : Nat} {q : Program} {loose : List Str} {XP : (Str → Option Value) → Heap → Prop} {YP : World → Heap → Prop} {d : DefRec} {K : Params → PySem.W.Frag} {sp : PySem.W.Frag → Sp} {x : Str}
    (hn : l.most = some n) (few : n ≤ sizeLine) (hdf : d.params.defaults = []) (hr : Room k callerA) (hY : ∀ (w : World) (h : Heap), YP w h → (K w.params).In h)
    (F : ∀ (w : World) (mg : Str → Option Value) (fa : Addr) (h : Heap), (K w.params).In h → h.Ns mainGlobals mg → mg d.name = some (.ref fa) →
      ∃ fd : FuncData, (∀ (s : Shared) (u : Value), BindsTo s fd ⟨[u], []⟩ [(x, u)]) ∧ ∀ base : Heap, (K w.params).In base → base.Ns mainGlobals mg → FnG l.prog w (K w.params) mg base k fa fd [x] (sp (K w.params)))
    (hsp : ∀ (K : PySem.W.Frag) (H : Hp) (a : Addr) (ns : List Int), ns.length ≤ n → SqL K H a (ns.map V.int) → sp K [.ref a] H (fun v _ => v = .bl true) E0) :
    PySem.W.WalkO q loose XP YP l.row.toRowW d [] (fun f vs => PySem.call f vs) := by
  apply Att.attach_call hn hdf
  intro w s0 s1 mg mb fa o pm cd doc a vs ns G Y ho hd hcd hmg hobj hints hlen hg
  obtain ⟨fd, hb, hF⟩ := F w mg fa _ (hY w _ Y) G.T.g hmg
  exact enter_law (hY w _ Y) G.T.g G.T.b G.T.builtins G.T.nolimit hg hobj hints (Nat.le_trans hlen few) hr hF hb (fun H _ hS => hsp _ H a ns hlen hS)
end Pg

/-! len(set(names)) for texts, a text times a number. -/
namespace Pg
open PySem PySem.Spec PyProof.Rows L2

/-- how many different texts there are: each counted where it stands first -/
def cntS : List Str → Nat
  | [] => 0
  | x :: r => (if x ∈ r then 0 else 1) + cntS r
theorem cntS_le : ∀ l : List Str, cntS l ≤ l.length
  | [] => Nat.le_refl 0
  | x :: r => by
    have h := cntS_le r
    show (if x ∈ r then 0 else 1) + cntS r ≤ r.length + 1
    split <;> omega
theorem cntS_full : ∀ l : List Str, cntS l = l.length ↔ l.Nodup
  | [] => by simp [cntS]
  | x :: r => by
    have h := cntS_full r
    have h1 := cntS_le r
    rw [List.nodup_cons, ← h]
    show (if x ∈ r then 0 else 1) + cntS r = r.length + 1 ↔ _
    split
    · rename_i m
      constructor
      · intro z; omega
      · intro z; exact absurd m z.1
    · rename_i m
      constructor
      · intro z; exact ⟨m, by omega⟩
      · intro z; omega
theorem cntS_snoc : ∀ (l : List Str) (x : Str), cntS (l ++ [x]) = if x ∈ l then cntS l else cntS l + 1
  | [], x => by simp [cntS]
  | y :: r, x => by
    have ih := cntS_snoc r x
    show (if y ∈ r ++ [x] then 0 else 1) + cntS (r ++ [x]) = if x ∈ y :: r then (if y ∈ r then 0 else 1) + cntS r else (if y ∈ r then 0 else 1) + cntS r + 1
    rw [ih]
    by_cases e : x = y
    · subst e
      by_cases m : x ∈ r <;> simp [m] <;> omega
    · have e' : ¬ y = x := fun z => e z.symm
      by_cases m : x ∈ r <;> by_cases m2 : y ∈ r <;> simp [m, m2, e, e'] <;> omega

section
variable {prog : Program} {w : World} {A : Around} {R : Result → Shared → Prop}
theorem setOf_moved {h h' : Heap} {S : Addr} {g : Str → Bool} {c : Nat} (z : h.SetOf (PySem.strKind prog w) S g c) (kp : ∀ o, h.get? S = some o → h'.get? S = some o) : h'.SetOf (PySem.strKind prog w) S g c := by
  obtain ⟨o, es, ep, tb, ho, more⟩ := z
  exact ⟨o, es, ep, tb, kp o ho, more⟩
/-- the loop of set.update over texts -/
theorem set_texts_loop {I : Addr} {fp wr : List Addr} {G : Array GenState → Array GenState → Prop} {n : Nat} {Pv : Nat → Value → Prop} {St : Nat → Shared → Prop}
    (W : WalksS prog w A.in1 I fp wr G n Pv St) (S : Addr) (off : S ∉ fp) (xs : List Str) (hn : n = xs.length) (room : xs.length + 1 < scanBound)
    (vals : ∀ i v, Pv i v → ∃ x t, xs[i]? = some x ∧ v = .str x t) :
    ∀ (left i : Nat) (s : Shared), i + left = n → St i s → s.heap.SetOf (PySem.strKind prog w) S (fun x => decide (x ∈ xs.take i)) (cntS (xs.take i)) →
      (∀ s', Moved (S :: wr) G s s' → s'.heap.SetOf (PySem.strKind prog w) S (fun x => decide (x ∈ xs)) (cntS xs) → R (.ok (.ret .none)) s') →
      codeAny (model prog w) A (.builtin "set.update.loop" ⟨[.ref S, .ref I], []⟩) R s := by
  have offw : S ∉ wr := fun z => off (W.sub _ z)
  have sub : ∀ b ∈ wr, b ∈ S :: wr := fun b z => List.mem_cons_of_mem _ z
  intro left
  induction left with
  | zero =>
    intro i s e st set fin
    obtain rfl : i = n := by omega
    apply codeAny_builtin PyProof.Rows.F.entry_set_update_loop
    rw [Around.under_plainId PyProof.Rows.F.plain_set_update_loop _]
    show wpAny _ A.in1 (pyNext (.ref I) >>= _) _ _ s
    apply wpAny_bind
    apply W.done s _ _ st
    intro s' mv
    have all : xs.take i = xs := List.take_of_length_le (by omega)
    rw [all] at set
    show wpAny _ A.in1 (ret Value.none) _ _ s'
    exact wpAny_pure (fin s' (mv.mono sub) (setOf_moved set fun o q => mv.heap S o offw q))
  | succ left ih =>
    intro i s e st set fin
    have lt : i < n := by omega
    apply codeAny_builtin PyProof.Rows.F.entry_set_update_loop
    rw [Around.under_plainId PyProof.Rows.F.plain_set_update_loop _]
    show wpAny _ A.in1 (pyNext (.ref I) >>= _) _ _ s
    apply wpAny_bind
    apply W.item i s _ _ lt st
    intro v s' pv' st' mv
    obtain ⟨x, t, hx, rfl⟩ := vals i v pv'
    have set' := setOf_moved set fun o q => mv.heap S o offw q
    show wpAny _ A.in1 (holding [Value.str x t] (setAdd S (.str x t)) >>= _) _ _ s'
    apply wpAny_bind
    apply wpAny_holding
    unfold setAdd
    apply wpAny_holding
    apply wpAny_bind
    apply (PySem.strKind prog w).pyHash (k := x) (strKind_is _ _ _ _)
    have cle := cntS_le (xs.take i)
    rw [List.length_take] at cle
    apply wpAny_setAddHashed_of (knd := PySem.strKind prog w) (s := { s' with toks := s'.toks + 1 }) (strKind_is _ _ _ _) rfl set' (by omega)
    intro h' but set2
    have nx : xs.take (i + 1) = xs.take i ++ [x] := by
      rw [List.take_add_one, hx]
      rfl
    have set3 : h'.SetOf (PySem.strKind prog w) S (fun y => decide (y ∈ xs.take (i + 1))) (cntS (xs.take (i + 1))) := by
      refine PyProof.Rows.SetOf_congr set2 (fun y => ?_) ?_
      · rw [nx]
        simp [List.mem_append]
      · rw [nx, cntS_snoc]
        by_cases m : x ∈ xs.take i <;> simp [m]
    apply wpAny_pure
    refine ⟨plainId_quiet PyProof.Rows.F.plain_set_update_loop _, ih (i + 1) _ (by omega) ?_ set3 ?_⟩
    · apply W.frame _ s' _ _ st' (Nat.le_succ _)
      intro b hb o q
      have : b ≠ S := fun z => off (z ▸ hb)
      rw [but.2 b this]
      exact q
    · intro s2 mv2 z
      apply fin s2 _ z
      apply Moved.trans W.gtrans _ mv2
      apply (mv.mono sub).then_heap (Nat.le_succ _)
      intro b o hb q
      have : b ≠ S := fun z => hb (z ▸ List.mem_cons_self)
      rw [but.2 b this]
      exact q
end

set_option maxHeartbeats 8000000 in
/-- set(t), t a tuple of texts -/
theorem set_of_texts {prog : Program} {w : World} {A : Around} {E : Value → Shared → Prop} {s : Shared} {l : Addr} {items : Array Value} {xs : List Str} {Q : Value → Shared → Prop}
    (hot : A.handled = none) (tup : s.heap.IsTuple l items) (are : StrsAre items.toList xs) (room : xs.length + 1 < scanBound)
    (k : ∀ (h' : Heap) (tk : Nat), h'.SetOf (PySem.strKind prog w) s.heap.objs.size (fun x => decide (x ∈ xs)) (cntS xs) → (∀ b o, s.heap.get? b = some o → h'.get? b = some o) →
      Q (.ref s.heap.objs.size) { s with heap := h', toks := tk }) : wpAny (model prog w) A (call (.type "set") [.ref l]) Q E s := by
  have size : items.size = xs.length := by
    have z := StrsAre.len_eq are
    rw [Array.length_toList] at z
    exact z.symm ▸ rfl
  obtain ⟨_, _, mro⟩ := PySem.F.called_set.mro
  have made := PySem.F.called_set.made
  have sub := PySem.F.called_set.sub
  apply wpAny_call
  apply codeAny_of_tree
  show wpAny _ _ (callAny (.type "set") _) _ _ _
  apply wpAny_pure
  refine And.intro (Code.quiet_builtin _ (by decide +kernel)) ?_
  apply codeAny_builtin PySem.F.entry_type_call
  rw [Around.under_plain (weight_type_call_type "set" [.ref l] []) rfl]
  have t1 := PySem.F.called_set.notType
  have t2 := PySem.F.called_set.canCreate
  have t3 := PySem.F.typeCall_set_1 (.ref l)
  repeat (any_goals (first | assumption | wp_step))
  apply codeAny_mono (code_set_new_1 (.ref l) (E := E) (Q₁ := fun obj s1 => ∃ led : Bool, obj = .ref s.heap.objs.size ∧ s1 = { s with heap := s.heap.push { cls := .type "set", dict := none, data := .set #[] 0 (.fresh 0 0 led) } }) fun led => ⟨led, rfl, rfl⟩)
  intro r s1 hr
  match r, hr with
  | .error _, hr => exact hr
  | .ok .next, hr => exact hr.elim
  | .ok .brk, hr => exact hr.elim
  | .ok .cont, hr => exact hr.elim
  | .ok (.ret obj), hr =>
    obtain ⟨led, rfl, rfl⟩ := hr
    let so : Obj := { cls := .type "set", dict := none, data := .set #[] 0 (.fresh 0 0 led) }
    have here : (s.heap.push so).get? s.heap.objs.size = some so := Heap.get?_push_size _ rfl
    have typ : Shared.TypeIs { s with heap := s.heap.push so } (.ref s.heap.objs.size) "set" := ⟨_, here, rfl⟩
    have i1 := PySem.F.called_set.init.lookup
    have i2 := PySem.F.called_set.init.bind (.ref s.heap.objs.size)
    repeat (any_goals (first | assumption | wp_step))
    apply codeAny_mono (codeAny_call_builtin (R := wants (fun r s2 => r = .none ∧ ∃ h' tk, s2 = { s with heap := h', toks := tk } ∧
      h'.SetOf (PySem.strKind prog w) s.heap.objs.size (fun x => decide (x ∈ xs)) (cntS xs) ∧ (∀ b o, s.heap.get? b = some o → h'.get? b = some o)) E)
      PySem.F.called_set.init.plain PySem.F.entry_set_init (check_set_init_1 typ ?_))
    · intro r2 s2 hr2
      match r2, hr2 with
      | .error _, hr2 => exact hr2
      | .ok .next, hr2 => exact hr2.elim
      | .ok .brk, hr2 => exact hr2.elim
      | .ok .cont, hr2 => exact hr2.elim
      | .ok (.ret v2), hr2 =>
        obtain ⟨rfl, h', tk, rfl, set, kp⟩ := hr2
        repeat (any_goals (first | assumption | wp_step))
        exact k _ _ set kp
    · obtain ⟨⟨oc, od, oda, osl⟩, at_l, cl, nl, dl⟩ := tup
      simp only at cl dl
      subst cl
      subst dl
      have at_l2 : (s.heap.push so).get? l = some { cls := .type "tuple", dict := od, data := .seq items nl, slots := osl } := Heap.get?_push_of_some _ at_l
      have s1 := PySem.F.sub_tuple_set
      have s2 := PySem.F.sub_tuple_frozenset
      have ne : (Value.type "tuple" == Value.type "dict") = false := by decide
      have tup2 : (s.heap.push so).IsTuple l items := ⟨_, at_l2, rfl, nl, rfl⟩
      unfold Builtin.«set.__init__» noKeywords Builtin.Frozenset.updateFrom
      generalize hPI : pyIter = PI
      wp_walk
      subst hPI
      apply wpAny_pyIter_tuple tup2
      apply wpAny_bind
      apply wpAny_runValue
      have lt : l < s.heap.objs.size := Heap.lt_size at_l
      have sz : (s.heap.push so).objs.size = s.heap.objs.size + 1 := Heap.size_push ..
      have ne1 : l ≠ (s.heap.push so).objs.size := by rw [sz]; exact Nat.ne_of_lt (Nat.lt_succ_of_lt lt)
      have off : s.heap.objs.size ∉ [(s.heap.push so).objs.size, l] := by
        rw [sz]
        intro z
        rcases List.mem_cons.mp z with z | z
        · exact Nat.ne_of_lt (Nat.lt_succ_self _) z
        · rcases List.mem_cons.mp z with z | z
          · exact Nat.ne_of_gt lt z
          · cases z
      have hot3 : A.in1.in1.in1.handled = none := by simp [hot]
      apply set_texts_loop ((Walks.tuple hot3 _ l ne1 items).toS) s.heap.objs.size off xs size room ?vals items.size 0 _ (by omega) ⟨⟨_, Heap.get?_push_size _ rfl, rfl, rfl⟩, (tup2.push _)⟩ ?s0 ?fin
      case vals =>
        intro i v hv
        have hi : i < xs.length := by rw [← size]; exact (Array.getElem?_eq_some_iff.mp hv).1
        obtain ⟨t, e⟩ := SS.strs_at are i v (by rw [Array.getElem?_toList]; exact hv)
        refine ⟨xs[i], t, List.getElem?_eq_getElem hi, ?_⟩
        rw [e, List.getD_eq_getElem?_getD, List.getElem?_eq_getElem hi]
        rfl
      case s0 =>
        have here2 : ((s.heap.push so).push { cls := .type "tuple_iterator", data := .fields #[.ref l, .int 0 0] }).get? s.heap.objs.size = some so := Heap.get?_push_of_some _ here
        exact PyProof.Rows.SetOf_congr ((PyProof.Rows.setObjOf_fresh (knd := PySem.strKind prog w) led).setOf here2 (by unfold scanBound; omega)) (fun _ => rfl) rfl
      case fin =>
        intro s' mv set
        obtain ⟨h', g', d', tk', os'⟩ := s'
        obtain rfl : g' = s.gens := mv.gens
        obtain rfl : d' = s.drawn := mv.drawn
        obtain rfl : os' = s.os := mv.os
        show wpAny _ _ _ _ _ _
        apply wpAny_pure
        show wpAny _ _ (ret Value.none) _ _ _
        apply wpAny_pure
        refine ⟨rfl, h', tk', rfl, set, ?_⟩
        intro b o q
        have lb : b < s.heap.objs.size := Heap.lt_size q
        apply mv.heap b o _ (Heap.get?_push_of_some _ (Heap.get?_push_of_some _ q))
        intro z
        rcases List.mem_cons.mp z with z | z
        · exact Nat.ne_of_lt lb z
        · rcases List.mem_cons.mp z with z | z
          · rw [sz] at z
            exact Nat.ne_of_lt (Nat.lt_succ_of_lt lb) z
          · cases z

/-- len(set(t)), t a tuple of texts -/
def tCountT (K : PySem.W.Frag) (ta : TE) : TE := fun σ H Q => ta σ H fun x H1 => ∃ (l : Addr) (xs : List Str), x = .ref l ∧ SqT K H1 l (xs.map V.str) ∧ xs.length ≤ 1000 ∧ Q (.int (cntS xs : Nat)) H1
theorem pe_countT {X : Cx} {a : Expr} {ta : TE} {p p2 q pos : Pos} (hc : X.calm = true) (hg : Gl X "len") (hm : X.mg "len" = none) (hg2 : Gl X "set") (hm2 : X.mg "set" = none) (ha : PE X a ta)
    (na : starEach [a] X.env = (false, eval a X.env) :: starEach [] X.env := by rfl) : PE X (.Call (.Name "len" p) [.Call (.Name "set" p2) [a] [] q] [] pos) (tCountT X.K ta) := by
  constructor
  intro pins s σ H Q I h
  apply Call_ (ld_blt I hg hm boot_len ?_)
  apply PyProof.Rows.callWith_builtin1 (PyProof.Rows.args_cons ?_ rfl) rfl rfl
  apply Call_ (ld_blt I hg2 hm2 boot_set ?_)
  apply PyProof.Rows.callWith_type1 (PyProof.Rows.args_cons (thn (ha.run pins s σ H _ I h) ?_) na) na rfl
  rintro v s1 ⟨x, H1, I1, r1, l, xs, rfl, ht, few, z⟩
  apply PyProof.Rows.args_nil
  cases r1
  obtain ⟨its, r, tp, _⟩ := I1.tuple ht
  apply set_of_texts (I1.ok.hd hc) tp (by simpa using strsAre_of r) (by unfold scanBound; omega)
  intro h' tk set kp
  apply PyProof.Rows.args_nil
  obtain ⟨o, es, ep, tb, ho, ex, od, _, _, _, fl, nn⟩ := set
  have I2 : Inv X pins σ H1 { s1 with heap := h', toks := tk } := I1.kept kp
  have le := cntS_le xs
  apply call_len_set ho ex od fl (by rw [nn]; omega)
  exact ⟨.int (cntS xs : Nat), H1, I2.tok _, ⟨_, by rw [nn]⟩, z⟩
end Pg

/-! Loops over texts, products of texts, what the laws' helpers promise. -/
namespace Pg
open PySem PySem.Spec PyProof.Rows L2

/-! ### loops and comprehensions over a text -/
theorem for_str {z : Str} {g : TG} {tb : TS} {D : Ends} {σ : L2.St} {H : Hp} (Pv : Nat → L2.St → Hp → Prop) (h0 : Pv 0 σ H)
    (hs : ∀ i c σ H, z.cps.toList[i]? = some c → Pv i σ H → g (.str ⟨#[c]⟩) σ H fun σ2 H2 => tb { D with nx := Pv (i + 1), ct := Pv (i + 1), bk := D.nx } σ2 H2) (hd : ∀ σ H, Pv z.length σ H → D.nx σ H) :
    ∃ W : Nat → Nat → L2.St → Hp → Prop, (∃ m, W 0 m σ H) ∧ ∀ i m σ H, W i m σ H →
      ((Its z).stop i H ∧ D.nx σ H) ∨ ((Its z).go i H ∧ ∃ N : L2.St → Hp → Prop, (∀ σ' H', N σ' H' → ∃ m', m' < m ∧ W (i + 1) m' σ' H') ∧ ∀ x H', (Its z).yld i H x H' → g x σ H' fun σ2 H2 => tb { D with nx := N, ct := N, bk := D.nx } σ2 H2) := by
  refine ⟨fun i m σ H => i + m = z.length ∧ Pv i σ H, ⟨z.length, by omega, h0⟩, ?_⟩
  rintro i m σ H ⟨e, p⟩
  by_cases lt : i < z.length
  · refine Or.inr ⟨lt, Pv (i + 1), fun σ' H' q => ⟨m - 1, by omega, by omega, q⟩, ?_⟩
    rintro x H' ⟨rfl, c, hc, rfl⟩
    exact hs i c σ _ (by rw [Array.getElem?_toList]; exact hc) p
  · obtain rfl : i = z.length := by omega
    exact Or.inl ⟨Nat.le_refl _, hd σ H p⟩
theorem lc_str {z : Str} {g : TG} {tt : TT} {te : TE} {vs : List Nat} {σ : L2.St} {H1 : Hp} {D : Addr} {Qd : Hp → Prop} (Pv : Nat → Hp → Prop) (h0 : Pv 0 (upd H1 D (.lst [])))
    (hs : ∀ i c H, z.cps.toList[i]? = some c → Pv i H → g (.str ⟨#[c]⟩) (wipe σ vs) H fun σ2 H2 => wipe σ2 vs = wipe σ vs ∧ tt σ2 H2 fun b H3 =>
      if b = true then te σ2 H3 fun y H4 => ∃ acc, H4 D = some (.lst acc) ∧ acc.length < sizeLine ∧ Pv (i + 1) (upd H4 D (.lst (acc ++ [y]))) else Pv (i + 1) H3) (hd : ∀ H, Pv z.length H → Qd H) :
    ∃ W : Nat → Nat → Hp → Prop, (∃ m, W 0 m (upd H1 D (.lst []))) ∧ ∀ i m H, W i m H →
      ((Its z).stop i H ∧ Qd H) ∨ ((Its z).go i H ∧ ∃ Nx : Hp → Prop, (∀ H', Nx H' → ∃ m', m' < m ∧ W (i + 1) m' H') ∧ ∀ x H', (Its z).yld i H x H' → g x (wipe σ vs) H' fun σ2 H2 => wipe σ2 vs = wipe σ vs ∧ tt σ2 H2 fun b H3 =>
        if b = true then te σ2 H3 fun y H4 => ∃ acc, H4 D = some (.lst acc) ∧ acc.length < sizeLine ∧ Nx (upd H4 D (.lst (acc ++ [y]))) else Nx H3) := by
  refine ⟨fun i m H => i + m = z.length ∧ Pv i H, ⟨z.length, by omega, h0⟩, ?_⟩
  rintro i m H ⟨e, p⟩
  by_cases lt : i < z.length
  · refine Or.inr ⟨lt, Pv (i + 1), fun H' q => ⟨m - 1, by omega, by omega, q⟩, ?_⟩
    rintro x H' ⟨rfl, c, hc, rfl⟩
    exact hs i c _ (by rw [Array.getElem?_toList]; exact hc) p
  · obtain rfl : i = z.length := by omega
    exact Or.inl ⟨Nat.le_refl _, hd H p⟩

/-! ### a module's number -/
theorem pe_cI {X : Cx} {x : Str} {i : Int} {pos : Pos} (hg : Gl X x) (hm : ∃ t, X.mg x = some (.int i t)) (hd : (x == ("__debug__" : Str)) = false := by decide) : PE X (.Name x pos) (tC (.int i)) := by
  obtain ⟨t, e⟩ := hm
  exact pe_glob hg e ⟨t, rfl⟩ hd

/-! ### a text times a number -/
def repS (z : Str) (n : Nat) : Str := ⟨((List.replicate n z.cps.toList).flatten).toArray⟩
theorem foldl_app : ∀ (l : List (Array Nat)) (a : Array Nat), (l.foldl (· ++ ·) a).toList = a.toList ++ (l.map Array.toList).flatten
  | [], a => by simp
  | x :: r, a => by
    rw [List.foldl_cons, foldl_app r (a ++ x)]
    simp
theorem op_mulS {X : Cx} : OpR X (binaryOp .Mult) (fun x y H Q => ∃ (z : Str) (n : Nat), x = .str z ∧ y = .int n ∧ n ≤ 1000 ∧ z.length ≤ 1000 ∧ Q (.str (repS z n)) H) := by
  intro pins s σ H x y v u Q I rx ry h
  obtain ⟨z, n, rfl, rfl, n1, z1, q⟩ := h
  obtain ⟨t, rfl⟩ := rx
  obtain ⟨t', rfl⟩ := ry
  have fin : ∀ (g : Str) (u : Tok) (k : Nat), g = repS z n → EP X pins σ Q (.str g u) { s with toks := k } := by
    rintro g u k rfl
    exact ⟨.str (repS z n), H, I.tok _, ⟨u, rfl⟩, q⟩
  have big : (z.length : Int) ≤ 1000 := by omega
  have lenz : z.length = z.cps.toList.length := by simp [Str.length]
  apply PySem.P.mul_str
  · have h1 : ¬ ((n : Int) < -(2 ^ 63 : Int)) := by omega
    have h2 : ¬ ((n : Int) ≥ 2 ^ 63) := by omega
    rw [decide_eq_false h1, decide_eq_false h2]
    rfl
  · intro n0 _
    have pos : (0 : Int) < n := by omega
    have : (1000 : Int) ≤ (2 ^ 63 - 1) / n := (Int.le_ediv_iff_mul_le pos).mpr (by have : (n : Int) ≤ 1000 := by omega
                                                                                   omega)
    omega
  · intro n0 _
    have h2 : z.length * n ≤ 1000 * 1000 := Nat.mul_le_mul z1 n1
    have hl : sizeLine = 16777216 := sizeLine_eq
    show decide (z.length * ((n : Int)).toNat > sizeLine) = false
    rw [Int.toNat_natCast, hl]
    exact decide_eq_false (by omega)
  · by_cases h0 : (n : Int) < 1
    · rw [if_pos h0]
      have e : n = 0 := by omega
      subst e
      exact ⟨by decide, fin _ _ _ (Str.ext' (by simp [repS, Str.empty]))⟩
    · rw [if_neg h0]
      by_cases h1 : ((n : Int) == 1 || z.length == 0) = true
      · rw [if_pos h1]
        rcases Bool.or_eq_true_iff.mp h1 with e | e
        · have e1 : n = 1 := by have := eq_of_beq e; omega
          subst e1
          refine fin z t s.toks (Str.ext' ?_)
          simp [repS]
        · have e1 : z.cps.toList = [] := List.eq_nil_of_length_eq_zero (by rw [← lenz]; exact eq_of_beq e)
          refine fin z t s.toks (Str.ext' ?_)
          apply Array.toList_inj.mp
          rw [e1]
          simp [repS, e1]
      · rw [if_neg h1]
        have eq : (⟨(List.replicate ((n : Int)).toNat z.cps).foldl (· ++ ·) #[]⟩ : Str) = repS z n := by
          apply Str.ext'
          apply Array.toList_inj.mp
          rw [foldl_app, Int.toNat_natCast]
          simp [repS]
        rw [eq]
        refine ⟨?_, fin _ _ _ rfl⟩
        have hl : sizeLine = 16777216 := sizeLine_eq
        have : (repS z n).length = n * z.length := by simp [repS, Str.length]
        rw [this, hl]
        have h2 : n * z.length ≤ 1000 * 1000 := Nat.mul_le_mul n1 z1
        omega
end Pg
namespace Pg
open PySem PySem.Spec PyProof.Rows L2
/-- within a comprehension: the written part is the def's own -/
theorem ix_listK {X : Cx} {K : PySem.W.Frag} (h : X.K = K) : IxR X (rIxL K) := h ▸ ix_list
theorem ix_tupK {X : Cx} {K : PySem.W.Frag} (h : X.K = K) : IxR X (rIxT K) := h ▸ ix_tup
end Pg

/-! A walk over the items of a written dict of the module. -/
namespace Pg
open PySem PySem.Spec PyProof.Rows L2

/-- the entries of a written dict, as values -/
def Entries (es : Array DictEntry) (kvs : List (V × V)) : Prop := kvs.length = es.size ∧ ∀ (i : Nat) (hi : i < es.size), ∃ k v, kvs[i]? = some (k, v) ∧ RelV k es[i].key ∧ RelV v es[i].val
theorem entries3 {e0 e1 e2 : DictEntry} {k0 v0 k1 v1 k2 v2 : V} (a0 : RelV k0 e0.key) (b0 : RelV v0 e0.val) (a1 : RelV k1 e1.key) (b1 : RelV v1 e1.val) (a2 : RelV k2 e2.key) (b2 : RelV v2 e2.val) :
    Entries #[e0, e1, e2] [(k0, v0), (k1, v1), (k2, v2)] :=
  ⟨rfl, fun i hi => match i, hi with
    | 0, _ => ⟨_, _, rfl, a0, b0⟩
    | 1, _ => ⟨_, _, rfl, a1, b1⟩
    | 2, _ => ⟨_, _, rfl, a2, b2⟩
    | n + 3, hi => absurd hi (by show ¬ (n + 3 < 3); omega)⟩
/-- its items, each a new tuple -/
def ItW (kvs : List (V × V)) : It :=
  ⟨fun i _ => i < kvs.length, fun i H x H' => ∃ T k v, kvs[i]? = some (k, v) ∧ x = .ref T ∧ H T = none ∧ H' = upd H T (.tup [k, v]), fun i _ => kvs.length ≤ i⟩
theorem raw_of {K : PySem.W.Frag} {h : Heap} {d : Addr} {es : Array DictEntry} {n : Nat} (inK : K.In h) (e : K.lookup d = some ⟨.type "dict", none, .dict es n, #[]⟩) : h.DictRaw d es n :=
  ⟨_, inK _ _ e, ⟨rfl, rfl, rfl⟩, rfl⟩
theorem turn_itemsW {P : Program} {w : World} {K : PySem.W.Frag} {d : Addr} {es : Array DictEntry} {n : Nat} {kvs : List (V × V)} {elts : List Expr} {kk : Nat} {tpos : Pos} (it : Addr)
    (at_d : K.lookup d = some ⟨.type "dict", none, .dict es n, #[]⟩) (en : Entries es kvs) : Turn P w K (.Tuple elts kk tpos) (ItW kvs) [it] it (fun i h => ∃ ok ov, IsItemIter h it d i es.size n ok ov) := by
  constructor
  case mem => simp
  case obj =>
    rintro i h ⟨ok, ov, e⟩ b hb
    obtain rfl : b = it := by simpa using hb
    exact ⟨_, e, fun v z => nomatch z⟩
  case keep =>
    rintro i h h' ⟨ok, ov, e⟩ k
    exact ⟨ok, ov, k it (by simp) _ e⟩
  case item =>
    intro X hP hw hK hc i pins s σ H E I hf st hg
    subst hP hw hK
    obtain ⟨ok, ov, he⟩ := st
    have lt : it < s.heap.objs.size := Heap.lt_size he
    have hi : i < es.size := by rw [← en.1]; exact hg
    obtain ⟨k, v, hkv, rk, rv⟩ := en.2 i hi
    apply wpAny_pyNext_items_item_raw he (raw_of I.kIn at_d) hi
    intro h' out here size kp
    refine ⟨_, rfl, ?_⟩
    apply wpAny_letOwnedTupleGo_items (s := { s with heap := h' }) out
    intro h2 back but
    have here2 : h2.get? s.heap.objs.size = some { cls := .type "tuple", data := .seq #[es[i].key, es[i].val] } := (but.2 _ (Nat.ne_of_gt lt)).trans here
    have fresh : H s.heap.objs.size = none := I.hok.fresh (Nat.le_refl _)
    have new : ObjOk X.prog X.w (upd H s.heap.objs.size (.tup [k, v])) h2 s.heap.objs.size (.tup [k, v]) :=
      ⟨by show 2 ≤ sizeLine; decide, [es[i].key, es[i].val], .cons rk (.cons rv .nil), ⟨_, here2, rfl, _, rfl⟩⟩
    have J := I.turnedNew (t' := s.toks) (h' := h2) (ch := [it]) (fun b o hb e => (but.2 b (by simpa using hb)).trans (kp b o (by simpa using hb) e)) hf (Nat.le_refl _) new
    refine ⟨.ref s.heap.objs.size, _, J, rfl, ⟨_, k, v, hkv, rfl, fresh, rfl⟩, ⟨_, _, back⟩, ?_⟩
    intro b hb
    obtain rfl : b = it := by simpa using hb
    rw [upd_ne (Nat.ne_of_lt lt)]
    exact (hf b (by simp)).1
  case done =>
    intro X hP hw hK hc i pins s σ H E I hf st hg
    subst hP hw hK
    obtain ⟨ok, ov, he⟩ := st
    obtain ⟨f0, f1, f2, f3, f4, f5⟩ := hf it (by simp)
    apply wpAny_pyNext_items_end_raw (I.ok.hd hc) he (raw_of I.kIn at_d) (by rw [← en.1]; exact hg)
    intro h' eb
    exact ⟨rfl, I.turned (t' := s.toks) (fun b o hb e => eb b o hb e) f0 f1 f3 f4 f5⟩
  case self =>
    rintro A i s Q E ⟨_, _, e⟩ h
    exact PySem.W.kcp_self e h
/-- for .. in d.items(), d a written dict of the module -/
def iItemsW (K : PySem.W.Frag) (td : TE) : TI := fun σ H R => td σ H fun x H1 => ∃ d es n kvs, x = .ref d ∧ K.lookup d = some ⟨.type "dict", none, .dict es n, #[]⟩ ∧ Entries es kvs ∧ (d == sysModules) = false ∧ R (ItW kvs) H1
theorem pi_itemsW {X : Cx} {e : Expr} {td : TE} {apos cpos : Pos} {elts : List Expr} {kk : Nat} {tpos : Pos} (he : PE X e td) (hbase : attributeBase e "items" X.env (eval e X.env) = eval e X.env := by rfl)
    (hline : (apos.endLine == cpos.line) = true := by rfl) : PI X (.Tuple elts kk tpos) (.Call (.Attribute e "items" apos) [] [] cpos) (iItemsW X.K td) := by
  constructor
  intro pins s σ H R I h
  apply wpAny_Call_method (T := "dict") (id := "dict.items") hbase rfl hline F.plainAttrs_dict F.slot_dict_items F.type_dict_items
  apply thn (he.run pins s σ H _ I h)
  rintro u s1 ⟨x, H1, I1, rx, d, es, n, kvs, rfl, at_d, en, low, q⟩
  obtain rfl : u = Value.ref d := rx
  have raw := raw_of I1.kIn at_d
  refine ⟨raw.typeIs, fun a z => ?_, ?_⟩
  · cases z
    exact ⟨_, I1.kIn _ _ at_d, rfl⟩
  have I2 : Inv X pins σ H1 { s1 with heap := s1.heap.push { cls := .type "dict_items", data := .fields #[.ref d] } } := I1.kept (t' := s1.toks) fun b o z => Heap.get?_push_of_some _ z
  have fin : wpAny (model X.prog X.w) X.A (pyIter (.ref s1.heap.objs.size)) (PIE X pins σ (.Tuple elts kk tpos) R) X.xe { s1 with heap := s1.heap.push { cls := .type "dict_items", data := .fields #[.ref d] } } :=
    wpAny_pyIter_items_raw (d := d) ⟨_, Heap.get?_push_size _ rfl, rfl, rfl⟩ (raw_of I2.kIn at_d)
      (pi_one (tk := s1.toks) I2 _ (turn_itemsW _ at_d en) ⟨.none, .none, Heap.get?_push_size _ rfl⟩ q)
  show wpAny _ _ (callWith cpos (.builtin "dict.items") [.ref d] [] []) _ X.xe s1
  exact method_meetsIn F.slot_dict_items F.entry_dict_items rfl (PySem.evalArgs_none ⟨rfl, raw.typeIs, F.args_dict_items_1 _, _, meets_dict_items_raw d low, ⟨_, _, raw⟩, fin⟩)
theorem for_itemsW {kvs : List (V × V)} {g : TG} {tb : TS} {D : Ends} {σ : L2.St} {H : Hp} (Pv : Nat → L2.St → Hp → Prop) (h0 : Pv 0 σ H)
    (hs : ∀ i k v σ H T, kvs[i]? = some (k, v) → Pv i σ H → H T = none → g (.ref T) σ (upd H T (.tup [k, v])) fun σ2 H2 => tb { D with nx := Pv (i + 1), ct := Pv (i + 1), bk := D.nx } σ2 H2) (hd : ∀ σ H, Pv kvs.length σ H → D.nx σ H) :
    ∃ W : Nat → Nat → L2.St → Hp → Prop, (∃ m, W 0 m σ H) ∧ ∀ i m σ H, W i m σ H →
      ((ItW kvs).stop i H ∧ D.nx σ H) ∨ ((ItW kvs).go i H ∧ ∃ N : L2.St → Hp → Prop, (∀ σ' H', N σ' H' → ∃ m', m' < m ∧ W (i + 1) m' σ' H') ∧ ∀ x H', (ItW kvs).yld i H x H' → g x σ H' fun σ2 H2 => tb { D with nx := N, ct := N, bk := D.nx } σ2 H2) := by
  refine ⟨fun i m σ H => i + m = kvs.length ∧ Pv i σ H, ⟨kvs.length, by omega, h0⟩, ?_⟩
  rintro i m σ H ⟨e, p⟩
  by_cases lt : i < kvs.length
  · refine Or.inr ⟨lt, Pv (i + 1), fun σ' H' q => ⟨m - 1, by omega, by omega, q⟩, ?_⟩
    rintro x H' ⟨T, k, v, hkv, rfl, nT, rfl⟩
    exact hs i k v σ H T hkv p nT
  · obtain rfl : i = kvs.length := by omega
    exact Or.inl ⟨Nat.le_refl _, hd σ H p⟩
end Pg

/-! Segments of a text: the mathematics. -/
namespace Pg
open PySem PySem.Spec PyProof.Rows L2

abbrev cd (z : Str) : List Nat := z.cps.toList
theorem cd_len (z : Str) : z.length = (cd z).length := by simp [Str.length]
theorem cd_inj {x y : Str} (h : cd x = cd y) : x = y := Str.ext' (Array.toList_inj.mp h)
theorem cd_app (x y : Str) : cd (x ++ y) = cd x ++ cd y := by
  show (x.cps ++ y.cps).toList = _
  rw [Array.toList_append]
/-- the signs from a to b -/
def sub (t : Str) (a b : Nat) : Str := ⟨(((cd t).drop a).take (b - a)).toArray⟩
theorem cd_sub (t : Str) (a b : Nat) : cd (sub t a b) = ((cd t).drop a).take (b - a) := rfl
theorem cut_sub (t : Str) (a b : Nat) : cutS t (some (a : Int)) (some (b : Int)) = sub t a b := by
  apply cd_inj
  unfold cutS
  rw [show HT.sIx t.length 0 (some (a : Int)) = min a t.length from HT.sIx_nat t.length 0 a, show HT.sIx t.length t.length (some (b : Int)) = min b t.length from HT.sIx_nat t.length t.length b, cd_len]
  show List.take (min b (cd t).length - min a (cd t).length) (List.drop (min a (cd t).length) (cd t)) = List.take (b - a) (List.drop a (cd t))
  by_cases h : a ≤ (cd t).length
  · rw [Nat.min_eq_left h, List.take_eq_take_iff, List.length_drop]
    omega
  · have h1 : (cd t).length ≤ a := by omega
    rw [Nat.min_eq_right h1, List.drop_of_length_le h1, List.drop_of_length_le (Nat.le_refl _), List.take_nil, List.take_nil]
theorem cut_from (t : Str) (a : Nat) : cutS t (some (a : Int)) none = sub t a t.length := by
  apply cd_inj
  unfold cutS
  rw [show HT.sIx t.length 0 (some (a : Int)) = min a t.length from HT.sIx_nat t.length 0 a, HT.sIx_none, cd_len]
  show List.take ((cd t).length - min a (cd t).length) (List.drop (min a (cd t).length) (cd t)) = List.take (t.length - a) (List.drop a (cd t))
  rw [cd_len]
  by_cases h : a ≤ (cd t).length
  · rw [Nat.min_eq_left h]
  · have h1 : (cd t).length ≤ a := by omega
    rw [Nat.min_eq_right h1, List.drop_of_length_le h1, List.drop_of_length_le (Nat.le_refl _), List.take_nil, List.take_nil]
theorem sub_len {t : Str} {a b : Nat} (h : b ≤ t.length) : (sub t a b).length = b - a := by
  rw [cd_len, cd_sub, List.length_take, List.length_drop, ← cd_len]
  omega
theorem sub_self (t : Str) (a : Nat) : sub t a a = ⟨#[]⟩ := by
  apply cd_inj
  rw [cd_sub, Nat.sub_self, List.take_zero]
theorem sub_full (t : Str) : sub t 0 t.length = t := by
  apply cd_inj
  rw [cd_sub, List.drop_zero, Nat.sub_zero, cd_len, List.take_length]
theorem sub_join {t : Str} {a b c : Nat} (h1 : a ≤ b) (h2 : b ≤ c) : sub t a b ++ sub t b c = sub t a c := by
  apply cd_inj
  rw [cd_app, cd_sub, cd_sub, cd_sub]
  have e : (cd t).drop b = ((cd t).drop a).drop (b - a) := by rw [List.drop_drop]; congr 1; omega
  rw [e]
  have e2 : c - a = (b - a) + (c - b) := by omega
  rw [e2, List.take_add]
theorem sub_one {t : Str} {a c : Nat} (h : (cd t)[a]? = some c) : sub t a (a + 1) = ⟨#[c]⟩ := by
  apply cd_inj
  rw [cd_sub]
  obtain ⟨lt, e⟩ := List.getElem?_eq_some_iff.mp h
  have e1 : a + 1 - a = 1 := by omega
  rw [e1, List.drop_eq_getElem_cons lt, e]
  rfl
/-- one sign there -/
theorem sub_is1 (t : Str) (a c : Nat) : sub t a (a + 1) = ⟨#[c]⟩ ↔ (cd t)[a]? = some c := by
  constructor
  · intro h
    have h2 := congrArg cd h
    rw [cd_sub, show a + 1 - a = 1 by omega] at h2
    cases e : (cd t)[a]? with
    | none =>
      rw [List.drop_of_length_le (List.getElem?_eq_none_iff.mp e)] at h2
      cases h2
    | some d =>
      obtain ⟨lt, e1⟩ := List.getElem?_eq_some_iff.mp e
      rw [List.drop_eq_getElem_cons lt, e1] at h2
      have h3 : [d] = [c] := h2
      rw [List.cons.inj h3 |>.1]
  · exact sub_one
theorem sub_is2 (t : Str) (a c d : Nat) : sub t a (a + 2) = ⟨#[c, d]⟩ ↔ (cd t)[a]? = some c ∧ (cd t)[a + 1]? = some d := by
  have j : sub t a (a + 1) ++ sub t (a + 1) (a + 2) = sub t a (a + 2) := sub_join (by omega) (by omega)
  constructor
  · intro h
    have h2 := congrArg cd h
    rw [cd_sub, show a + 2 - a = 2 by omega] at h2
    have h0 : ((cd t).drop a)[0]? = some c := by
      have : (List.take 2 ((cd t).drop a))[0]? = some c := by rw [h2]; rfl
      rw [List.getElem?_take_of_lt (by omega)] at this
      exact this
    have h1 : ((cd t).drop a)[1]? = some d := by
      have : (List.take 2 ((cd t).drop a))[1]? = some d := by rw [h2]; rfl
      rw [List.getElem?_take_of_lt (by omega)] at this
      exact this
    rw [List.getElem?_drop] at h0 h1
    exact ⟨h0, h1⟩
  · rintro ⟨h0, h1⟩
    rw [← j, sub_one h0, sub_one h1]
    rfl

/-- the first c from i on -/
def closeAt (t : Str) (c i : Nat) : Option Nat := if i + ((cd t).drop i).findIdx (· == c) < (cd t).length then some (i + ((cd t).drop i).findIdx (· == c)) else none
theorem close_some {t : Str} {c i k : Nat} (h1 : i ≤ k) (h2 : (cd t)[k]? = some c) (h3 : ∀ v, i ≤ v → v < k → (cd t)[v]? ≠ some c) : closeAt t c i = some k := by
  have hk : ((cd t).drop i)[k - i]? = some c := by rw [List.getElem?_drop]; rw [show i + (k - i) = k by omega]; exact h2
  obtain ⟨lt, e⟩ := List.getElem?_eq_some_iff.mp hk
  have lt2 : k < (cd t).length := (List.getElem?_eq_some_iff.mp h2).1
  have : ((cd t).drop i).findIdx (· == c) = k - i := by
    rw [List.findIdx_eq lt]
    refine ⟨by rw [e]; exact beq_self_eq_true c, fun j hj => ?_⟩
    have hjl : j < ((cd t).drop i).length := by omega
    rw [beq_eq_false_iff_ne]
    intro e2
    apply h3 (i + j) (by omega) (by omega)
    have h4 : ((cd t).drop i)[j]? = some c := by rw [List.getElem?_eq_getElem hjl, e2]
    rw [List.getElem?_drop] at h4
    exact h4
  unfold closeAt
  rw [this, if_pos (by omega)]
  congr 1
  omega
theorem close_is {t : Str} {c i k : Nat} (h : closeAt t c i = some k) : i ≤ k ∧ k < t.length ∧ (cd t)[k]? = some c ∧ ∀ v, i ≤ v → v < k → (cd t)[v]? ≠ some c := by
  unfold closeAt at h
  by_cases lt : i + ((cd t).drop i).findIdx (· == c) < (cd t).length
  · rw [if_pos lt] at h
    have hk2 : i + ((cd t).drop i).findIdx (· == c) = k := Option.some.inj h
    have lt3 : ((cd t).drop i).findIdx (· == c) < ((cd t).drop i).length := by rw [List.length_drop]; omega
    have e := List.findIdx_getElem (w := lt3)
    have at_k : ((cd t).drop i)[((cd t).drop i).findIdx (· == c)]? = some c := by rw [List.getElem?_eq_getElem lt3, eq_of_beq e]
    rw [List.getElem?_drop, hk2] at at_k
    refine ⟨by omega, by rw [cd_len]; omega, at_k, fun v hv1 hv2 hv3 => ?_⟩
    have hlt : v - i < ((cd t).drop i).findIdx (· == c) := by omega
    have := List.not_of_lt_findIdx hlt
    have h4 : ((cd t).drop i)[v - i]? = some c := by rw [List.getElem?_drop]; rw [show i + (v - i) = v by omega]; exact hv3
    obtain ⟨lt4, e4⟩ := List.getElem?_eq_some_iff.mp h4
    rw [e4] at this
    simp at this
  · rw [if_neg lt] at h
    cases h
theorem close_none {t : Str} {c i : Nat} (h : ∀ v, i ≤ v → (cd t)[v]? ≠ some c) : closeAt t c i = none := by
  cases e : closeAt t c i with
  | none => rfl
  | some k =>
    obtain ⟨h1, _, h2, _⟩ := close_is e
    exact absurd h2 (h k h1)
theorem close_free {t : Str} {c i : Nat} (h : closeAt t c i = none) : ∀ v, i ≤ v → (cd t)[v]? ≠ some c := by
  intro v h1 h2
  have fd : ∀ m k, k - i = m → i ≤ k → (cd t)[k]? = some c → False := by
    intro m
    induction m using Nat.strongRecOn with
    | _ m ih =>
      intro k hm hk1 hk2
      by_cases ex : ∀ v, i ≤ v → v < k → (cd t)[v]? ≠ some c
      · rw [close_some hk1 hk2 ex] at h
        cases h
      · have ⟨v, hv⟩ : ∃ v, ¬ (i ≤ v → v < k → (cd t)[v]? ≠ some c) := Classical.not_forall.mp ex
        have h1' : i ≤ v := Classical.byContradiction fun z => hv fun a => absurd a z
        have h2' : v < k := Classical.byContradiction fun z => hv fun _ b => absurd b z
        have h3' : (cd t)[v]? = some c := Classical.byContradiction fun z => hv fun _ _ => z
        exact ih (v - i) (by omega) v rfl h1' h3'
  exact fd _ v rfl h1 h2
/-- the sign at the start is another: one may begin behind it -/
theorem close_step {t : Str} {c i d : Nat} (h : (cd t)[i]? = some d) (ne : d ≠ c) : closeAt t c i = closeAt t c (i + 1) := by
  have skip : ∀ v, i ≤ v → (cd t)[v]? = some c → i + 1 ≤ v := fun v h1 h2 => by
    by_cases e : v = i
    · rw [e, h] at h2
      exact absurd (Option.some.inj h2) ne
    · omega
  cases e : closeAt t c (i + 1) with
  | none => exact close_none fun v h1 h2 => close_free e v (skip v h1 h2) h2
  | some k =>
    obtain ⟨h1, _, h2, h3⟩ := close_is e
    exact close_some (by omega) h2 fun v v1 v2 v3 => h3 v (skip v v1 v3) v2 v3
/-- str.find of one sign -/
theorem find_close (t : Str) (c i : Nat) : Txt.find3 t ⟨#[c]⟩ (i : Int) = match closeAt t c i with | some k => (k : Int) | none => -1 := by
  have fi : PySem.fromIndex t.length (i : Int) = i := by
    unfold PySem.fromIndex
    rw [if_neg (by omega)]
    omega
  have gd : ∀ v, v < t.length → ((cd t)[v]? = some c ↔ t.cps.getD v 0 = c) := by
    intro v hv
    constructor
    · intro h
      exact StrLaws.getD_of_getElem? h
    · intro h
      exact StrLaws.getElem?_of_getD hv h
  have big : ∀ v, (cd t)[v]? = some c → v < t.length := fun v h => by rw [cd_len]; exact (List.getElem?_eq_some_iff.mp h).1
  rcases StrLaws.find3_spec t c (i : Int) with ⟨h0, hn⟩ | ⟨k, h0, h1, h2, h3, h4⟩
  · rw [fi] at hn
    rw [close_none fun v hv hs => hn v hv (big v hs) ((gd v (big v hs)).mp hs), h0]
  · rw [fi] at h1 h4
    rw [close_some h1 ((gd k h2).mpr h3) fun v hv1 hv2 hs => h4 v hv1 hv2 ((gd v (big v hs)).mp hs), h0]
end Pg

/-! What splits a text. -/
namespace Pg
open PySem PySem.Spec PyProof.Rows L2
abbrev Seg := Str × Str
/-- the segment that is no text and begins at i: its kind, its name, the place behind it -/
def brk (N A : Str → Bool) (t : Str) (i : Nat) : Option (Str × Str × Nat) :=
  if (cd t)[i]? = some 91 then
    match closeAt t 93 (i + 1) with
    | some e => if N (sub t (i + 1) e) = true then some ("link", sub t (i + 1) e, e + 1) else none
    | none => none
  else if (cd t)[i]? = some 60 then
    match closeAt t 62 (i + 1) with
    | some e =>
      if (cd t)[i + 1]? = some 64 then (if (N (sub t (i + 2) e) && A (sub t (i + 2) e)) = true then some ("indirect", sub t (i + 2) e, e + 1) else none)
      else (if (N (sub t (i + 1) e) && A (sub t (i + 1) e)) = true then some ("include", sub t (i + 1) e, e + 1) else none)
    | none => none
  else none
/-- a segment's own text -/
def textOf (s : Seg) : Str := if s.1 = "text" then s.2 else if s.1 = "include" then "<" ++ s.2 ++ ">" else if s.1 = "indirect" then "<@" ++ s.2 ++ ">" else "[" ++ s.2 ++ "]"
theorem text_link (z : Str) : textOf ("link", z) = "[" ++ z ++ "]" := by
  unfold textOf
  rw [if_neg (show ¬ (("link" : Str) = "text") by decide +kernel), if_neg (show ¬ (("link" : Str) = "include") by decide +kernel), if_neg (show ¬ (("link" : Str) = "indirect") by decide +kernel)]
theorem text_ind (z : Str) : textOf ("indirect", z) = "<@" ++ z ++ ">" := by
  unfold textOf
  rw [if_neg (show ¬ (("indirect" : Str) = "text") by decide +kernel), if_neg (show ¬ (("indirect" : Str) = "include") by decide +kernel), if_pos rfl]
theorem text_inc (z : Str) : textOf ("include", z) = "<" ++ z ++ ">" := by
  unfold textOf
  rw [if_neg (show ¬ (("include" : Str) = "text") by decide +kernel), if_pos rfl]
theorem s60 : ("<" : Str) = ⟨#[60]⟩ := by decide +kernel
theorem s62 : (">" : Str) = ⟨#[62]⟩ := by decide +kernel
theorem s91 : ("[" : Str) = ⟨#[91]⟩ := by decide +kernel
theorem s93 : ("]" : Str) = ⟨#[93]⟩ := by decide +kernel
theorem s6064 : ("<@" : Str) = ⟨#[60, 64]⟩ := by decide +kernel
theorem s0 : ("" : Str) = ⟨#[]⟩ := by decide +kernel
theorem wrap1 {t : Str} {i e : Nat} {b c : Nat} (h1 : i + 1 ≤ e) (hb : (cd t)[i]? = some b) (hc : (cd t)[e]? = some c) : (⟨#[b]⟩ : Str) ++ sub t (i + 1) e ++ ⟨#[c]⟩ = sub t i (e + 1) := by
  rw [← sub_one hb, ← sub_one hc, sub_join (by omega) h1, sub_join (by omega) (by omega)]
theorem wrap2 {t : Str} {i e : Nat} {b d c : Nat} (h1 : i + 2 ≤ e) (hb : (cd t)[i]? = some b) (hd : (cd t)[i + 1]? = some d) (hc : (cd t)[e]? = some c) : (⟨#[b, d]⟩ : Str) ++ sub t (i + 2) e ++ ⟨#[c]⟩ = sub t i (e + 1) := by
  rw [← (sub_is2 t i b d).mpr ⟨hb, hd⟩, ← sub_one hc, sub_join (by omega) h1, sub_join (by omega) (by omega)]
def kinds : List Str := ["include", "indirect", "link"]
theorem kinds_no : ∀ k ∈ kinds, k ≠ "text" := by decide +kernel
theorem brk_is {N A : Str → Bool} {t k z : Str} {i e : Nat} (h : brk N A t i = some (k, z, e)) : i < e ∧ e ≤ t.length ∧ textOf (k, z) = sub t i e ∧ k ∈ kinds ∧ z.length ≤ t.length := by
  unfold brk at h
  by_cases h1 : (cd t)[i]? = some 91
  · rw [if_pos h1] at h
    split at h
    · rename_i e0 he
      obtain ⟨c1, c2, c3, _⟩ := close_is he
      split at h
      · cases h
        refine ⟨by omega, by omega, ?_, by decide +kernel, by rw [sub_len (by omega)]; omega⟩
        rw [← wrap1 c1 h1 c3, ← s91, ← s93, text_link]
      · cases h
    · cases h
  · rw [if_neg h1] at h
    by_cases h2 : (cd t)[i]? = some 60
    · rw [if_pos h2] at h
      split at h
      · rename_i e0 he
        obtain ⟨c1, c2, c3, c4⟩ := close_is he
        by_cases h3 : (cd t)[i + 1]? = some 64
        · rw [if_pos h3] at h
          split at h
          · cases h
            have c1' : i + 2 ≤ e0 := by
              by_cases e : e0 = i + 1
              · subst e
                rw [h3] at c3
                cases c3
              · omega
            refine ⟨by omega, by omega, ?_, by decide +kernel, by rw [sub_len (by omega)]; omega⟩
            rw [← wrap2 c1' h2 h3 c3, ← s6064, ← s62, text_ind]
          · cases h
        · rw [if_neg h3] at h
          split at h
          · cases h
            refine ⟨by omega, by omega, ?_, by decide +kernel, by rw [sub_len (by omega)]; omega⟩
            rw [← wrap1 c1 h2 c3, ← s60, ← s62, text_inc]
          · cases h
      · cases h
    · rw [if_neg h2] at h
      cases h
/-- plain signs as a segment, or none -/
def plain (z : Str) : List Seg := if z = ⟨#[]⟩ then [] else [("text", z)]
/-- the segments, when all before `done` is told and i is reached -/
def segs (N A : Str → Bool) (t : Str) (done i : Nat) : List Seg :=
  if i < t.length then
    match brk N A t i with
    | none => segs N A t done (i + 1)
    | some (k, z, e) => if i < e then plain (sub t done i) ++ ((k, z) :: segs N A t e e) else []
  else plain (sub t done t.length)
termination_by t.length - i
theorem segs_end {N A : Str → Bool} {t : Str} {done i : Nat} (h : ¬ i < t.length) : segs N A t done i = plain (sub t done t.length) := by
  rw [segs, if_neg h]
theorem segs_none {N A : Str → Bool} {t : Str} {done i : Nat} (h : i < t.length) (b : brk N A t i = none) : segs N A t done i = segs N A t done (i + 1) := by
  rw [segs, if_pos h, b]
theorem segs_some {N A : Str → Bool} {t k z : Str} {done i e : Nat} (h : i < t.length) (b : brk N A t i = some (k, z, e)) : segs N A t done i = plain (sub t done i) ++ ((k, z) :: segs N A t e e) := by
  rw [segs, if_pos h, b]
  simp only
  rw [if_pos (brk_is b).1]
/-- texts one behind another -/
def glue : List Str → Str
  | [] => ⟨#[]⟩
  | x :: r => x ++ glue r
theorem glue_app : ∀ a b : List Str, glue (a ++ b) = glue a ++ glue b
  | [], b => by
    apply cd_inj
    rw [cd_app]
    rfl
  | x :: a, b => by
    show x ++ glue (a ++ b) = x ++ glue a ++ glue b
    rw [glue_app a b]
    apply cd_inj
    simp only [cd_app, List.append_assoc]
theorem glue_plain (z : Str) : glue ((plain z).map textOf) = z := by
  unfold plain
  split
  · rename_i e
    rw [e]
    rfl
  · apply cd_inj
    show cd (textOf ("text", z) ++ ⟨#[]⟩) = _
    rw [cd_app]
    unfold textOf
    rw [if_pos rfl]
    simp
theorem glue_segs (N A : Str → Bool) (t : Str) : ∀ (m done i : Nat), t.length - i = m → done ≤ i → i ≤ t.length → glue ((segs N A t done i).map textOf) = sub t done t.length := by
  intro m
  induction m using Nat.strongRecOn with
  | _ m ih =>
    intro done i hm h1 h2
    by_cases lt : i < t.length
    · cases b : brk N A t i with
      | none =>
        rw [segs_none lt b]
        exact ih (t.length - (i + 1)) (by omega) done (i + 1) rfl (by omega) (by omega)
      | some r =>
        obtain ⟨k, z, e⟩ := r
        obtain ⟨b1, b2, b3, _⟩ := brk_is b
        rw [segs_some lt b, List.map_append, glue_app, glue_plain, List.map_cons]
        show sub t done i ++ (textOf (k, z) ++ glue ((segs N A t e e).map textOf)) = _
        rw [ih (t.length - e) (by omega) e e rfl (Nat.le_refl _) b2, b3, sub_join (by omega) b2, sub_join h1 (by omega)]
    · rw [segs_end lt, glue_plain]
theorem glue_all (N A : Str → Bool) (t : Str) : glue ((segs N A t 0 0).map textOf) = t := by
  rw [glue_segs N A t t.length 0 0 rfl (Nat.le_refl _) (Nat.zero_le _), sub_full]
def noText : Seg := (("text" : Str), (⟨#[]⟩ : Str))
/-- no empty text, no text beside another one -/
def okL : List Seg → Prop
  | [] => True
  | s :: r => s ≠ noText ∧ (∀ s', r.head? = some s' → ¬ (s.1 = "text" ∧ s'.1 = "text")) ∧ okL r
theorem okL_plain {z : Str} {r : List Seg} (h : okL r) (no : ∀ s, r.head? = some s → s.1 ≠ "text") : okL (plain z ++ r) := by
  unfold plain
  split
  · exact h
  · rename_i e
    exact ⟨fun q => e (Prod.mk.inj q).2, fun s' hs q => no s' hs q.2, h⟩
theorem okL_segs (N A : Str → Bool) (t : Str) : ∀ (m done i : Nat), t.length - i = m → i ≤ t.length → okL (segs N A t done i) := by
  intro m
  induction m using Nat.strongRecOn with
  | _ m ih =>
    intro done i hm h2
    by_cases lt : i < t.length
    · cases b : brk N A t i with
      | none =>
        rw [segs_none lt b]
        exact ih (t.length - (i + 1)) (by omega) done (i + 1) rfl (by omega)
      | some r =>
        obtain ⟨k, z, e⟩ := r
        obtain ⟨b1, b2, b3, b4, _⟩ := brk_is b
        have kn := kinds_no k b4
        rw [segs_some lt b]
        apply okL_plain
        · refine ⟨fun q => kn (Prod.mk.inj q).1, fun s' _ q => kn q.1, ih (t.length - e) (by omega) e e rfl b2⟩
        · intro s hs
          cases hs
          exact kn
    · rw [segs_end lt]
      have : plain (sub t done t.length) = plain (sub t done t.length) ++ [] := (List.append_nil _).symm
      rw [this]
      exact okL_plain trivial (fun s hs => by cases hs)
theorem okL_get : ∀ {l : List Seg} {i : Nat} {s : Seg}, okL l → l[i]? = some s → s ≠ noText ∧ ∀ j r, i = j + 1 → l[j]? = some r → ¬ (s.1 = "text" ∧ r.1 = "text")
  | [], _, _, _, h => by simp at h
  | x :: l, 0, s, ok, h => by
    obtain rfl : x = s := Option.some.inj h
    exact ⟨ok.1, fun j r e => by omega⟩
  | x :: l, i + 1, s, ok, h => by
    have h' : l[i]? = some s := by simpa using h
    obtain ⟨a, b⟩ := okL_get ok.2.2 h'
    refine ⟨a, fun j r e hr => ?_⟩
    obtain rfl : i = j := by omega
    cases i with
    | zero =>
      obtain rfl : x = r := by simpa using hr
      have hd : l.head? = some s := by rw [List.head?_eq_getElem?]; exact h'
      exact fun q => ok.2.1 s hd ⟨q.2, q.1⟩
    | succ i =>
      have hr' : l[i]? = some r := by simpa using hr
      exact b i r rfl hr'
theorem segs_few (N A : Str → Bool) (t : Str) : ∀ (m done i : Nat), t.length - i = m → i ≤ t.length → (segs N A t done i).length ≤ 2 * (t.length - i) + 1 := by
  intro m
  have pl : ∀ z : Str, (plain z).length ≤ 1 := fun z => by unfold plain; split <;> simp
  induction m using Nat.strongRecOn with
  | _ m ih =>
    intro done i hm h2
    by_cases lt : i < t.length
    · cases b : brk N A t i with
      | none =>
        rw [segs_none lt b]
        have := ih (t.length - (i + 1)) (by omega) done (i + 1) rfl (by omega)
        omega
      | some r =>
        obtain ⟨k, z, e⟩ := r
        obtain ⟨b1, b2, _⟩ := brk_is b
        rw [segs_some lt b, List.length_append, List.length_cons]
        have h1 := pl (sub t done i)
        have h2 := ih (t.length - e) (by omega) e e rfl b2
        omega
    · rw [segs_end lt]
      have := pl (sub t done t.length)
      omega
end Pg
namespace Pg
open PySem PySem.Spec PyProof.Rows L2
/-- one kind, tried at i -/
def tryK (N A : Str → Bool) (t : Str) (i : Nat) (k b : Str) (c : Nat) : Option (Str × Str × Nat) :=
  if sub t i (i + b.length) = b then
    match closeAt t c (i + b.length) with
    | some e => if (N (sub t (i + b.length) e) && (decide (k = "link") || A (sub t (i + b.length) e))) = true then some (k, sub t (i + b.length) e, e + 1) else none
    | none => none
  else none
theorem brk_try {N A : Str → Bool} {t : Str} {i : Nat} (hN : ∀ z, N z = true → 64 ∉ cd z) :
    brk N A t i = ((tryK N A t i "include" "<" 62).or ((tryK N A t i "indirect" "<@" 62).or (tryK N A t i "link" "[" 93))) := by
  have l1 : ("<" : Str).length = 1 := rfl
  have l2 : ("<@" : Str).length = 2 := rfl
  have l3 : ("[" : Str).length = 1 := rfl
  have k1 : decide (("include" : Str) = "link") = false := by decide +kernel
  have k2 : decide (("indirect" : Str) = "link") = false := by decide +kernel
  have k3 : decide (("link" : Str) = "link") = true := decide_eq_true rfl
  unfold brk tryK
  rw [l1, l2, l3, k1, k2, k3]
  simp only [s60, s6064, s91, sub_is1, sub_is2, Bool.false_or, Bool.true_or, Bool.and_true]
  by_cases h1 : (cd t)[i]? = some 91
  · have n60 : ¬ (cd t)[i]? = some 60 := by rw [h1]; simp
    rw [if_pos h1, if_neg n60, if_neg (fun z => n60 z.1), if_pos h1]
    rfl
  · rw [if_neg h1]
    by_cases h2 : (cd t)[i]? = some 60
    · rw [if_pos h2, if_pos h2, if_neg h1]
      by_cases h3 : (cd t)[i + 1]? = some 64
      · rw [if_pos ⟨h2, h3⟩]
        have cs : closeAt t 62 (i + 1) = closeAt t 62 (i + 2) := close_step h3 (by decide)
        rw [← cs]
        cases e : closeAt t 62 (i + 1) with
        | none => rfl
        | some k =>
          obtain ⟨c1, c2, c3, _⟩ := close_is e
          have no : N (sub t (i + 1) k) = false := by
            cases q : N (sub t (i + 1) k) with
            | false => rfl
            | true =>
              exfalso
              apply hN _ q
              have lt : i + 1 < k := by
                by_cases z : k = i + 1
                · subst z
                  rw [h3] at c3
                  cases c3
                · omega
              have : (cd (sub t (i + 1) k))[0]? = some 64 := by
                rw [cd_sub, List.getElem?_take_of_lt (by omega), List.getElem?_drop]
                exact h3
              exact List.mem_of_getElem? this
          simp only [h3, no, if_true, Bool.false_and, Bool.false_eq_true, if_false, Option.none_or, Option.or_none]
      · rw [if_neg (fun z => h3 z.2)]
        cases e : closeAt t 62 (i + 1) with
        | none => rfl
        | some k => simp only [h3, if_false, Option.or_none]
    · rw [if_neg h2, if_neg h2, if_neg (fun z => h2 z.1), if_neg h1]
      rfl
theorem segs_kinds (N A : Str → Bool) (t : Str) : ∀ (m done i : Nat), t.length - i = m → done ≤ i → i ≤ t.length → ∀ s ∈ segs N A t done i, (s.1 = "text" ∨ s.1 ∈ kinds) ∧ s.2.length ≤ t.length := by
  intro m
  have pl : ∀ a b : Nat, b ≤ t.length → ∀ s ∈ plain (sub t a b), (s.1 = "text" ∨ s.1 ∈ kinds) ∧ s.2.length ≤ t.length := by
    intro a b hb s hs
    unfold plain at hs
    split at hs
    · cases hs
    · rw [List.mem_singleton.mp hs]
      exact ⟨Or.inl rfl, by show (sub t a b).length ≤ _; rw [sub_len hb]; omega⟩
  induction m using Nat.strongRecOn with
  | _ m ih =>
    intro done i hm h1 h2 s hs
    by_cases lt : i < t.length
    · cases b : brk N A t i with
      | none =>
        rw [segs_none lt b] at hs
        exact ih (t.length - (i + 1)) (by omega) done (i + 1) rfl (by omega) (by omega) s hs
      | some r =>
        obtain ⟨k, z, e⟩ := r
        obtain ⟨b1, b2, _, b4, b5⟩ := brk_is b
        rw [segs_some lt b] at hs
        rcases List.mem_append.mp hs with h | h
        · exact pl done i h2 s h
        · rcases List.mem_cons.mp h with h | h
          · rw [h]
            exact ⟨Or.inr b4, b5⟩
          · exact ih (t.length - e) (by omega) e e rfl (Nat.le_refl _) b2 s h
    · rw [segs_end lt] at hs
      exact pl done t.length (Nat.le_refl _) s hs
end Pg
namespace Pg
open PySem PySem.Spec PyProof.Rows L2
/-- signs that there are -/
def Codes (z : Str) : Prop := ∀ c ∈ cd z, c < 1114112
theorem Codes.ok {z : Str} (h : Codes z) : PyData.strOk z = true := by
  unfold PyData.strOk
  rw [← Array.all_toList, List.all_eq_true]
  intro c hc
  exact decide_eq_true (h c hc)
theorem Codes.sub {t : Str} (h : Codes t) (a b : Nat) : Codes (sub t a b) := fun c hc => h c (List.mem_of_mem_drop (List.mem_of_mem_take hc))
theorem kinds_codes : ∀ k ∈ (("text" : Str) :: kinds), k.cps.toList.all (fun c => decide (c < 127)) = true ∧ k.length ≤ 8 := by decide +kernel
theorem kind_codes {k : Str} (h : k = "text" ∨ k ∈ kinds) : Codes k := fun c hc => by
  have m : k ∈ (("text" : Str) :: kinds) := by
    rcases h with h | h
    · rw [h]; exact List.mem_cons_self
    · exact List.mem_cons_of_mem _ h
  have := of_decide_eq_true (List.all_eq_true.mp (kinds_codes k m).1 c hc)
  omega
/-- a segment of a text: its kind, its signs -/
def Fine (t : Str) (s : Seg) : Prop := (s.1 = "text" ∨ s.1 ∈ kinds) ∧ s.2.length ≤ t.length ∧ ∀ c ∈ cd s.2, c ∈ cd t
theorem plain_fine {t : Str} {a b : Nat} (hb : b ≤ t.length) : ∀ s ∈ plain (sub t a b), Fine t s := by
  intro s hs
  unfold plain at hs
  split at hs
  · cases hs
  · rw [List.mem_singleton.mp hs]
    exact ⟨Or.inl rfl, by show (sub t a b).length ≤ _; rw [sub_len hb]; omega, fun c hc => List.mem_of_mem_drop (List.mem_of_mem_take hc)⟩
theorem brk_part {N A : Str → Bool} {t k z : Str} {i e : Nat} (h : brk N A t i = some (k, z, e)) : ∀ c ∈ cd z, c ∈ cd t := by
  have sb : ∀ a b, ∀ c ∈ cd (sub t a b), c ∈ cd t := fun a b c hc => List.mem_of_mem_drop (List.mem_of_mem_take hc)
  unfold brk at h
  repeat' split at h
  all_goals first
    | (cases h; done)
    | (cases h; exact sb _ _)
theorem segs_fine (N A : Str → Bool) (t : Str) : ∀ (m done i : Nat), t.length - i = m → done ≤ i → i ≤ t.length → ∀ s ∈ segs N A t done i, Fine t s := by
  intro m
  induction m using Nat.strongRecOn with
  | _ m ih =>
    intro done i hm h1 h2 s hs
    by_cases lt : i < t.length
    · cases b : brk N A t i with
      | none =>
        rw [segs_none lt b] at hs
        exact ih (t.length - (i + 1)) (by omega) done (i + 1) rfl (by omega) (by omega) s hs
      | some r =>
        obtain ⟨k, z, e⟩ := r
        obtain ⟨b1, b2, _, b4, b5⟩ := brk_is b
        rw [segs_some lt b] at hs
        rcases List.mem_append.mp hs with h | h
        · exact plain_fine h2 s h
        · rcases List.mem_cons.mp h with h | h
          · rw [h]
            exact ⟨Or.inr b4, b5, brk_part b⟩
          · exact ih (t.length - e) (by omega) e e rfl (Nat.le_refl _) b2 s h
    · rw [segs_end lt] at hs
      exact plain_fine (Nat.le_refl _) s hs
end Pg
namespace Pg
open PySem PySem.Spec PyProof.Rows L2
theorem brk_after {N A : Str → Bool} {t k z : Str} {i e : Nat} (h : brk N A t i = some (k, z, e)) : (k = "link" ∧ N z = true) ∨ ((k = "include" ∨ k = "indirect") ∧ N z = true ∧ A z = true) := by
  unfold brk at h
  repeat' split at h
  all_goals first
    | (cases h; done)
    | (rename_i q; cases h; exact .inl ⟨rfl, q⟩)
    | (rename_i q; cases h; obtain ⟨q1, q2⟩ := Bool.and_eq_true_iff.mp q; exact .inr ⟨.inl rfl, q1, q2⟩)
    | (rename_i q; cases h; obtain ⟨q1, q2⟩ := Bool.and_eq_true_iff.mp q; exact .inr ⟨.inr rfl, q1, q2⟩)
theorem plain_kind {z : Str} : ∀ s ∈ plain z, s.1 = "text" := by
  intro s hs
  unfold plain at hs
  split at hs
  · cases hs
  · rw [List.mem_singleton.mp hs]
theorem segs_after (N A : Str → Bool) (t : Str) : ∀ (m done i : Nat), t.length - i = m → i ≤ t.length → ∀ s ∈ segs N A t done i, s.1 = "text" ∨ (s.1 = "link" ∧ N s.2 = true) ∨ ((s.1 = "include" ∨ s.1 = "indirect") ∧ N s.2 = true ∧ A s.2 = true) := by
  intro m
  induction m using Nat.strongRecOn with
  | _ m ih =>
    intro done i hm h2 s hs
    by_cases lt : i < t.length
    · cases b : brk N A t i with
      | none =>
        rw [segs_none lt b] at hs
        exact ih (t.length - (i + 1)) (by omega) done (i + 1) rfl (by omega) s hs
      | some r =>
        obtain ⟨k, z, e⟩ := r
        obtain ⟨b1, b2, _⟩ := brk_is b
        rw [segs_some lt b] at hs
        rcases List.mem_append.mp hs with h | h
        · exact .inl (plain_kind s h)
        · rcases List.mem_cons.mp h with h | h
          · rw [h]
            exact .inr (brk_after b)
          · exact ih (t.length - e) (by omega) e e rfl b2 s h
    · rw [segs_end lt] at hs
      exact .inl (plain_kind s hs)
end Pg

/-! Dicts with texts as keys, as rows of pairs. -/
namespace Pg
open PySem PySem.Spec PyProof.Rows L2
section
variable {β : Type}
/-- the row of pairs as the dict's own -/
def enc (f : β → V) (kvs : List (Str × β)) : List (Key × V) := kvs.map fun p => (Sum.inr p.1, f p.2)
def getS : List (Str × β) → Str → Option β
  | [], _ => none
  | p :: r, k => if p.1 = k then some p.2 else getS r k
/-- in its place, or at the end -/
def putS : List (Str × β) → Str → β → List (Str × β)
  | [], k, v => [(k, v)]
  | p :: r, k, v => if p.1 = k then (p.1, v) :: r.map (fun q => if q.1 = k then (q.1, v) else q) else p :: putS r k v
theorem valV_enc (f : β → V) : ∀ (kvs : List (Str × β)) (k : Str), valV (enc f kvs) (Sum.inr k) = (getS kvs k).map f
  | [], k => rfl
  | p :: r, k => by
    by_cases e : p.1 = k
    · rw [show enc f (p :: r) = (Sum.inr p.1, f p.2) :: enc f r from rfl, valV_pos (by rw [e]), getS, if_pos e]
      rfl
    · rw [show enc f (p :: r) = (Sum.inr p.1, f p.2) :: enc f r from rfl, valV_neg (fun h => e (Sum.inr.inj h)), getS, if_neg e]
      exact valV_enc f r k
theorem any_enc (f : β → V) : ∀ (kvs : List (Str × β)) (k : Str), ((enc f kvs).any fun kv => decide (kv.1 = Sum.inr k)) = (getS kvs k).isSome
  | [], k => rfl
  | p :: r, k => by
    rw [show enc f (p :: r) = (Sum.inr p.1, f p.2) :: enc f r from rfl, List.any_cons, getS]
    by_cases e : p.1 = k
    · rw [if_pos e, decide_eq_true (by rw [e]), Bool.true_or]
      rfl
    · rw [if_neg e, decide_eq_false (fun h => e (Sum.inr.inj h)), Bool.false_or]
      exact any_enc f r k
theorem map_enc (f : β → V) (k : Str) (v : β) : ∀ kvs : List (Str × β), (enc f kvs).map (fun kv => if kv.1 = Sum.inr k then (kv.1, f v) else kv) = enc f (kvs.map fun q => if q.1 = k then (q.1, v) else q)
  | [] => rfl
  | p :: r => by
    have ih := map_enc f k v r
    show (if (Sum.inr p.1 : Key) = Sum.inr k then ((Sum.inr p.1 : Key), f v) else (Sum.inr p.1, f p.2)) :: (enc f r).map _ = (Sum.inr (if p.1 = k then (p.1, v) else p).1, f (if p.1 = k then (p.1, v) else p).2) :: enc f (r.map _)
    rw [ih]
    by_cases e : p.1 = k
    · rw [if_pos e, if_pos (by rw [e])]
    · rw [if_neg e, if_neg (fun h => e (Sum.inr.inj h))]
theorem putS_has : ∀ {kvs : List (Str × β)} {k : Str} {v : β}, (getS kvs k).isSome = true → putS kvs k v = kvs.map (fun q => if q.1 = k then (q.1, v) else q)
  | [], k, v, h => by cases h
  | p :: r, k, v, h => by
    unfold putS
    by_cases e : p.1 = k
    · rw [if_pos e, List.map_cons, if_pos e]
    · rw [getS, if_neg e] at h
      rw [if_neg e, putS_has h, List.map_cons, if_neg e]
theorem putS_new : ∀ {kvs : List (Str × β)} {k : Str} {v : β}, (getS kvs k).isSome = false → putS kvs k v = kvs ++ [(k, v)]
  | [], k, v, h => rfl
  | p :: r, k, v, h => by
    unfold putS
    by_cases e : p.1 = k
    · rw [getS, if_pos e] at h
      cases h
    · rw [getS, if_neg e] at h
      rw [if_neg e, putS_new h]
      rfl
theorem putK_enc (f : β → V) (kvs : List (Str × β)) (k : Str) (v : β) : putK (enc f kvs) (Sum.inr k) (f v) = enc f (putS kvs k v) := by
  unfold putK
  rw [any_enc]
  cases e : (getS kvs k).isSome with
  | true => rw [if_pos rfl, putS_has e, map_enc]
  | false =>
    rw [if_neg Bool.false_ne_true, putS_new e]
    unfold enc
    rw [List.map_append]
    rfl
theorem keys_put : ∀ (kvs : List (Str × β)) (k : Str) (v : β), (putS kvs k v).map (·.1) = if (getS kvs k).isSome = true then kvs.map (·.1) else kvs.map (·.1) ++ [k] := by
  intro kvs k v
  cases e : (getS kvs k).isSome with
  | true =>
    rw [if_pos rfl, putS_has e, List.map_map]
    refine List.map_congr_left fun p _ => ?_
    show (if p.1 = k then (p.1, v) else p).1 = p.1
    split <;> rfl
  | false =>
    rw [if_neg Bool.false_ne_true, putS_new e, List.map_append]
    rfl
theorem get_some : ∀ {kvs : List (Str × β)} {k : Str} {v : β}, getS kvs k = some v → (k, v) ∈ kvs
  | [], k, v, h => by cases h
  | p :: r, k, v, h => by
    rw [getS] at h
    by_cases e : p.1 = k
    · rw [if_pos e] at h
      obtain rfl := Option.some.inj h
      rw [← e]
      exact List.mem_cons_self
    · rw [if_neg e] at h
      exact List.mem_cons_of_mem _ (get_some h)
theorem get_none : ∀ {kvs : List (Str × β)} {k : Str}, getS kvs k = none ↔ k ∉ kvs.map (·.1)
  | [], k => ⟨fun _ h => (by cases h), fun _ => rfl⟩
  | p :: r, k => by
    rw [getS, List.map_cons, List.mem_cons]
    by_cases e : p.1 = k
    · rw [if_pos e]
      exact ⟨fun h => (by cases h), fun h => absurd (Or.inl e.symm) h⟩
    · rw [if_neg e, get_none]
      exact ⟨fun h z => z.elim (fun q => e q.symm) h, fun h z => h (Or.inr z)⟩
theorem nodup_put {kvs : List (Str × β)} (k : Str) (v : β) (h : (kvs.map (·.1)).Nodup) : ((putS kvs k v).map (·.1)).Nodup := by
  rw [keys_put]
  split
  · exact h
  · rename_i e
    have n : getS kvs k = none := by
      cases q : getS kvs k with
      | none => rfl
      | some _ => rw [q] at e; exact absurd rfl e
    have nin := get_none.mp n
    rw [List.nodup_append]
    exact ⟨h, by simp, fun a ha c hc => by rw [List.mem_singleton.mp hc]; rintro rfl; exact nin ha⟩
theorem mem_put {kvs : List (Str × β)} {k : Str} {v : β} {p : Str × β} (h : p ∈ putS kvs k v) : p = (k, v) ∨ p ∈ kvs := by
  cases e : (getS kvs k).isSome with
  | true =>
    rw [putS_has e] at h
    obtain ⟨q, hq, rfl⟩ := List.mem_map.mp h
    by_cases z : q.1 = k
    · rw [if_pos z, z]
      exact Or.inl rfl
    · rw [if_neg z]
      exact Or.inr hq
  | false =>
    rw [putS_new e] at h
    rcases List.mem_append.mp h with h | h
    · exact Or.inr h
    · exact Or.inl (List.mem_singleton.mp h)
theorem get_put {kvs : List (Str × β)} {k j : Str} {v : β} : getS (putS kvs k v) j = if j = k then some v else getS kvs j := by
  induction kvs with
  | nil =>
    show (if k = j then some v else none) = _
    by_cases e : j = k
    · rw [if_pos e, if_pos e.symm]
    · rw [if_neg e, if_neg (fun h => e h.symm)]
      rfl
  | cons p r ih =>
    unfold putS
    by_cases e : p.1 = k
    · rw [if_pos e]
      by_cases z : j = k
      · rw [if_pos z, getS, if_pos (by rw [z]; exact e)]
      · rw [if_neg z, getS, getS, if_neg (by rw [e]; exact fun h => z h.symm), if_neg (by rw [e]; exact fun h => z h.symm)]
        have mp : ∀ l : List (Str × β), getS (l.map fun q => if q.1 = k then (q.1, v) else q) j = getS l j := by
          intro l
          induction l with
          | nil => rfl
          | cons q l il =>
            rw [List.map_cons, getS, getS, il]
            by_cases w : q.1 = k
            · rw [if_pos w, if_neg (by show ¬ q.1 = j; rw [w]; exact fun h => z h.symm), if_neg (by rw [w]; exact fun h => z h.symm)]
            · rw [if_neg w]
        exact mp r
    · rw [if_neg e, getS, getS, ih]
      by_cases z : p.1 = j
      · rw [if_pos z, if_pos z, if_neg (by rw [← z]; exact e)]
      · rw [if_neg z, if_neg z]
theorem len_put (kvs : List (Str × β)) (k : Str) (v : β) : (putS kvs k v).length ≤ kvs.length + 1 := by
  cases e : (getS kvs k).isSome with
  | true => rw [putS_has e, List.length_map]; omega
  | false => rw [putS_new e, List.length_append]; exact Nat.le_refl _
end
/-- some different texts out of a row are no more than the row -/
theorem few_of : ∀ {xs ys : List Str}, xs.Nodup → (∀ x ∈ xs, x ∈ ys) → xs.length ≤ ys.length
  | [], _, _, _ => Nat.zero_le _
  | x :: r, ys, nd, h => by
    obtain ⟨nx, nr⟩ := List.nodup_cons.mp nd
    have mx := h x List.mem_cons_self
    have ih := few_of (ys := ys.erase x) nr fun y hy => (List.mem_erase_of_ne (by rintro rfl; exact nx hy)).mpr (h y (List.mem_cons_of_mem _ hy))
    rw [List.length_erase_of_mem mx] at ih
    have : 0 < ys.length := List.length_pos_of_mem mx
    rw [List.length_cons]
    omega
end Pg

/-! Texts in their order: sorted of any number, and rows that rise. -/
namespace Pg
open PySem PySem.Spec PyProof.Rows L2
section
variable {X : Cx}
/-- sorted(l), l a row of texts of any length: the same texts, in order, in a new row -/
def rSortedSA (K : PySem.W.Frag) : List V → Hp → VK → Prop := fun args H Q =>
  ∃ (l : Addr) (texts : List Str), args = [.ref l] ∧ SqL K H l (texts.map V.str) ∧
    ∀ (inOrder : List Str) (new : Addr), inOrder.Perm texts → sortedS inOrder = true → H new = none →
      Q (.ref new) (upd H new (.lst (inOrder.map V.str)))
theorem cr_sortedSA : CallR X (.builtin "sorted") (rSortedSA X.K) := by
  rintro pins s σ H args vals Q I rel ⟨l, texts, rfl, at_l, want⟩
  obtain ⟨items, same, isl, small⟩ := I.list at_l
  rw [Vals.ref1 rel]
  have size := same.length
  apply PyProof.Rows.sorted_strsAny isl.isList same.strs (by rw [← size]; exact small)
  intro out inOrder areTexts perm order
  obtain ⟨extra, made⟩ := PyProof.Rows.sortedAll_at s.heap items out
  have isNew : H (s.heap.objs.size + 1) = none := I.hok.fresh (Nat.le_succ _)
  have fits : (inOrder.map V.str).length ≤ sizeLine := by
    rw [List.length_map] at small ⊢
    rw [perm.length_eq]
    exact small
  refine ⟨V.ref (s.heap.objs.size + 1), upd H (s.heap.objs.size + 1) (.lst (inOrder.map V.str)), ?_, rfl, ?_⟩
  · apply I.laid (t' := s.toks) (fun _ _ old => PyProof.Rows.sortedAll_old old) (Nat.le_succ _)
    exact ⟨fits, out.toList, extra, vals_of_strs areTexts, made⟩
  · exact want inOrder _ perm order isNew
end
theorem lc_irr : ∀ a : List Nat, ltCps a a = false
  | [] => rfl
  | x :: r => by simp [ltCps, lc_irr r]
theorem lc_trans : ∀ {a b c : List Nat}, ltCps a b = true → ltCps b c = true → ltCps a c = true
  | [], [], _, h, _ => by cases h
  | [], _ :: _, [], _, h => by cases h
  | [], _ :: _, _ :: _, _, _ => rfl
  | _ :: _, [], _, h, _ => by cases h
  | _ :: _, _ :: _, [], _, h => by cases h
  | x :: a, y :: b, z :: c, h, k => by
    simp only [ltCps, Bool.or_eq_true, decide_eq_true_eq, Bool.and_eq_true, beq_iff_eq] at h k ⊢
    rcases h with h | ⟨rfl, h⟩
    · rcases k with k | ⟨rfl, k⟩
      · exact Or.inl (by omega)
      · exact Or.inl h
    · rcases k with k | ⟨rfl, k⟩
      · exact Or.inl k
      · exact Or.inr ⟨rfl, lc_trans h k⟩
theorem lc_tri : ∀ {a b : List Nat}, ltCps a b = false → ltCps b a = false → a = b
  | [], [], _, _ => rfl
  | [], _ :: _, h, _ => by cases h
  | _ :: _, [], _, h => by cases h
  | x :: a, y :: b, h, k => by
    simp only [ltCps, Bool.or_eq_false_iff, decide_eq_false_iff_not, Bool.and_eq_false_iff, beq_eq_false_iff_ne] at h k
    have e : x = y := by omega
    subst e
    rw [lc_tri (h.2.resolve_left fun q => q rfl) (k.2.resolve_left fun q => q rfl)]
/-- x stands ahead of y -/
def ahead (x y : Str) : Bool := ltCps (cd x) (cd y)
theorem ahead_irr (x : Str) : ahead x x = false := lc_irr _
theorem ahead_trans {x y z : Str} (h : ahead x y = true) (k : ahead y z = true) : ahead x z = true := lc_trans h k
theorem ahead_tri {x y : Str} (h : ahead x y = false) (k : ahead y x = false) : x = y := cd_inj (lc_tri h k)
/-- each stands ahead of the next ones -/
def Rise (l : List Str) : Prop := l.Pairwise fun a b => ahead a b = true
def insS (x : Str) : List Str → List Str
  | [] => [x]
  | y :: r => if ahead x y = true then x :: y :: r else if x = y then y :: r else y :: insS x r
def rise (l : List Str) : List Str := l.foldr insS []
theorem mem_ins {x z : Str} : ∀ {l : List Str}, z ∈ insS x l ↔ z = x ∨ z ∈ l
  | [] => by simp [insS]
  | y :: r => by
    unfold insS
    split
    · simp
    · split
      · rename_i e
        subst e
        simp
      · rw [List.mem_cons, mem_ins, List.mem_cons]
        constructor
        · rintro (h | h | h)
          · exact Or.inr (Or.inl h)
          · exact Or.inl h
          · exact Or.inr (Or.inr h)
        · rintro (h | h | h)
          · exact Or.inr (Or.inl h)
          · exact Or.inl h
          · exact Or.inr (Or.inr h)
theorem rise_ins {x : Str} : ∀ {l : List Str}, Rise l → Rise (insS x l)
  | [], _ => List.pairwise_singleton _ _
  | y :: r, h => by
    obtain ⟨h1, h2⟩ := List.pairwise_cons.mp h
    unfold insS
    split
    · rename_i e
      refine List.pairwise_cons.mpr ⟨fun z hz => ?_, h⟩
      rcases List.mem_cons.mp hz with rfl | hz
      · exact e
      · exact ahead_trans e (h1 z hz)
    · split
      · exact h
      · rename_i e ne
        refine List.pairwise_cons.mpr ⟨fun z hz => ?_, rise_ins h2⟩
        rcases mem_ins.mp hz with rfl | hz
        · cases q : ahead y z with
          | true => rfl
          | false =>
            refine absurd (ahead_tri ?_ q) ne
            cases w : ahead z y with
            | false => rfl
            | true => exact absurd w e
        · exact h1 z hz
theorem rise_rise : ∀ l : List Str, Rise (rise l)
  | [] => List.Pairwise.nil
  | x :: r => rise_ins (rise_rise r)
theorem mem_rise {z : Str} : ∀ {l : List Str}, z ∈ rise l ↔ z ∈ l
  | [] => Iff.rfl
  | x :: r => by
    show z ∈ insS x (rise r) ↔ _
    rw [mem_ins, mem_rise, List.mem_cons]
/-- rows that rise and have the same texts are one -/
theorem rise_ext : ∀ {a b : List Str}, Rise a → Rise b → (∀ x, x ∈ a ↔ x ∈ b) → a = b
  | [], [], _, _, _ => rfl
  | [], y :: b, _, _, h => by cases (h y).mpr List.mem_cons_self
  | x :: a, [], _, _, h => by cases (h x).mp List.mem_cons_self
  | x :: a, y :: b, ha, hb, h => by
    obtain ⟨ha1, ha2⟩ := List.pairwise_cons.mp ha
    obtain ⟨hb1, hb2⟩ := List.pairwise_cons.mp hb
    have e : x = y := by
      rcases List.mem_cons.mp ((h x).mp List.mem_cons_self) with e | hx
      · exact e
      · rcases List.mem_cons.mp ((h y).mpr List.mem_cons_self) with e | hy
        · exact e.symm
        · have := ahead_trans (hb1 x hx) (ha1 y hy)
          rw [ahead_irr] at this
          cases this
    subst e
    rw [rise_ext ha2 hb2 fun z => ?_]
    constructor
    · intro hz
      rcases List.mem_cons.mp ((h z).mp (List.mem_cons_of_mem _ hz)) with e | hz2
      · rw [e] at hz
        have := ha1 x hz
        rw [ahead_irr] at this
        cases this
      · exact hz2
    · intro hz
      rcases List.mem_cons.mp ((h z).mpr (List.mem_cons_of_mem _ hz)) with e | hz2
      · rw [e] at hz
        have := hb1 x hz
        rw [ahead_irr] at this
        cases this
      · exact hz2
theorem rising_pw : ∀ {l : List Str} {p : Str}, risingS p l = true → (∀ x ∈ l, ahead x p = false) ∧ l.Pairwise fun a b => ahead b a = false
  | [], _, _ => ⟨fun x hx => (by cases hx), List.Pairwise.nil⟩
  | x :: r, p, h => by
    obtain ⟨h1, h2⟩ := Bool.and_eq_true_iff.mp h
    have hxp : ahead x p = false := by
      cases q : ahead x p with
      | false => rfl
      | true =>
        have h1 : (!ahead x p) = true := h1
        rw [q] at h1
        cases h1
    obtain ⟨k1, k2⟩ := rising_pw h2
    refine ⟨fun z hz => ?_, List.pairwise_cons.mpr ⟨k1, k2⟩⟩
    rcases List.mem_cons.mp hz with rfl | hz
    · exact hxp
    · have hzx := k1 z hz
      cases q : ahead z p with
      | false => rfl
      | true =>
        cases w : ahead p x with
        | true =>
          have := ahead_trans q w
          rw [hzx] at this
          cases this
        | false =>
          have e := ahead_tri hxp w
          rw [e] at hzx
          rw [hzx] at q
          cases q
theorem sorted_pw {l : List Str} (h : sortedS l = true) : l.Pairwise fun a b => ahead b a = false := by
  cases l with
  | nil => exact List.Pairwise.nil
  | cons x r =>
    obtain ⟨h1, h2⟩ := rising_pw (p := x) (l := r) h
    exact List.pairwise_cons.mpr ⟨h1, h2⟩
/-- the next of a sorted row, if it is new, rises behind what stands -/
theorem rise_snoc {rs ys : List Str} {j : Nat} {y : Str} (hr : Rise rs) (hm : ∀ x, x ∈ rs ↔ x ∈ ys.take j) (hs : sortedS ys = true) (hy : ys[j]? = some y) (nin : y ∉ rs) : Rise (rs ++ [y]) := by
  refine List.pairwise_append.mpr ⟨hr, List.pairwise_singleton _ _, fun a ha b hb => ?_⟩
  rw [List.mem_singleton.mp hb]
  have pw := sorted_pw hs
  have ha2 := (hm a).mp ha
  obtain ⟨i, hi⟩ := List.getElem?_of_mem ha2
  have hij : i < j := by
    by_cases lt : i < j
    · exact lt
    · rw [List.getElem?_eq_none (by rw [List.length_take]; omega)] at hi
      cases hi
  rw [List.getElem?_take_of_lt hij] at hi
  have li : i < ys.length := by
    by_cases lt : i < ys.length
    · exact lt
    · rw [List.getElem?_eq_none (by omega)] at hi
      cases hi
  have lj : j < ys.length := by
    by_cases lt : j < ys.length
    · exact lt
    · rw [List.getElem?_eq_none (by omega)] at hy
      cases hy
  have e1 : ys[i] = a := by
    rw [List.getElem?_eq_getElem li] at hi
    exact Option.some.inj hi
  have e2 : ys[j] = y := by
    rw [List.getElem?_eq_getElem lj] at hy
    exact Option.some.inj hy
  have h := (List.pairwise_iff_getElem.mp pw) i j li lj hij
  rw [e1, e2] at h
  cases q : ahead a y with
  | true => rfl
  | false => exact absurd (ahead_tri h q) (by rintro rfl; exact nin ha)
end Pg

/-! The package's own error with a field: OutOfRange(name), whose __init__ hands a text on to its base's and keeps the name. -/
namespace PySem
namespace OorX
open PySem.W PySem.Calls PyProof.Rows PySem.HandSPX
def iA (p1 p2 : Pos) : Arguments := { posonlyargs := [], args := [{ arg := "self", annotation := none, pos := p1 }, { arg := "name", annotation := none, pos := p2 }], vararg := none, kwonlyargs := [], kw_defaults := [], kwarg := none, defaults := [] }
def behindS : Str := " is out of range"
/-- the text that is handed on -/
def jS (q0 q1 q2 q3 : Pos) : Expr := .JoinedStr [.FormattedValue (.Name "name" q0) (-1) none q1, .Constant (.str behindS) 0 q2] q3
def s1 (j : Expr) (r1 r2 r3 r4 r5 : Pos) : Stmt := .Expr (.Call (.Attribute (.Call (.Name "super" r1) [] [] r2) "__init__" r3) [j] [] r4) r5
def s2 (q1 q2 q3 q4 : Pos) : Stmt := .Assign [.Attribute (.Name "self" q1) "name" q2] (.Name "name" q3) q4
def iS : Scope := { kind := .function, names := [(PySem.Str.ofString "self", .local), (PySem.Str.ofString "name", .local), (PySem.Str.ofString "__class__", .free), (PySem.Str.ofString "super", .globalImplicit)], isGenerator := false, isCoroutine := false, more := [] }
/-- what the written part says of OutOfRange, at C, and of its __init__, at fI -/
structure OorTxt (prog : Program) (K : Frag) (mg : Str → Option Value) (C fI : Addr) : Prop where
  gC : mg "OutOfRange" = some (.ref C)
  gS : mg "super" = none
  cls : ∃ nm q N bs bm sn sub ab col dd k0 k1 k2 k3 k5, K.lookup C = some (excClassObj nm q C N bs bm true sn sub ab col dd k0 k1 k2 k3 k5 "ValueError.__new__") ∧ refsVE bm = true
  sa : findIn K (.ref C) "__setattr__" = some (some (.builtin "object.__setattr__"))
  ga : findIn K (.ref C) "__getattribute__" = some (some (.builtin "BaseException.__getattribute__"))
  gg : findIn K (.ref C) "__getattr__" = some none
  noN : findIn K (.ref C) "name" = some none
  iC : findIn K (.ref C) "__init__" = some (some (.ref fI))
  tC : typeIn K (.ref fI) = some (.type "function")
  kC : keepIn K (.ref C) = true
  exC : subIn K (.ref C) (.type "BaseException") = some true
  veC : subIn K (.ref C) (.type "ValueError") = some true
  tyC : typeIn K (.ref C) = some (.type "type")
  hdC : hasDictIn K C = true
  te : exmOne K (.ref C) (.ref C) = some true
  opq : nsIn K cStatics "thirdparty.any" = some none
  sup : ks_superIn K C C "__init__" = some (some (.builtin "ValueError.__init__"))
  own : mroIn K C (.ref C) = some true
  top : (prog.main.scope.names.lookup ("super" : Str)).isSome = false
  fn : ∃ (oc : Value) (od : Option Addr) (doc pm : Value) (an : Option Addr) (cc cda : Addr) (ct : Value) (osl : Array (Option Value)) (p1 p2 q0 q1 q2 q3 r1 r2 r3 r4 r5 u1 u2 u3 u4 : Pos),
    K.lookup fI = some ⟨oc, od, .func (ksFn "__init__" "OutOfRange.__init__" (iA p1 p2) [s1 (jS q0 q1 q2 q3) r1 r2 r3 r4 r5, s2 u1 u2 u3 u4] iS .none .none doc pm an (.ref cda) ct cc), osl⟩ ∧ codeIn K (.ref cda) "OutOfRange.__init__" = true ∧
    (∃ (ccl : Value) (cdd : Option Addr) (vs : Array Value) (ccs : Array (Option Value)) (file : Str) (tf : Tok), K.lookup cda = some ⟨ccl, cdd, .fields vs, ccs⟩ ∧ vs[2]? = some (.str file tf) ∧ ((prog.main.file : Str) == file) = true) ∧ (r3.endLine == r4.line) = true ∧
    ∃ (cl : Value) (cld : Option Addr) (csl : Array (Option Value)), K.lookup cc = some ⟨cl, cld, .cell (some (.ref C)), csl⟩
/-- what __init__ leaves of a fresh exception at x -/
structure InitEnd (h h' : Heap) (x C dx t1 : Addr) (v : Value) : Prop where
  keep : ∀ b o, b ≠ x → h.get? b = some o → h'.get? b = some o
  obj : h'.get? x = some { cls := .ref C, dict := some dx, data := .fields #[.ref t1, .none, .none, .none, .bool false, .none] }
  dbig : h.objs.size ≤ dx
  dne : dx ≠ x
  ns : h'.Ns1 dx (fun y => if y = "name" then some v else none)
section
variable {prog : Program} {w : World} {A : Around} {E : Value → Shared → Prop} {R : Result → Shared → Prop} {s : Shared} {K : Frag} {mg mb : Str → Option Value} {C fI : Addr}
/-- a bound __init__, called with one written text -/
theorem call1 {M : Model} {pos jp : Pos} {env : Env} {vals : List Expr} {u x : Addr} {i : String} {Q : Value → Shared → Prop}
    (h : wpAny M A (spliced (backTo pos (starEach [.JoinedStr vals jp] env)))
      (fun vs s₁ => KxsAt i u x s₁.heap ∧ wpAny M A (call (.ref u) vs) Q E s₁) E s) :
    wpAny M A (callWith pos (.ref u) [] (backTo pos (starEach [.JoinedStr vals jp] env)) []) Q E s := by
  have one : starEach [.JoinedStr vals jp] env = [(false, eval (.JoinedStr vals jp) env)] := rfl
  rw [one] at h ⊢
  exact kxs_callWith (i := i) (x := x) rfl (evalArgs_plain h)
theorem run_bound {u x t0 : Addr} {v : Value} {nm q : Str} {N : Addr} {bs bm : List Value} {sn : List Str} {sub : List Value} {ab : Bool} {col : Option Bool} {dd : Option Addr} {k0 k1 k2 k3 k5 : Option Value} {Q : Value → Shared → Prop}
    (hC : s.heap.get? C = some (excClassObj nm q C N bs bm true sn sub ab col dd k0 k1 k2 k3 k5 "ValueError.__new__")) (hu : s.heap.get? u = some (kxs_mw "ValueError.__init__" x)) (hx : s.heap.get? x = some (excO C t0))
    (h : ∀ h', (∀ b o, b ≠ x → s.heap.get? b = some o → h'.get? b = some o) → h'.get? x = some (excO C s.heap.objs.size) → Q .none { s with heap := h' }) :
    wpAny (model prog w) A (call (.ref u) [v]) Q E s := by
  obtain ⟨hh, g, d, tk, os⟩ := s
  refine wpAny_call (codeAny_of_tree ?_)
  show wpAny _ A.in1 (callAny (.ref u) ⟨[v], []⟩) _ _ _
  simp only [callAny]
  refine wpAny_bind (wpAny_load hu ?_)
  have wrapper : ∀ b : Bool, (b || (Value.type "method-wrapper" == Value.type "method-wrapper")) = true := by decide
  simp only [kxs_mw, wrapper, if_true]
  refine KFB.if_so (by decide) ?_
  refine wpAny_bind (check_bound_init F.excBase_ValueError.toExcCallFacts hC hx rfl ?_)
  refine wpAny_bind (wpAny_pure (wpAny_pure ?_))
  refine ⟨plainId_quiet F.excBase_ValueError.init.plain _, codeAny_builtin F.excBase_ValueError.initEntry ?_⟩
  exact exc_init_tree (cls := .ref C) (t0 := t0) (dv := none) (c2 := .none) (c3 := .none) (b4 := .bool false) hx (by rw [sizeLine_eq]; exact (by decide : 1 ≤ 16777216)) fun h' k e _ => h h' k e
theorem oor_init (T : OorTxt prog K mg C fI) {x t0 : Addr} {z : Str} {tz : Tok} (hz : z.length ≤ 1000) (X : K.In s.heap) (G : s.heap.Ns mainGlobals mg) (B : s.heap.Ns builtinsNs mb) (hsup : mb "super" = some (.type "super")) (hlim : s.heap.NoLimit)
    (hx : s.heap.get? x = some (excO C t0)) (hnx : K.lookup x = none) (hroom : A.depth < recursionLimit)
    (hq : ∀ h' tk dx t1, InitEnd s.heap h' x C dx t1 (.str z tz) → R (.ok (.ret .none)) { s with heap := h', toks := tk }) :
    codeAny (model prog w) A (.call (.ref fI) ⟨[.ref x, .str z tz], []⟩) R s := by
  obtain ⟨oc, od, doc, pm, an, cc, cda, ct, osl, p1, p2, q0, q1, q2, q3, r1, r2, r3, r4, r5, u1, u2, u3, u4, ho, hcd, ⟨ccl, cdd, vs, ccs, file, tf, hcode, hvs, hfile⟩, ln, cl, cld, csl, hcell⟩ := T.fn
  obtain ⟨nm, q, N, bs, bm, sn, sub, ab, col, dd, k0, k1, k2, k3, k5, hC, hbm⟩ := T.cls
  have hcl : clsIn K C = some { name := nm, bases := bs, mro := .ref C :: bm, ns := N, qualname := q, hasDict := true, slotNames := sn, subclasses := sub, abstract := ab, collection := col, hasDel := false } := by unfold clsIn; rw [hC] <;> rfl
  refine ks_codeAny_call_defAt (fd := ksFn "__init__" "OutOfRange.__init__" (iA p1 p2) [s1 (jS q0 q1 q2 q3) r1 r2 r3 r4 r5, s2 u1 u2 u3 u4] iS .none .none doc pm an (.ref cda) ct cc) (binds := [("self", .ref x), ("name", .str z tz)]) hroom (X _ _ ho) rfl hlim (codeRec_of X hcd) rfl
    (BindsTo.of_eq (by first | rfl | with_unfolding_all rfl)) (fun y hy => by
      have : ∀ y ∈ iS.names, y.2 ≠ .cell := by decide
      exact this y hy) (fun y hy => by
      have : ∀ y ∈ ["self", "name"], iS.names.lookup (y : Str) = some .local := by decide +kernel
      rcases List.mem_cons.mp hy with rfl | hy
      · exact this _ (.head _)
      · rcases List.mem_cons.mp hy with rfl | hy
        · exact this _ (.tail _ (.head _))
        · cases hy) (fun h₁ hns kk => ?_)
  have X₁ : K.In h₁ := X.keeps kk
  have hx₁ := kk _ _ hx
  refine ks_wpAt_execs_cons (ks_wpAt_Expr_any ?_)
  refine' ks_wpAt_MethodCall (pl := ?pl) ?big ?he
  rotate_left
  case he =>
    rw [arm_eval_Call]
    have hpos : ∀ o env, methodCallPos true o env r3 r4 = pure r4 := fun o env => by
      unfold methodCallPos
      rw [ln]
      rfl
    unfold methodCall
    have hform : ∀ (j : Expr) (env : Env), methodCallForm ([j].length + ([] : List Keyword).length) (backTo r4 (starEach [jS q0 q1 q2 q3] env)) (backToKw r4 (keywordEach [] env)) = true := fun j env => by rfl
    simp only [hform, hpos, pure_bind]
    rfl
  have go := X₁ _ _ ho
  have gcode := X₁ _ _ hcode
  have gcell := X₁ _ _ hcell
  have gC := X₁ _ _ hC
  refine ks_wpAt_super_base (env := ksEnv "OutOfRange.__init__" iS s.heap.objs.size fI (.ref cda) cc) (s := ⟨h₁, _, _, _, _⟩) (attr := "__init__") (f := fI) (cc := cda) (ar := { arg := "self", annotation := none, pos := p1 }) rfl rfl (by decide) rfl go rfl rfl rfl gcode rfl hvs hfile T.top ?_
  refine ks_loadName_global rfl rfl (loadGlobal_builtin (G.keeps kk) T.gS (B.keeps kk) hsup ⟨rfl, ?_⟩)
  refine wpAny_loadName_free rfl rfl rfl ⟨_, gcell, rfl⟩ ?_
  refine wpAny_loadName_local rfl rfl hns rfl ?_
  refine ks_wpAny_isType_cls gC rfl ⟨rfl, ?_⟩
  refine ks_wpAny_call_super gC rfl hx₁ rfl (by intro c e; cases e) (looks_mroIn X₁ T.own) (fun h₂ hso k₂ => ?_)
  have X₂ : K.In h₂ := X₁.keeps k₂
  have I₂ : InstAt h₂ x (excO C t0) C none := ⟨k₂ _ _ hx₁, rfl, rfl, trivial⟩
  have hI : Looks (model prog w) h₂ (isInstance (.ref x) (.type "ValueError")) true := I₂.type.andThen (looks_subIn X₂ T.veC)
  have along : alongIn K "__init__" (((Value.ref C :: bm).dropWhile (· != .ref C)).drop 1) = some (some (.builtin "ValueError.__init__")) := by
    have q := T.sup
    unfold ks_superIn at q
    rw [hcl] at q
    exact q
  refine kxs_getMethod kxs_ValueError hso (looks_opaque X₂ T.opq) (l₀ := .ref C :: bm) (fun A Q E s k q => wpAny_bind ((looks_clsIn X₂ hcl) A _ E s k (wpAny_pure q))) rfl X₂ along hI (ks_ne X₂ I₂ hcl) (by decide) ?_
  have k₃ : ∀ b o, h₂.get? b = some o → (h₂.push (kxs_mw "ValueError.__init__" x)).get? b = some o := fun b o e => Heap.get?_push_of_some _ e
  have hu : (h₂.push (kxs_mw "ValueError.__init__" x)).get? h₂.objs.size = some (kxs_mw "ValueError.__init__" x) := Heap.get?_push_at rfl rfl
  have hns₃ := hns.keeps fun b o e => k₃ b o (k₂ b o e)
  generalize hh3 : h₂.push (kxs_mw "ValueError.__init__" x) = h₃ at *
  refine call1 (i := "ValueError.__init__") (x := x) ?_
  refine args_cons ?_
  refine wpAny_JoinedStr ?_
  refine wpAny_FormattedValue_plain (wpAny_Name (wpAny_loadName_local rfl rfl hns₃ rfl ?_) (by decide))
  have lz : z.length ≤ sizeLine := Nat.le_trans hz (by decide)
  refine wpAny_mono (Q := fun v s' => ∃ t tk, v = .str z t ∧ s' = ({ heap := h₃, gens := s.gens, drawn := s.drawn, toks := tk, os := s.os } : Shared)) (E := fun _ _ => False) (wpAny_formatField_str ⟨_, _, rfl, rfl⟩ ⟨_, _, rfl, rfl⟩ lz) (fun v s' hv => ?_) (fun _ _ e => e.elim)
  obtain ⟨t1, tk1, rfl, rfl⟩ := hv
  have l1 : (Str.empty ++ z).length ≤ 1000 := by
    show (#[] ++ z.cps).size ≤ 1000
    rw [Array.empty_append]
    exact hz
  have l2 : ((Str.empty ++ z) ++ behindS).length ≤ 2000 := by
    have e : ((Str.empty ++ z) ++ behindS).length = (Str.empty ++ z).length + behindS.length := by
      show ((Str.empty ++ z).cps ++ behindS.cps).size = _
      rw [Array.size_append]
      rfl
    have e2 : behindS.length = 16 := by decide +kernel
    omega
  refine ⟨z, t1, rfl, Nat.le_trans l1 (by decide), ?_⟩
  refine wpAny_Constant_str ?_
  refine ⟨behindS, _, rfl, Nat.le_trans l2 (by decide), ?_⟩
  refine ⟨Nat.le_trans l2 (by decide), ?_⟩
  refine args_nil ?_
  refine ⟨hu, ?_⟩
  refine run_bound (C := C) (t0 := t0) ((X₂.keeps k₃) _ _ hC) hu (k₃ _ _ (k₂ _ _ hx₁)) (fun h₄ k₄ e₄ => ?_)
  refine wpAt_of_wpAny ?_
  have hns₄ : h₄.Ns s.heap.objs.size (fun y => List.lookup y [(Str.ofString "self", Value.ref x), (Str.ofString "name", Value.str z tz)].reverse) := by
    obtain ⟨oL, es, ep, hL, r⟩ := hns₃
    exact ⟨oL, es, ep, k₄ _ _ (Nat.ne_of_gt (Heap.lt_size hx)) hL, r⟩
  have kx : ∀ b o, b ≠ x → s.heap.get? b = some o → h₄.get? b = some o := fun b o hb e => k₄ b o hb (k₃ b o (k₂ b o (kk b o e)))
  have X₄ : K.In h₄ := fun a o e => kx a o (fun zz => by rw [zz, hnx] at e; cases e) (X a o e)
  refine wpAny_execs_cons (plainObj_wpAny_Assign_Attribute ?_)
  refine wpAny_Name (wpAny_loadName_local rfl rfl hns₄ rfl ?_) (by decide)
  refine wpAny_Name (wpAny_loadName_local rfl rfl hns₄ rfl ?_) (by decide)
  refine set_plain X₄ (ox := excO C h₃.objs.size) (od := none) ⟨e₄, rfl, rfl, trivial⟩ T.sa ?_
  refine exc_osa X₄ e₄ hcl (show refsVE (.ref C :: bm) = true from hbm) rfl T.noN (fun h₅ tk₅ dx k₅ dn dne hx₅ hn₅ => ?_)
  show wpAny _ _ (execs _ _) _ _ _
  exact wpAny_execs_nil (hq h₅ tk₅ dx _ ⟨fun b o hb e => k₅ b o hb (kx b o hb e), hx₅, Nat.le_of_lt (Nat.lt_of_lt_of_le hns₄.lt dn), dne, hn₅⟩)
/-- a made OutOfRange -/
structure OwnMade (h h' : Heap) (e C d : Addr) (v : Value) : Prop where
  keep : ∀ b o, h.get? b = some o → h'.get? b = some o
  new : h.objs.size ≤ e
  obj : ∃ oe vs, h'.get? e = some oe ∧ oe.cls = .ref C ∧ oe.dict = some d ∧ oe.data = .fields vs ∧ vs[1]? = some .none
  dbig : h.objs.size ≤ d
  dne : d ≠ e
  ns : h'.Ns1 d (fun y => if y = "name" then some v else none)
theorem oor_made (T : OorTxt prog K mg C fI) {z : Str} {tz : Tok} (hz : z.length ≤ 1000) (X : K.In s.heap) (G : s.heap.Ns mainGlobals mg) (B : s.heap.Ns builtinsNs mb) (hsup : mb "super" = some (.type "super")) (hlim : s.heap.NoLimit) (hroom : A.depth + 1 < recursionLimit)
    (hq : ∀ h' tk e d, OwnMade s.heap h' e C d (.str z tz) → R (.ok (.ret (.ref e))) { s with heap := h', toks := tk }) :
    codeAny (model prog w) A (.call (.ref C) ⟨[.str z tz], []⟩) R s := by
  obtain ⟨nm, q, N, bs, bm, sn, sub, ab, col, dd, k0, k1, k2, k3, k5, hC, hbm⟩ := T.cls
  obtain ⟨hp, g, dr, tk, os⟩ := s
  have k : ∀ b o, hp.get? b = some o → ((hp.push (kdv_tup [.str z tz])).push (excO C hp.objs.size)).get? b = some o := fun b o e => Heap.get?_push_of_some _ (Heap.get?_push_of_some _ e)
  have hget : ((hp.push (kdv_tup [.str z tz])).push (excO C hp.objs.size)).get? (hp.objs.size + 1) = some (excO C hp.objs.size) := by heap_get
  have hnx : K.lookup (hp.objs.size + 1) = none := by
    cases e : K.lookup (hp.objs.size + 1) with
    | none => rfl
    | some o =>
      have q : hp.get? (hp.objs.size + 1) = some o := X _ _ e
      exact absurd (Nat.lt_of_succ_lt (Heap.lt_size q)) (Nat.lt_irrefl _)
  refine call_own F.excBase_ValueError (fun X => refsVE_contains X bm hbm) (X _ _ hC) (looks_findIn X T.iC) (fun self => bind_fn X self T.tC) (by rw [sizeLine_eq]; exact (by decide : 1 ≤ 16777216)) ?_
  refine oor_init (s := ⟨(hp.push (kdv_tup [.str z tz])).push (excO C hp.objs.size), g, dr, tk, os⟩) T hz (X.keeps k) (G.keeps k) (B.keeps k) hsup (hlim.keeps k) hget hnx ?_ fun h' tk' dx t1 ⟨k', hx, dn, dne, hns⟩ => ?_
  · show A.depth + 1 < recursionLimit
    exact hroom
  · have old : ∀ b o, hp.get? b = some o → h'.get? b = some o := fun b o e => k' b o (Nat.ne_of_lt (Nat.lt_succ_of_lt (Heap.lt_size e))) (k b o e)
    have big : hp.objs.size + 1 + 1 ≤ dx := by
      first
        | (simpa only [Heap.size_push] using dn)
        | exact dn
        | (have q := dn; rw [Heap.size_push, Heap.size_push] at q; exact q)
    exact ⟨rfl, hq h' tk' (hp.objs.size + 1) dx ⟨old, Nat.le_succ _, ⟨_, _, hx, rfl, rfl, rfl, rfl⟩, Nat.le_trans (Nat.le_trans (Nat.le_succ _) (Nat.le_succ _)) big, dne, hns⟩⟩
end
end OorX
end PySem
namespace Pg
open PySem PySem.Spec PyProof.Rows L2 PySem.OorX
theorem relO_oor {v : V} {v' : Value} (r : RelV v v') (f : Str) : RelO (List.lookup f [(("name" : Str), v)]) (if f = "name" then some v' else none) := by
  by_cases hw : f = "name"
  · subst hw
    rw [if_pos rfl]
    have q : List.lookup ("name" : Str) [(("name" : Str), v)] = some v := by simp [List.lookup]
    rw [q]
    exact r
  · rw [if_neg hw]
    have qw : (f == ("name" : Str)) = false := by simpa using hw
    have q2 : List.lookup f [(("name" : Str), v)] = none := by simp [List.lookup, qw]
    rw [q2]
    trivial
section
variable {X : Cx} {C fI : Addr}
/-- OutOfRange(e) -/
def tMkOor (C : Addr) (ta : TA) : L2.St → Hp → XK → Prop := fun σ H Q => ta σ H fun vs H1 => ∃ z : Str, vs = [.str z] ∧ z.length ≤ 1000 ∧ ∀ d, H1 d = none → Q (.ref C) (some d) (upd H1 d (.xd [(("name" : Str), .str z)]))
theorem pmk_oor {a : Expr} {ta : TA} {p pos : Pos} {k : Nat} (T : OorTxt X.prog X.K X.mg C fI) (hr : Room k X.A) (ha : PA X [a] ta) (hg : Gl X "OutOfRange" := by rfl)
    (he : starEach (a :: []) X.env = (false, eval a X.env) :: starEach [] X.env := by rfl) (hpl : (backTo pos (starEach [] X.env)).any (·.1) = false := by rfl) :
    PMk X (.Call (.Name "OutOfRange" p) [a] [] pos) (tMkOor C ta) := by
  intro pins s σ H Q I h
  refine wpAny_Call_Name_kw (ld_glob I hg T.gC ?_)
  refine PySem.W.callWith_K (h₀ := X.base) I.ok.mod.kin T.kC (thn (ha.run pos pins s σ H _ I h) fun us s1 hh => ?_) he hpl
  obtain ⟨vs, H1, I1, r1, z, ev, hz, q1⟩ := hh
  subst ev
  refine ⟨I1.kIn, ?_⟩
  cases r1 with
  | cons rv rn =>
    rename_i v' us'
    cases rn
    obtain ⟨tz, rfl⟩ := rv
    show wpAny _ _ (call (.ref C) [.str z tz]) _ _ _
    have hlim := I1.nolimit
    obtain ⟨mb, hb1, hb2⟩ := I1.mod.blt
    have G1 := I1.mod.glob.keeps I1.bk
    have B1 := hb1.keeps I1.bk
    have hsup : mb "super" = some (.type "super") := (hb2 _ (by decide)).trans (by kernel_rfl)
    obtain ⟨hp, g, dr, tk, os⟩ := s1
    refine wpAny_call (oor_made T hz I1.kIn G1 B1 hsup hlim (by have := hr.dp; omega) fun h' tk' e d M => ?_)
    show MkP X pins σ Q (.ref e) ⟨h', g, dr, tk', os⟩
    obtain ⟨oe, fv, hoe, hc, hd, hdat, h1⟩ := M.obj
    have hns := M.ns
    obtain ⟨G', g1, g2⟩ := restrict h' fun b => decide (b ≠ e)
    have gk : ∀ b, b ≠ e → G'.get? b = h'.get? b := fun b hb => g1 b (decide_eq_true hb)
    have ge : G'.get? e = none := g2 e (by simp)
    have old : ∀ b o, hp.get? b = some o → G'.get? b = some o := fun b o q => (gk b (Nat.ne_of_lt (Nat.lt_of_lt_of_le (Heap.lt_size q) M.new))).trans (M.keep b o q)
    have ob : ObjOk X.prog X.w (upd H1 d (.xd [(("name" : Str), V.str z)])) G' d (.xd [(("name" : Str), V.str z)]) :=
      ⟨_, hns.at (fun o q => (gk d M.dne).trans q), fun f => relO_oor (v := V.str z) (v' := Value.str z tz) ⟨tz, rfl⟩ f⟩
    have J : Inv X pins σ (upd H1 d (.xd [(("name" : Str), V.str z)])) ⟨G', g, dr, tk', os⟩ := I1.laid (t' := tk') old M.dbig ob
    refine ⟨e, oe, fv, ⟨G', g, dr, tk', os⟩, _, .ref C, some d, rfl, J, fun b o q => ?_, ge, hoe, ⟨hc, hd⟩, hdat, h1, ?_, rfl, I1.bare, raises_own T.exC T.tyC, q1 d (I1.hok.fresh M.dbig)⟩
    · by_cases hb : b = e
      · have q' : G'.get? b = some o := q
        rw [hb, ge] at q'; cases q'
      · exact (gk b hb).symm.trans q
    · rw [upd_ne (Ne.symm M.dne)]
      exact I1.hok.fresh M.new
/-- raise OutOfRange(e) -/
def tRaiseOor (C : Addr) (W : WX) (ta : TA) : TS := fun _ σ H => tMkOor C ta σ H fun cls d H' => W cls d σ H'
theorem ps_raiseOor {a : Expr} {ta : TA} {W : WX} {p pos pos2 : Pos} {k : Nat} (hc : X.calm = true) (T : OorTxt X.prog X.K X.mg C fI) (hr : Room k X.A) (tk : Takes X W) (ha : PA X [a] ta) (hg : Gl X "OutOfRange" := by rfl)
    (he : starEach (a :: []) X.env = (false, eval a X.env) :: starEach [] X.env := by rfl) (hpl : (backTo pos (starEach [] X.env)).any (·.1) = false := by rfl) :
    PS X (.Raise (some (.Call (.Name "OutOfRange" p) [a] [] pos)) none pos2) (tRaiseOor C W ta) := ps_raise hc tk (pmk_oor T hr ha hg he hpl)
/-- n.name, n the exception that the suite holds (at a; its class cls, its dict d) -/
def tNameOor (C : Addr) (a : Addr) (cls : Value) (d : Option Addr) (te : TE) : TE := fun σ H Q => te σ H fun x H1 => x = .ref a ∧ cls = .ref C ∧ ∃ (dd : Addr) (v : V), d = some dd ∧ H1 dd = some (.xd [(("name" : Str), v)]) ∧ Q v H1
theorem pe_nameOor {a : Addr} {oe : Obj} {cls : Value} {d : Option Addr} {pn : List (Addr × Obj)} {e : Expr} {te : TE} {pos : Pos} (T : OorTxt X.prog X.K X.mg C fI) (hz : Zc cls d oe) (hf : ∃ vs, oe.data = .fields vs) (he : PE (X.suite a ((a, oe) :: pn)) e te)
    (hb : attributeBase e "name" X.env (eval e X.env) = eval e X.env := by rfl) :
    PE (X.suite a ((a, oe) :: pn)) (.Attribute e "name" pos) (tNameOor C a cls d te) := by
  refine ⟨fun pins s σ H Q I h => ?_⟩
  refine attr_of hb (thn (he.run pins s σ H _ I h) fun u s1 hh => ?_)
  obtain ⟨x, H1, I1, rx, ex, ec, dd, v, ed, ea, q⟩ := hh
  subst ex
  obtain rfl : u = Value.ref a := rx
  subst ec
  subst ed
  obtain ⟨ha, _⟩ := I1.pin (a, oe) (List.mem_append_left _ List.mem_cons_self)
  obtain ⟨vs, hd⟩ := hf
  have hx : ObjOk X.prog X.w H1 s1.heap dd (.xd [(("name" : Str), v)]) := I1.hok dd _ ea
  obtain ⟨mA, hns, hr⟩ := hx
  obtain ⟨od, ho, hl⟩ := lookIn_ns hns
  have l : List.lookup ("name" : Str) [(("name" : Str), v)] = some v := by simp [List.lookup]
  obtain ⟨u, hu, ru⟩ := RelO.some_of (v := v) (o := mA "name") (by rw [← l]; exact hr "name")
  have J : PySem.W.InstAt s1.heap a oe C (some od) := ⟨ha, hz.1, by unfold PySem.W.notCls; rw [hd] <;> rfl, by rw [hz.2]; exact ho⟩
  exact HandSPX.exc_get I1.kIn J T.ga T.gg T.exC (PySem.W.findObj_own T.hdC T.noN rfl (by rw [hl, hu])) (handed_of ru) ⟨v, H1, I1.tok _, ru, q⟩
end
end Pg
namespace Pg
open PySem PySem.Spec PyProof.Rows L2
/-- a callee that may raise -/
def CalX (P : Program) (w : World) (K : PySem.W.Frag) (mg : Str → Option Value) (base : Heap) (x : Str) (k : Nat) (ps : List Str) (sp : Sp) : Prop :=
  ∃ f fd, FnOk P w K mg base (L2.CX P w) k f fd ps sp ∧ Binds K fd ps [] ∧ mg x = some (.ref f) ∧ PySem.W.keepIn K (.ref f) = true
section
variable {X : Cx} {k : Nat} {x : Str} {ps : List Str} {sp : Sp} {p pos : Pos} {e : Expr} {es : List Expr} {t : TA} {E : L2.St → XK}
theorem pe_calX (C : CalX X.prog X.w X.K X.mg X.base x k ps sp) (hr : Room k X.A) (hg : Gl X x) (hx : ∀ σ, PassesAt (L2.CX X.prog X.w) X σ (E σ)) (ha : PA X (e :: es) t) (hdb : (x == ("__debug__" : Str)) = false := by decide)
    (he : starEach (e :: es) X.env = (false, eval e X.env) :: starEach es X.env := by rfl) (hpl : (backTo pos (starEach es X.env)).any (·.1) = false := by rfl) :
    PE X (.Call (.Name x p) (e :: es) [] pos) (tCallS sp E t) := by
  obtain ⟨_, _, F, b, g, kp⟩ := C
  exact pe_callS F hr hg g kp b hx ha hdb he hpl
end
end Pg
namespace Pg
open PySem PySem.Spec PyProof.Rows L2
/-- an error of a class is what its own name names -/
theorem exm_self {K : PySem.W.Frag} {S : Addr} (h1 : PySem.W.subIn K (.ref S) (.type "BaseException") = some true) (h2 : PySem.W.isClsIn K S = true) (h3 : PySem.W.typeIn K (.ref S) = some (.type "type")) (h4 : PySem.W.subIn K (.ref S) (.ref S) = some true) :
    PySem.W.exmOne K (.ref S) (.ref S) = some true := by
  have e1 : (PySem.W.subIn K (.ref S) (.type "BaseException") == some true) = true := by rw [h1] <;> rfl
  have e2 : ((PySem.W.clsIn K S).isSome && PySem.W.typeIn K (.ref S) == some (.type "type")) = true := by
    have h2' : (PySem.W.clsIn K S).isSome = true := h2
    rw [h2', h3] <;> rfl
  show (if (PySem.W.subIn K (.ref S) (.type "BaseException") == some true) = true then (if ((PySem.W.clsIn K S).isSome && PySem.W.typeIn K (.ref S) == some (.type "type")) = true then PySem.W.subIn K (.ref S) (.ref S) else none) else none) = some true
  rw [if_pos e1, if_pos e2]
  exact h4
end Pg

/-! Own classes by their names; data that no store reaches. -/
namespace Pg
open PySem PySem.Spec PyProof.Rows L2
/-- a method of the class at C, with all its arguments given -/
def CalM (P : Program) (w : World) (K : PySem.W.Frag) (mg : Str → Option Value) (base : Heap) (C : Addr) (m : Str) (k : Nat) (ps : List Str) (sp : Sp) : Prop :=
  Cls K C ∧ ∃ f fd, FnOk P w K mg base CX0 k f fd ps sp ∧ Binds K fd ps [] ∧ Meth K C m f
/-- the class x at C, made by an __init__ of that promise -/
def CalK (P : Program) (w : World) (K : PySem.W.Frag) (mg : Str → Option Value) (base : Heap) (x : Str) (C : Addr) (k : Nat) (ps : List Str) (sp : Sp) : Prop :=
  mg x = some (.ref C) ∧ ∃ f fd, Mk K C f ∧ FnOk P w K mg base CX0 k f fd ps sp ∧ Binds K fd ps []
section
variable {X : Cx} {C : Addr} {k : Nat} {m x : Str} {ps : List Str} {sp : Sp} {o e : Expr} {es : List Expr} {to : TE} {t : TA} {apos pos p : Pos}
theorem pe_calM {pl : Sem Bool} (M : CalM X.prog X.w X.K X.mg X.base C m k ps sp) (hr : Room k X.A) (ho : PE X o to) (ha : PA X (e :: es) t)
    (hst : starEach (e :: es) X.env = (false, eval e X.env) :: starEach es X.env := by rfl) (hpl : (backTo pos (starEach es X.env)).any (·.1) = false := by rfl)
    (ht : eval (.Call (.Attribute o m apos) (e :: es) [] pos) X.env = (do
      let ov ← eval o X.env
      standAt apos.atName
      let (f, first) ← holding [ov] (getMethod ov m pl)
      callWith pos f first (backTo pos (starEach (e :: es) X.env)) (backToKw pos (keywordEach [] X.env))) := by rfl) :
    PE X (.Call (.Attribute o m apos) (e :: es) [] pos) (tMeth C m sp [] E0 to t) := by
  obtain ⟨c, f, fd, F, b, h⟩ := M
  exact pe_meth ho c h F hr b .nil pass0 ha hst hpl ht
theorem pe_calM0 {pl : Sem Bool} (M : CalM X.prog X.w X.K X.mg X.base C m k ps sp) (hr : Room k X.A) (ho : PE X o to)
    (ht : eval (.Call (.Attribute o m apos) [] [] pos) X.env = (do
      let ov ← eval o X.env
      standAt apos.atName
      let (f, first) ← holding [ov] (getMethod ov m pl)
      callWith pos f first (backTo pos (starEach [] X.env)) (backToKw pos (keywordEach [] X.env))) := by rfl) :
    PE X (.Call (.Attribute o m apos) [] [] pos) (tMeth C m sp [] E0 to tNil) := by
  obtain ⟨c, f, fd, F, b, h⟩ := M
  exact pe_meth0 ho c h F hr b .nil pass0 ht
theorem pe_mk0 (M : CalK X.prog X.w X.K X.mg X.base x C k ps sp) (hr : Room (k + 1) X.A) (hg : Gl X x) (hdb : (x == ("__debug__" : Str)) = false := by decide) : PE X (.Call (.Name x p) [] [] pos) (tMake C sp [] E0 tNil) := by
  obtain ⟨g, f, fd, mk, F, b⟩ := M
  exact pe_make0 mk F hr hg g b .nil pass0 hdb
theorem pe_mkA (M : CalK X.prog X.w X.K X.mg X.base x C k ps sp) (hr : Room (k + 1) X.A) (hg : Gl X x) (ha : PA X (e :: es) t) (hdb : (x == ("__debug__" : Str)) = false := by decide)
    (he : starEach (e :: es) X.env = (false, eval e X.env) :: starEach es X.env := by rfl) (hpl : (backTo pos (starEach es X.env)).any (·.1) = false := by rfl) :
    PE X (.Call (.Name x p) (e :: es) [] pos) (tMake C sp [] E0 t) := by
  obtain ⟨g, f, fd, mk, F, b⟩ := M
  exact pe_make mk F hr hg g b .nil pass0 ha hdb he hpl
end
theorem same_seqT {K : PySem.W.Frag} {H H' : Hp} {a : Addr} {xs : List V} (e : Same H H') (h : SqT K H a xs) : SqT K H' a xs := by
  rcases h with (h | ⟨o, h⟩) | h
  · exact .inl (.inl (e _ _ h))
  · exact .inl (.inr ⟨o, e _ _ h⟩)
  · exact .inr h
/-! ### data of tuples, texts, numbers: no store reaches it -/
/-- all tuples are as they were -/
def KeepT (K : PySem.W.Frag) (H H' : Hp) : Prop := ∀ a xs, SqT K H a xs → SqT K H' a xs
theorem Same.keepT {K : PySem.W.Frag} {H H' : Hp} (e : Same H H') : KeepT K H H' := fun _ _ h => same_seqT e h
theorem KeepT.trans {K : PySem.W.Frag} {H H1 H2 : Hp} (a : KeepT K H H1) (b : KeepT K H1 H2) : KeepT K H H2 := fun c xs h => b c xs (a c xs h)
/-- a store at an object that is no tuple -/
theorem KeepT.upd {K : PySem.W.Frag} {H : Hp} {p : Addr} {o : HO} (no : ∀ xs, H p ≠ some (.tup xs)) (nf : ∀ b xs, H p ≠ some (.frz b (.tup xs))) : KeepT K H (upd H p o) := by
  rintro a xs ((h | ⟨b, h⟩) | h)
  · exact .inl (.inl (by rw [upd_ne (by rintro rfl; exact no _ h)]; exact h))
  · exact .inl (.inr ⟨b, by rw [upd_ne (by rintro rfl; exact nf _ _ h)]; exact h⟩)
  · exact .inr h
mutual
def noL : PyData → Bool
  | .tuple ds => noLAll ds
  | .list _ => false
  | .dict _ => false
  | _ => true
def noLAll : List PyData → Bool
  | [] => true
  | d :: ds => noL d && noLAll ds
end
mutual
theorem Dp.keepT {K : PySem.W.Frag} {H H' : Hp} (k : KeepT K H H') : ∀ (d : PyData) (v : V), noL d = true → Dp K H v d → Dp K H' v d
  | .none, _, _, h => by cases h; exact .non
  | .bool b, _, _, h => by cases h; exact .bl b
  | .int i, _, _, h => by cases h; exact .int i
  | .str x, _, _, h => by cases h; exact .str x
  | .tuple ds, _, n, h => by
    cases h with
    | tup hs ha => exact .tup (k _ _ hs) (DpAll.keepT k ds _ n ha)
  | .list _, _, n, _ => by cases n
  | .dict _, _, n, _ => by cases n
theorem DpAll.keepT {K : PySem.W.Frag} {H H' : Hp} (k : KeepT K H H') : ∀ (ds : List PyData) (vs : List V), noLAll ds = true → DpAll K H vs ds → DpAll K H' vs ds
  | [], _, _, h => by cases h; exact .nil
  | d :: ds, _, n, h => by
    have n' : noL d = true ∧ noLAll ds = true := Bool.and_eq_true_iff.mp n
    cases h with
    | cons h1 h2 => exact .cons (Dp.keepT k d _ n'.1 h1) (DpAll.keepT k ds _ n'.2 h2)
end
/-! no truth value: equal as values is equal as data -/
mutual
def noB : PyData → Bool
  | .tuple ds => noBAll ds
  | .list ds => noBAll ds
  | .bool _ => false
  | .dict _ => false
  | _ => true
def noBAll : List PyData → Bool
  | [] => true
  | d :: ds => noB d && noBAll ds
end
mutual
theorem eqv_iff : ∀ (d e : PyData), noB d = true → noB e = true → (PyData.eqv d e = true ↔ d = e)
  | .none, e, _, n2 => by cases e <;> simp_all [PyData.eqv, noB]
  | .int i, e, _, n2 => by cases e <;> simp_all [PyData.eqv, noB]
  | .str x, e, _, n2 => by cases e <;> simp_all [PyData.eqv, noB]
  | .tuple ds, e, n1, n2 => by
    cases e with
    | tuple es =>
      rw [PyData.eqv, eqvAll_iff ds es n1 n2]
      exact ⟨fun h => by rw [h], fun h => PyData.tuple.inj h⟩
    | _ => simp_all [PyData.eqv, noB]
  | .list ds, e, n1, n2 => by
    cases e with
    | list es =>
      rw [PyData.eqv, eqvAll_iff ds es n1 n2]
      exact ⟨fun h => by rw [h], fun h => PyData.list.inj h⟩
    | _ => simp_all [PyData.eqv, noB]
  | .bool _, _, n1, _ => by cases n1
  | .dict _, _, n1, _ => by cases n1
theorem eqvAll_iff : ∀ (ds es : List PyData), noBAll ds = true → noBAll es = true → (PyData.eqvAll ds es = true ↔ ds = es)
  | [], [], _, _ => by simp [PyData.eqvAll]
  | [], _ :: _, _, _ => by simp [PyData.eqvAll]
  | _ :: _, [], _, _ => by simp [PyData.eqvAll]
  | d :: ds, e :: es, n1, n2 => by
    have n1' : noB d = true ∧ noBAll ds = true := Bool.and_eq_true_iff.mp n1
    have n2' : noB e = true ∧ noBAll es = true := Bool.and_eq_true_iff.mp n2
    rw [PyData.eqvAll, Bool.and_eq_true, eqv_iff d e n1'.1 n2'.1, eqvAll_iff ds es n1'.2 n2'.2]
    exact ⟨fun ⟨a, b⟩ => by rw [a, b], fun h => List.cons.inj h⟩
end
end Pg

/-! Data of a known size: what repr and == ask of it, put together from its parts. -/
namespace Pg
open PySem PySem.Spec PyProof.Rows L2
/-- at most D deep, at most M signs and parts -/
structure Sz (D M : Nat) (d : PyData) : Prop where
  ok : d.showable = true
  cl : d.canLay0 = true
  dep : d.depth ≤ D
  lv : d.leavesShort 13 = true
  bk : d.bulk ≤ M
structure SzA (D M : Nat) (ds : List PyData) : Prop where
  ok : PyData.showableAll ds = true
  cl : PyData.canLayAll0 ds = true
  dep : PyData.depthAll ds ≤ D
  lv : PyData.leavesShortAll 13 ds = true
  bk : PyData.bulkAll ds ≤ M
theorem Sz.mono {D D' M M' : Nat} {d : PyData} (s : Sz D M d) (h1 : D ≤ D') (h2 : M ≤ M') : Sz D' M' d := ⟨s.ok, s.cl, Nat.le_trans s.dep h1, s.lv, Nat.le_trans s.bk h2⟩
theorem SzA.mono {D D' M M' : Nat} {d : List PyData} (s : SzA D M d) (h1 : D ≤ D') (h2 : M ≤ M') : SzA D' M' d := ⟨s.ok, s.cl, Nat.le_trans s.dep h1, s.lv, Nat.le_trans s.bk h2⟩
theorem Sz.none : Sz 0 0 .none := ⟨rfl, rfl, Nat.le_refl _, rfl, Nat.le_refl _⟩
theorem Sz.bool (b : Bool) : Sz 0 0 (.bool b) := ⟨rfl, rfl, Nat.le_refl _, rfl, Nat.le_refl _⟩
theorem Sz.int {i : Int} (h1 : -999999999999 ≤ i) (h2 : i ≤ 999999999999) : Sz 0 0 (.int i) := by
  refine ⟨?_, rfl, Nat.le_refl _, ?_, Nat.le_refl _⟩
  · simp only [PyData.showable]
    refine decide_eq_true ?_
    by_cases z : i.natAbs = 0
    · rw [z]
      decide
    · refine (Nat.log2_lt z).mpr (Nat.lt_of_lt_of_le (show i.natAbs < 2 ^ 40 by omega) (Nat.pow_le_pow_right (n := 2) (by decide) (by decide)))
  · simp only [PyData.leavesShort]
    exact decide_eq_true (PyData.shown_int_le2 h1 h2)
theorem Sz.str {z : Str} {M : Nat} (c : Codes z) (l : z.length ≤ M) : Sz 0 M (.str z) := by
  refine ⟨rfl, ?_, Nat.le_refl _, ?_, ?_⟩
  · simp only [PyData.canLay0]
    exact c.ok
  · simp only [PyData.leavesShort]
    rw [List.all_eq_true]
    intro x hx
    have := c x hx
    exact decide_eq_true (by omega)
  · simp only [PyData.bulk]
    exact l
theorem SzA.nil {D : Nat} : SzA D 0 [] := ⟨rfl, rfl, Nat.zero_le _, rfl, Nat.le_refl _⟩
theorem SzA.cons {D M N : Nat} {d : PyData} {ds : List PyData} (a : Sz D M d) (b : SzA D N ds) : SzA D (M + 1 + N) (d :: ds) := by
  refine ⟨?_, ?_, ?_, ?_, ?_⟩
  · simp only [PyData.showableAll, a.ok, b.ok, Bool.and_true]
  · simp only [PyData.canLayAll0, a.cl, b.cl, Bool.and_true]
  · simp only [PyData.depthAll]
    exact Nat.max_le.mpr ⟨a.dep, b.dep⟩
  · simp only [PyData.leavesShortAll, a.lv, b.lv, Bool.and_true]
  · simp only [PyData.bulkAll]
    have := a.bk
    have := b.bk
    omega
theorem SzA.all {D M n : Nat} : ∀ {ds : List PyData}, (∀ d ∈ ds, Sz D M d) → ds.length ≤ n → SzA D (n * (M + 1)) ds
  | [], _, _ => SzA.nil.mono (Nat.le_refl _) (Nat.zero_le _)
  | d :: ds, h, l => by
    obtain ⟨n, rfl⟩ : ∃ m, n = m + 1 := ⟨n - 1, by rw [List.length_cons] at l; omega⟩
    have ih := SzA.all (n := n) (fun x hx => h x (List.mem_cons_of_mem _ hx)) (by rw [List.length_cons] at l; omega)
    refine (SzA.cons (h d List.mem_cons_self) ih).mono (Nat.le_refl _) ?_
    rw [Nat.succ_mul]
    omega
theorem SzA.tup {D M : Nat} {ds : List PyData} (a : SzA D M ds) : Sz (D + 1) M (.tuple ds) := by
  refine ⟨?_, ?_, ?_, ?_, ?_⟩
  · simp only [PyData.showable, a.ok]
  · simp only [PyData.canLay0, a.cl]
  · simp only [PyData.depth]
    exact Nat.succ_le_succ a.dep
  · simp only [PyData.leavesShort, a.lv]
  · simp only [PyData.bulk]
    exact a.bk
theorem SzA.lst {D M : Nat} {ds : List PyData} (a : SzA D M ds) : Sz (D + 1) M (.list ds) := by
  refine ⟨?_, ?_, ?_, ?_, ?_⟩
  · simp only [PyData.showable, a.ok]
  · simp only [PyData.canLay0, a.cl]
  · simp only [PyData.depth]
    exact Nat.succ_le_succ a.dep
  · simp only [PyData.leavesShort, a.lv]
  · simp only [PyData.bulk]
    exact a.bk
theorem Sz.nd {D M : Nat} {d : PyData} (s : Sz D M d) : d.hasDict = false := PyData.hasDict_of_canLay _ s.cl
theorem Sz.fits {D M : Nat} {d : PyData} (s : Sz D M d) (h : M ≤ 2 ^ 20) : d.shown.length ≤ sizeLine := PyData.shown_fits_bulk (B := 13) (by decide) (by decide) s.lv (Nat.le_trans s.bk h)
theorem Sz.shaped {D M : Nat} {d : PyData} (s : Sz D M d) (h : D ≤ 64) : SeqAt.shaped d = true := by
  unfold SeqAt.shaped
  rw [s.cl, Bool.true_and]
  exact decide_eq_true (Nat.le_trans s.dep h)
/-- .. of tuples, texts, numbers, None alone -/
structure Pd (D M : Nat) (d : PyData) : Prop where
  sz : Sz D M d
  nl : noL d = true
  nb : noB d = true
structure PdA (D M : Nat) (ds : List PyData) : Prop where
  sz : SzA D M ds
  nl : noLAll ds = true
  nb : noBAll ds = true
theorem Pd.mono {D D' M M' : Nat} {d : PyData} (s : Pd D M d) (h1 : D ≤ D') (h2 : M ≤ M') : Pd D' M' d := ⟨s.sz.mono h1 h2, s.nl, s.nb⟩
theorem PdA.mono {D D' M M' : Nat} {d : List PyData} (s : PdA D M d) (h1 : D ≤ D') (h2 : M ≤ M') : PdA D' M' d := ⟨s.sz.mono h1 h2, s.nl, s.nb⟩
theorem Pd.none : Pd 0 0 .none := ⟨Sz.none, rfl, rfl⟩
theorem Pd.int {i : Int} (h1 : -999999999999 ≤ i) (h2 : i ≤ 999999999999) : Pd 0 0 (.int i) := ⟨Sz.int h1 h2, rfl, rfl⟩
theorem Pd.str {z : Str} {M : Nat} (c : Codes z) (l : z.length ≤ M) : Pd 0 M (.str z) := ⟨Sz.str c l, rfl, rfl⟩
theorem PdA.nil {D : Nat} : PdA D 0 [] := ⟨SzA.nil, rfl, rfl⟩
theorem PdA.cons {D M N : Nat} {d : PyData} {ds : List PyData} (a : Pd D M d) (b : PdA D N ds) : PdA D (M + 1 + N) (d :: ds) :=
  ⟨SzA.cons a.sz b.sz, by simp only [noLAll, a.nl, b.nl, Bool.and_true], by simp only [noBAll, a.nb, b.nb, Bool.and_true]⟩
theorem PdA.all {D M n : Nat} {ds : List PyData} (h : ∀ d ∈ ds, Pd D M d) (l : ds.length ≤ n) : PdA D (n * (M + 1)) ds := by
  refine ⟨SzA.all (fun d hd => (h d hd).sz) l, ?_, ?_⟩
  · clear l
    induction ds with
    | nil => rfl
    | cons d r ih =>
      rw [noLAll, (h d List.mem_cons_self).nl, ih fun x hx => h x (List.mem_cons_of_mem _ hx)]
      rfl
  · clear l
    induction ds with
    | nil => rfl
    | cons d r ih =>
      rw [noBAll, (h d List.mem_cons_self).nb, ih fun x hx => h x (List.mem_cons_of_mem _ hx)]
      rfl
theorem PdA.tup {D M : Nat} {ds : List PyData} (a : PdA D M ds) : Pd (D + 1) M (.tuple ds) := ⟨a.sz.tup, by simp only [noL, a.nl], by simp only [noB, a.nb]⟩
theorem PdA.mem {D M : Nat} : ∀ {ds : List PyData}, PdA D M ds → ∀ d ∈ ds, Pd D M d
  | x :: ds, a, d, hd => by
    obtain ⟨⟨a1, a2, a3, a4, a5⟩, b1, b2⟩ := a
    have a1' : x.showable = true ∧ PyData.showableAll ds = true := Bool.and_eq_true_iff.mp a1
    have a2' : x.canLay0 = true ∧ PyData.canLayAll0 ds = true := Bool.and_eq_true_iff.mp a2
    have a3' : x.depth ≤ D ∧ PyData.depthAll ds ≤ D := Nat.max_le.mp a3
    have a4' : x.leavesShort 13 = true ∧ PyData.leavesShortAll 13 ds = true := Bool.and_eq_true_iff.mp a4
    have a5' : x.bulk + 1 + PyData.bulkAll ds ≤ M := a5
    have b1' : noL x = true ∧ noLAll ds = true := Bool.and_eq_true_iff.mp b1
    have b2' : noB x = true ∧ noBAll ds = true := Bool.and_eq_true_iff.mp b2
    rcases List.mem_cons.mp hd with rfl | hd
    · exact ⟨⟨a1'.1, a2'.1, a3'.1, a4'.1, by omega⟩, b1'.1, b2'.1⟩
    · exact PdA.mem (ds := ds) ⟨⟨a1'.2, a2'.2, a3'.2, a4'.2, by omega⟩, b1'.2, b2'.2⟩ d hd
theorem Pd.parts {D M : Nat} {ds : List PyData} (p : Pd D M (.tuple ds)) : PdA D M ds := by
  obtain ⟨⟨a1, a2, a3, a4, a5⟩, b1, b2⟩ := p
  have a3' : PyData.depthAll ds + 1 ≤ D := a3
  exact ⟨⟨a1, a2, by omega, a4, a5⟩, b1, b2⟩
theorem Pd.keep {D M : Nat} {K : PySem.W.Frag} {H H' : Hp} {v : V} {d : PyData} (p : Pd D M d) (k : KeepT K H H') (h : Dp K H v d) : Dp K H' v d := Dp.keepT k d v p.nl h
theorem PdA.keep {D M : Nat} {K : PySem.W.Frag} {H H' : Hp} {v : List V} {d : List PyData} (p : PdA D M d) (k : KeepT K H H') (h : DpAll K H v d) : DpAll K H' v d := DpAll.keepT k d v p.nl h
theorem Pd.eqv {D M D' M' : Nat} {d e : PyData} (a : Pd D M d) (b : Pd D' M' e) : PyData.eqv d e = true ↔ d = e := eqv_iff d e a.nb b.nb
theorem dpAll_len {K : PySem.W.Frag} {H : Hp} : ∀ {vs : List V} {ds : List PyData}, DpAll K H vs ds → vs.length = ds.length
  | _, _, .nil => rfl
  | _, _, .cons _ t => congrArg (· + 1) (dpAll_len t)
theorem dpAll_get {K : PySem.W.Frag} {H : Hp} : ∀ {vs : List V} {ds : List PyData} {i : Nat} {d : PyData}, DpAll K H vs ds → ds[i]? = some d → ∃ v, vs[i]? = some v ∧ Dp K H v d
  | _, _, 0, _, .cons h _, e => ⟨_, rfl, by rw [← Option.some.inj e]; exact h⟩
  | _, _, i + 1, _, .cons _ t, e => dpAll_get (i := i) t e
theorem dpAll_get' {K : PySem.W.Frag} {H : Hp} : ∀ {vs : List V} {ds : List PyData} {i : Nat} {v : V}, DpAll K H vs ds → vs[i]? = some v → ∃ d, ds[i]? = some d ∧ Dp K H v d
  | _, _, 0, _, .cons h _, e => ⟨_, rfl, by rw [← Option.some.inj e]; exact h⟩
  | _, _, i + 1, _, .cons _ t, e => dpAll_get' (i := i) t e
theorem dpAll_app {K : PySem.W.Frag} {H : Hp} : ∀ {vs ws : List V} {ds es : List PyData}, DpAll K H vs ds → DpAll K H ws es → DpAll K H (vs ++ ws) (ds ++ es)
  | _, _, _, _, .nil, h => h
  | _, _, _, _, .cons a t, h => .cons a (dpAll_app t h)
theorem dpAll_take {K : PySem.W.Frag} {H : Hp} : ∀ {vs : List V} {ds : List PyData} (n : Nat), DpAll K H vs ds → DpAll K H (vs.take n) (ds.take n)
  | _, _, 0, _ => .nil
  | _, _, _ + 1, .nil => .nil
  | _, _, n + 1, .cons a t => .cons a (dpAll_take n t)
/-- a list of data -/
def LAt (K : PySem.W.Frag) (H : Hp) (l : Addr) (ds : List PyData) : Prop := ∃ vs, H l = some (.lst vs) ∧ DpAll K H vs ds
theorem LAt.keep {D M : Nat} {K : PySem.W.Frag} {H H' : Hp} {l : Addr} {ds : List PyData} (a : LAt K H l ds) (p : PdA D M ds) (k : KeepT K H H') (e : H' l = H l) : LAt K H' l ds :=
  let ⟨vs, h, d⟩ := a
  ⟨vs, e.trans h, p.keep k d⟩
theorem LAt.same {D M : Nat} {K : PySem.W.Frag} {H H' : Hp} {l : Addr} {ds : List PyData} (a : LAt K H l ds) (p : PdA D M ds) (s : Same H H') : LAt K H' l ds :=
  let ⟨vs, h, d⟩ := a
  ⟨vs, s _ _ h, p.keep (Same.keepT s) d⟩
theorem LAt.dp {K : PySem.W.Frag} {H : Hp} {l : Addr} {ds : List PyData} (a : LAt K H l ds) : Dp K H (.ref l) (.list ds) :=
  let ⟨_, h, d⟩ := a
  .lst (.inl (.inl h)) d
/-! ### a dict comprehension over the items of a dict that is locked meanwhile -/
theorem dc_items {d : Addr} {o : Obj} {kvs : List (Key × V)} {g : TG} {tt : TT} {tk tv : TE} {vs : List Nat} {σ : L2.St} {H1 : Hp} {D : Addr} {Qd : Hp → Prop} (Pv : Nat → Hp → Prop) (h0 : Pv 0 (upd H1 D (.dK [])))
    (hl : ∀ i H, i ≤ kvs.length → Pv i H → H d = some (.frz o (.dK kvs)))
    (hs : ∀ i k v T H, kvs[i]? = some (k, v) → Pv i H → H T = none → g (.ref T) (wipe σ vs) (upd H T (.tup [kV k, v])) fun σ2 H2 => wipe σ2 vs = wipe σ vs ∧ tt σ2 H2 fun b H3 =>
      if b = true then tk σ2 H3 fun y H4 => tv σ2 H4 fun z H5 => ∃ kws k, y = kV k ∧ H5 D = some (.dK kws) ∧ kws.length < sizeLine ∧ Pv (i + 1) (upd H5 D (.dK (putK kws k z))) else Pv (i + 1) H3) (hd : ∀ H, Pv kvs.length H → Qd H) :
    ∃ W : Nat → Nat → Hp → Prop, (∃ m, W 0 m (upd H1 D (.dK []))) ∧ ∀ i m H, W i m H →
      ((Iti d o kvs).stop i H ∧ Qd H) ∨ ((Iti d o kvs).go i H ∧ ∃ Nx : Hp → Prop, (∀ H', Nx H' → ∃ m', m' < m ∧ W (i + 1) m' H') ∧ ∀ x H', (Iti d o kvs).yld i H x H' → g x (wipe σ vs) H' fun σ2 H2 => wipe σ2 vs = wipe σ vs ∧ tt σ2 H2 fun b H3 =>
        if b = true then tk σ2 H3 fun y H4 => tv σ2 H4 fun z H5 => ∃ kws k, y = kV k ∧ H5 D = some (.dK kws) ∧ kws.length < sizeLine ∧ Nx (upd H5 D (.dK (putK kws k z))) else Nx H3) := by
  refine ⟨fun i m H => i + m = kvs.length ∧ Pv i H, ⟨kvs.length, by omega, h0⟩, ?_⟩
  rintro i m H ⟨e, p⟩
  have lk := hl i H (by omega) p
  by_cases lt : i < kvs.length
  · refine Or.inr ⟨⟨lk, lt⟩, Pv (i + 1), fun H' q => ⟨m - 1, by omega, by omega, q⟩, ?_⟩
    rintro x H' ⟨T, k, v, hkv, rfl, nT, rfl⟩
    exact hs i k v T H hkv p nT
  · obtain rfl : i = kvs.length := by omega
    exact Or.inl ⟨⟨lk, Nat.le_refl _⟩, hd H p⟩
/-! ### small things -/
/-- within a comprehension: the written part is the def's own -/
theorem op_eqDK {X : Cx} {K : PySem.W.Frag} (h : X.K = K) (hu : X.A.units + 64 < cLine) : OpR X (compareOp .Eq) (rEqD K) := h ▸ op_eqD hu
theorem op_neDK {X : Cx} {K : PySem.W.Frag} (h : X.K = K) (hu : X.A.units + 64 < cLine) : OpR X (compareOp .NotEq) (rNeD K) := h ▸ op_neD hu
theorem op_in_seqK {X : Cx} {K : PySem.W.Frag} (h : X.K = K) : OpR X (compareOp .In) (rIn K false) := h ▸ op_in_seq
theorem pg_tupK {X : Cx} {K : PySem.W.Frag} {es : List Expr} {k : Nat} {t : TGs} {n : Nat} {pos : Pos} (e : X.K = K) (hc : X.calm = true) (h : PGs X es t)
    (hn : (assignEach es X.env).length = n := by rfl) (hst : (assignEach es X.env).findIdx? (·.1) = none := by rfl) : PG X (.Tuple es k pos) (gTup K n t) := e ▸ pg_tup hc h hn hst
theorem op_notIn_seqK {X : Cx} {K : PySem.W.Frag} (h : X.K = K) : OpR X (compareOp .NotIn) (rIn K true) := h ▸ op_notIn_seq
theorem inV_str (x : Str) (ys : List Str) : inV (.str x) (ys.map V.str) = decide (x ∈ ys) := by
  unfold inV
  rw [List.any_map, Bool.eq_iff_iff, List.any_eq_true, decide_eq_true_eq]
  constructor
  · rintro ⟨y, hy, e⟩
    have e' : (y == x) = true := e
    rw [← eq_of_beq e']
    exact hy
  · intro h
    exact ⟨x, h, (beq_self_eq_true x : (x == x) = true)⟩
theorem flat_str (ys : List Str) : (ys.map V.str).all flatV = true := by
  rw [List.all_map, List.all_eq_true]
  intro y _
  rfl
theorem cutV_up (xs : List V) (j : Nat) : cutV xs none (some (j : Int)) = xs.take j := by
  unfold cutV
  rw [HT.sIx_none, show HT.sIx xs.length xs.length (some (j : Int)) = min j xs.length from HT.sIx_nat xs.length xs.length j]
  show List.take (min j xs.length - 0) (List.drop 0 xs) = _
  rw [List.drop_zero, Nat.sub_zero, List.take_eq_take_iff]
  omega
theorem putS_app {β : Type} (kvs : List (Str × β)) (k : Str) (v : β) (h : k ∉ kvs.map (·.1)) : putS kvs k v = kvs ++ [(k, v)] := by
  apply putS_new
  rw [get_none.mpr h]
  rfl
/-- a list stays where a store goes to something else -/
theorem sqL_upd {K : PySem.W.Frag} {H : Hp} {p a : Addr} {o : HO} {xs : List V} (no : ∀ xs, H p ≠ some (.lst xs)) (nf : ∀ b xs, H p ≠ some (.frz b (.lst xs))) (h : SqL K H a xs) : SqL K (upd H p o) a xs := by
  rcases h with (h | ⟨b, h⟩) | h
  · exact .inl (.inl (by rw [upd_ne (by rintro rfl; exact no _ h)]; exact h))
  · exact .inl (.inr ⟨b, by rw [upd_ne (by rintro rfl; exact nf _ _ h)]; exact h⟩)
  · exact .inr h
end Pg

/-! Rows of numbers, cut and put together; comprehensions that work on values alone; a module's text. -/
namespace Pg
open PySem PySem.Spec PyProof.Rows L2

theorem pe_cS {X : Cx} {x z : Str} {pos : Pos} (hg : Gl X x) (hm : ∃ t, X.mg x = some (.str z t)) (hd : (x == ("__debug__" : Str)) = false := by decide) : PE X (.Name x pos) (tC (.str z)) := by
  obtain ⟨t, e⟩ := hm
  exact pe_glob hg e ⟨t, rfl⟩ hd
/-- numbers that are not below 0 -/
def vN (bs : List Nat) : List V := bs.map fun n => V.int (n : Nat)
theorem vN_len (bs : List Nat) : (vN bs).length = bs.length := List.length_map _
theorem vN_app (a b : List Nat) : vN (a ++ b) = vN a ++ vN b := List.map_append
theorem vN_take (a : List Nat) (n : Nat) : vN (a.take n) = (vN a).take n := List.map_take
theorem vN_drop (a : List Nat) (n : Nat) : vN (a.drop n) = (vN a).drop n := List.map_drop
theorem vN_set (a : List Nat) (n x : Nat) : vN (a.set n x) = (vN a).set n (.int (x : Nat)) := List.map_set
theorem vN_rep (n x : Nat) : vN (List.replicate n x) = List.replicate n (.int (x : Nat)) := List.map_replicate
theorem vN_get {bs : List Nat} {i n : Nat} (h : bs[i]? = some n) : (vN bs)[i]? = some (V.int (n : Nat)) := by
  unfold vN
  rw [List.getElem?_map, h]
  rfl
theorem vN_get' {bs : List Nat} {i : Nat} {x : V} (h : (vN bs)[i]? = some x) : ∃ n, bs[i]? = some n ∧ x = V.int (n : Nat) := by
  unfold vN at h
  rw [List.getElem?_map] at h
  cases e : bs[i]? with
  | none => rw [e] at h; cases h
  | some n => rw [e] at h; exact ⟨n, rfl, (Option.some.inj h).symm⟩
theorem dpAll_vN {K : PySem.W.Frag} {H : Hp} : ∀ bs : List Nat, DpAll K H (vN bs) (bs.map fun n => PyData.int (n : Nat))
  | [] => .nil
  | _ :: r => .cons (.int _) (dpAll_vN r)
theorem dp_vN {K : PySem.W.Frag} {H : Hp} {l : Addr} {bs : List Nat} (h : H l = some (.lst (vN bs))) : Dp K H (.ref l) (.list (bs.map fun n => PyData.int (n : Nat))) := .lst (.inl (.inl h)) (dpAll_vN bs)
theorem sz_vN {bs : List Nat} {n : Nat} (h : ∀ b ∈ bs, b ≤ 999999999999) (l : bs.length ≤ n) : Sz 1 (n * 1) (.list (bs.map fun n => PyData.int (n : Nat))) := by
  refine (SzA.all (fun d hd => ?_) (by rw [List.length_map]; exact l)).lst
  obtain ⟨b, hb, rfl⟩ := List.mem_map.mp hd
  have := h b hb
  exact Sz.int (by omega) (by omega)
theorem noB_vN : ∀ bs : List Nat, noBAll (bs.map fun n => PyData.int (n : Nat)) = true
  | [] => rfl
  | b :: r => by
    show (noB _ && noBAll _) = true
    rw [show noB (.int (b : Nat)) = true from rfl, Bool.true_and]
    exact noB_vN r
theorem cut_nn (xs : List V) (a b : Nat) : cutV xs (some (a : Int)) (some (b : Int)) = (xs.drop a).take (b - a) := by
  unfold cutV
  rw [show HT.sIx xs.length 0 (some (a : Int)) = min a xs.length from HT.sIx_nat _ _ _, show HT.sIx xs.length xs.length (some (b : Int)) = min b xs.length from HT.sIx_nat _ _ _]
  by_cases h : a ≤ xs.length
  · rw [Nat.min_eq_left h, List.take_eq_take_iff, List.length_drop]
    omega
  · rw [List.drop_of_length_le (by omega), List.drop_of_length_le (i := a) (by omega), List.take_nil, List.take_nil]
theorem cut_n_ (xs : List V) (a : Nat) : cutV xs (some (a : Int)) none = xs.drop a := by
  unfold cutV
  rw [show HT.sIx xs.length 0 (some (a : Int)) = min a xs.length from HT.sIx_nat _ _ _, HT.sIx_none]
  by_cases h : a ≤ xs.length
  · rw [Nat.min_eq_left h]
    exact List.take_of_length_le (by rw [List.length_drop]; omega)
  · rw [List.drop_of_length_le (by omega), List.drop_of_length_le (i := a) (by omega), List.take_nil]
theorem cut_nm (xs : List V) (a : Nat) : cutV xs (some (a : Int)) (some (-1)) = (xs.drop a).take (xs.length - 1 - a) := by
  unfold cutV
  rw [show HT.sIx xs.length 0 (some (a : Int)) = min a xs.length from HT.sIx_nat _ _ _]
  have e : HT.sIx xs.length xs.length (some (-1)) = xs.length - 1 := by
    show (if (-1 : Int) < 0 then ((-1 : Int) + (xs.length : Int)).toNat else min (-1 : Int).toNat xs.length) = _
    rw [if_pos (by decide)]
    omega
  rw [e]
  by_cases h : a ≤ xs.length
  · rw [Nat.min_eq_left h]
  · rw [List.drop_of_length_le (by omega), List.drop_of_length_le (i := a) (by omega), List.take_nil, List.take_nil]
theorem at_last {xs : List V} {v : V} (h : xs.getLast? = some v) : atI xs (-1) = some v := by
  have ne : xs ≠ [] := by
    rintro rfl
    cases h
  have pos : 0 < xs.length := List.length_pos_iff.mpr ne
  unfold atI ixN
  rw [if_neg (by decide), if_pos (by omega)]
  show xs[((-1 : Int) + (xs.length : Int)).toNat]? = _
  rw [List.getLast?_eq_getElem?] at h
  rw [← h]
  congr 1
  omega
/-- a comprehension that makes each item anew from values alone -/
theorem lc_map {K : PySem.W.Frag} {a : Addr} {xs : List V} {g : TG} {tt : TT} {te : TE} {vs : List Nat} {σ : L2.St} {H1 : Hp} {D : Addr} {Qd : Hp → Prop} (fx : V → V) (nD : H1 D = none) (hl : SqL K H1 a xs) (few : xs.length < sizeLine)
    (hs : ∀ (i : Nat) (x : V) (H : Hp) (R : V → Hp → Prop) (S : Hp → Prop), xs[i]? = some x → Same H1 H → R (fx x) H →
      g x (wipe σ vs) H fun σ2 H2 => wipe σ2 vs = wipe σ vs ∧ tt σ2 H2 fun b H3 => if b = true then te σ2 H3 R else S H3) (hd : Qd (upd H1 D (.lst (xs.map fx)))) :
    ∃ W : Nat → Nat → Hp → Prop, (∃ m, W 0 m (upd H1 D (.lst []))) ∧ ∀ i m H, W i m H → ((Itl K a).stop i H ∧ Qd H) ∨
      ((Itl K a).go i H ∧ ∃ Nx : Hp → Prop, (∀ H', Nx H' → ∃ m', m' < m ∧ W (i + 1) m' H') ∧ ∀ x H', (Itl K a).yld i H x H' →
        g x (wipe σ vs) H' fun σ2 H2 => wipe σ2 vs = wipe σ vs ∧ tt σ2 H2 fun b H3 => if b = true then te σ2 H3 fun y H4 => ∃ acc, H4 D = some (.lst acc) ∧ acc.length < sizeLine ∧ Nx (upd H4 D (.lst (acc ++ [y]))) else Nx H3) := by
  have sm : ∀ {o : HO}, Same H1 (upd H1 D o) := fun {o} p x e => by
    rw [upd_ne (ne_of_none e nD)]
    exact e
  have kl : ∀ {o : HO}, SqL K (upd H1 D o) a xs := fun {o} => by
    rcases hl with (h | ⟨u, h⟩) | h
    · exact .inl (.inl (sm _ _ h))
    · exact .inl (.inr ⟨u, sm _ _ h⟩)
    · exact .inr h
  refine lc_list (K := K) (a := a) (xs := xs) (fun i H => H = upd H1 D (.lst ((xs.take i).map fx))) rfl (fun i H _ e => by rw [e]; exact kl) ?_ ?_
  · rintro i x H hx rfl
    refine hs i x _ _ _ hx sm ⟨_, upd_same, ?_, ?_⟩
    · rw [List.length_map, List.length_take]
      omega
    · rw [upd_upd, List.take_add_one, hx, List.map_append]
      rfl
  · rintro H rfl
    rw [List.take_length]
    exact hd
/-- .. of those that pass a test -/
theorem lc_filter {K : PySem.W.Frag} {a : Addr} {xs : List V} {g : TG} {tt : TT} {te : TE} {vs : List Nat} {σ : L2.St} {H1 : Hp} {D : Addr} {Qd : Hp → Prop} (px : V → Bool) (fx : V → V) (nD : H1 D = none) (hl : SqL K H1 a xs) (few : xs.length < sizeLine)
    (hs : ∀ (i : Nat) (x : V) (H : Hp) (R : V → Hp → Prop) (S : Hp → Prop), xs[i]? = some x → Same H1 H → (px x = true → R (fx x) H) → (px x = false → S H) →
      g x (wipe σ vs) H fun σ2 H2 => wipe σ2 vs = wipe σ vs ∧ tt σ2 H2 fun b H3 => if b = true then te σ2 H3 R else S H3) (hd : Qd (upd H1 D (.lst ((xs.filter px).map fx)))) :
    ∃ W : Nat → Nat → Hp → Prop, (∃ m, W 0 m (upd H1 D (.lst []))) ∧ ∀ i m H, W i m H → ((Itl K a).stop i H ∧ Qd H) ∨
      ((Itl K a).go i H ∧ ∃ Nx : Hp → Prop, (∀ H', Nx H' → ∃ m', m' < m ∧ W (i + 1) m' H') ∧ ∀ x H', (Itl K a).yld i H x H' →
        g x (wipe σ vs) H' fun σ2 H2 => wipe σ2 vs = wipe σ vs ∧ tt σ2 H2 fun b H3 => if b = true then te σ2 H3 fun y H4 => ∃ acc, H4 D = some (.lst acc) ∧ acc.length < sizeLine ∧ Nx (upd H4 D (.lst (acc ++ [y]))) else Nx H3) := by
  have sm : ∀ {o : HO}, Same H1 (upd H1 D o) := fun {o} p x e => by
    rw [upd_ne (ne_of_none e nD)]
    exact e
  have kl : ∀ {o : HO}, SqL K (upd H1 D o) a xs := fun {o} => by
    rcases hl with (h | ⟨u, h⟩) | h
    · exact .inl (.inl (sm _ _ h))
    · exact .inl (.inr ⟨u, sm _ _ h⟩)
    · exact .inr h
  refine lc_list (K := K) (a := a) (xs := xs) (fun i H => H = upd H1 D (.lst (((xs.take i).filter px).map fx))) rfl (fun i H _ e => by rw [e]; exact kl) ?_ ?_
  · rintro i x H hx rfl
    have nx : (xs.take (i + 1)).filter px = (xs.take i).filter px ++ [x].filter px := by
      rw [List.take_add_one, hx, List.filter_append]
      rfl
    refine hs i x _ _ _ hx sm (fun p => ⟨_, upd_same, ?_, ?_⟩) (fun p => ?_)
    · rw [List.length_map]
      have h1 := List.length_filter_le px (xs.take i)
      rw [List.length_take] at h1
      omega
    · rw [upd_upd, nx, List.filter_cons_of_pos p, List.map_append]
      rfl
    · rw [nx, List.filter_cons_of_neg (by simp [p]), List.filter_nil, List.append_nil]
  · rintro H rfl
    rw [List.take_length]
    exact hd
/-- a comprehension over a range that makes each item from values alone -/
theorem lc_rangeMap {lo : Int} {n : Nat} {g : TG} {tt : TT} {te : TE} {vs : List Nat} {σ : L2.St} {H1 : Hp} {D : Addr} {Qd : Hp → Prop} (fx : Nat → V) (nD : H1 D = none) (few : n < sizeLine)
    (hs : ∀ (i : Nat) (H : Hp) (R : V → Hp → Prop) (S : Hp → Prop), i < n → Same H1 H → R (fx i) H →
      g (.int (lo + i)) (wipe σ vs) H fun σ2 H2 => wipe σ2 vs = wipe σ vs ∧ tt σ2 H2 fun b H3 => if b = true then te σ2 H3 R else S H3) (hd : Qd (upd H1 D (.lst ((List.range n).map fx)))) :
    ∃ W : Nat → Nat → Hp → Prop, (∃ m, W 0 m (upd H1 D (.lst []))) ∧ ∀ i m H, W i m H → ((Itr lo n).stop i H ∧ Qd H) ∨
      ((Itr lo n).go i H ∧ ∃ Nx : Hp → Prop, (∀ H', Nx H' → ∃ m', m' < m ∧ W (i + 1) m' H') ∧ ∀ x H', (Itr lo n).yld i H x H' →
        g x (wipe σ vs) H' fun σ2 H2 => wipe σ2 vs = wipe σ vs ∧ tt σ2 H2 fun b H3 => if b = true then te σ2 H3 fun y H4 => ∃ acc, H4 D = some (.lst acc) ∧ acc.length < sizeLine ∧ Nx (upd H4 D (.lst (acc ++ [y]))) else Nx H3) := by
  have sm : ∀ {o : HO}, Same H1 (upd H1 D o) := fun {o} p x e => by
    rw [upd_ne (ne_of_none e nD)]
    exact e
  refine lc_range (lo := lo) (n := n) (fun i H => H = upd H1 D (.lst ((List.range i).map fx))) rfl ?_ ?_
  · rintro i H hi rfl
    refine hs i _ _ _ hi sm ⟨_, upd_same, ?_, ?_⟩
    · rw [List.length_map, List.length_range]
      omega
    · rw [upd_upd, List.range_succ, List.map_append]
      rfl
  · rintro H rfl
    exact hd
theorem join_glue0 (ys : List Str) : Txt.join "" ys = glue ys := by
  apply cd_inj
  have h1 : cd (Txt.join "" ys) = TL.joinL (cd "") (ys.map cd) := by
    rw [TL.join_eq]
    exact TL.tl_join "" ys
  have e0 : cd ("" : Str) = [] := by decide +kernel
  rw [h1, e0]
  have h2 : ∀ l : List Str, TL.joinL [] (l.map cd) = cd (glue l) := by
    intro l
    induction l with
    | nil => rfl
    | cons x r ih =>
      cases r with
      | nil =>
        show cd x = cd (x ++ ⟨#[]⟩)
        rw [cd_app]
        simp
      | cons y r =>
        show cd x ++ ([] ++ TL.joinL [] ((y :: r).map cd)) = cd (x ++ glue (y :: r))
        rw [ih, cd_app, List.nil_append]
  exact h2 ys
/-- signs, one text each, put together -/
theorem join_signs (cs : List Nat) : Txt.join "" (cs.map fun c => (⟨#[c]⟩ : Str)) = ⟨cs.toArray⟩ := by
  rw [join_glue0]
  apply cd_inj
  induction cs with
  | nil => rfl
  | cons c r ih =>
    show cd ((⟨#[c]⟩ : Str) ++ glue (r.map fun c => (⟨#[c]⟩ : Str))) = _
    rw [cd_app, ih]
    show [c] ++ (r.toArray).toList = ((c :: r).toArray).toList
    simp
theorem sum_le0 {ys : List Str} {n : Nat} (h : ∀ y ∈ ys, y.length ≤ n) : (ys.map (·.length)).sum ≤ ys.length * n := by
  induction ys with
  | nil => simp
  | cons y r ih =>
    rw [List.map_cons, List.sum_cons, List.length_cons]
    have h1 := h y List.mem_cons_self
    have h2 := ih fun z hz => h z (List.mem_cons_of_mem _ hz)
    have h3 : (r.length + 1) * n = r.length * n + n := by rw [Nat.add_mul, Nat.one_mul]
    omega
theorem vint0 (n : Nat) : (!decide (V.int (n : Nat) = V.int 0)) = !decide (n = 0) := by
  by_cases h : n = 0
  · rw [h]
    rfl
  · rw [decide_eq_false h, decide_eq_false fun z => h (by have := V.int.inj z; omega)]
theorem vN_nonzero (bs : List Nat) : ((vN bs).map fun v => V.bl (!decide (v = .int 0))) = (bs.map fun b => !decide (b = 0)).map V.bl := by
  unfold vN
  rw [List.map_map, List.map_map]
  exact List.map_congr_left fun n _ => congrArg V.bl (vint0 n)
/-- for .. over the keys of a locked dict -/
theorem for_keysL {d : Addr} {o : Obj} {kvs : List (Key × V)} {g : TG} {tb : TS} {D : Ends} {σ : L2.St} {H : Hp} (Pv : Nat → L2.St → Hp → Prop) (h0 : Pv 0 σ H) (locked : ∀ i σ H, i ≤ kvs.length → Pv i σ H → H d = some (.frz o (.dK kvs)))
    (turn : ∀ i k v σ H, kvs[i]? = some (k, v) → Pv i σ H → g (kV k) σ H fun σ2 H2 => tb { D with nx := Pv (i + 1), ct := Pv (i + 1), bk := D.nx } σ2 H2) (after : ∀ σ H, Pv kvs.length σ H → D.nx σ H) :
    ∃ W : Nat → Nat → L2.St → Hp → Prop, (∃ m, W 0 m σ H) ∧ ∀ i m σ H, W i m σ H → ((Itk d o kvs).stop i H ∧ D.nx σ H) ∨
      ((Itk d o kvs).go i H ∧ ∃ N : L2.St → Hp → Prop, (∀ σ' H', N σ' H' → ∃ m', m' < m ∧ W (i + 1) m' σ' H') ∧ ∀ x H', (Itk d o kvs).yld i H x H' → g x σ H' fun σ2 H2 => tb { D with nx := N, ct := N, bk := D.nx } σ2 H2) := by
  refine ⟨fun i m σ H => i + m = kvs.length ∧ Pv i σ H, ⟨kvs.length, by omega, h0⟩, ?_⟩
  rintro i m σ H ⟨e, p⟩
  have lk := locked i σ H (by omega) p
  by_cases lt : i < kvs.length
  · refine .inr ⟨⟨lk, lt⟩, Pv (i + 1), fun σ' H' p' => ⟨m - 1, by omega, by omega, p'⟩, ?_⟩
    rintro x H' ⟨rfl, k, v, at_, rfl⟩
    exact turn i k v σ _ at_ p
  · obtain rfl : i = kvs.length := by omega
    exact .inl ⟨⟨lk, Nat.le_refl _⟩, after σ H p⟩
end Pg

/-! Comprehensions over a range with steps and over what enumerate tells. -/
namespace Pg
open PySem PySem.Spec PyProof.Rows L2

theorem fitsL {i : Int} (h1 : -9000000 ≤ i) (h2 : i ≤ 9000000) : Builtin.Range.rangeFitsLong i = true := by
  unfold Builtin.Range.rangeFitsLong
  rw [Bool.and_eq_true, decide_eq_true_eq, decide_eq_true_eq]
  omega
theorem rgC_up {j c : Nat} (hj : j < 1000000) (hc : 0 < c) (hc2 : c < 1000000) : RgC 0 (j : Int) (c : Int) ((j + c - 1) / c) := by
  have e : Builtin.Range.rangeSize 0 (j : Int) (c : Int) = (((j + c - 1) / c : Nat) : Int) := by
    rw [rangeSize_pos (by omega) (by omega), Int.natCast_ediv]
    congr 1
    omega
  have le : (j + c - 1) / c ≤ j + c := Nat.le_trans (Nat.div_le_self _ _) (by omega)
  generalize (j + c - 1) / c = n at e le ⊢
  refine ⟨by omega, by omega, ?_, e⟩
  unfold Builtin.Range.small
  rw [e]
  rw [fitsL (by omega) (by omega), fitsL (by omega) (by omega), fitsL (by omega) (by omega), fitsL (i := (n : Int)) (by omega) (by omega), if_pos (by omega), fitsL (by omega) (by omega), Bool.or_true]
  rfl
/-- over a range with steps, from values alone -/
theorem lc_stepMap {lo c : Int} {n : Nat} {g : TG} {tt : TT} {te : TE} {vs : List Nat} {σ : L2.St} {H1 : Hp} {D : Addr} {Qd : Hp → Prop} (fx : Nat → V) (nD : H1 D = none) (few : n < sizeLine)
    (hs : ∀ (i : Nat) (H : Hp) (R : V → Hp → Prop) (S : Hp → Prop), i < n → Same H1 H → R (fx i) H →
      g (.int (lo + (i : Nat) * c)) (wipe σ vs) H fun σ2 H2 => wipe σ2 vs = wipe σ vs ∧ tt σ2 H2 fun b H3 => if b = true then te σ2 H3 R else S H3) (hd : Qd (upd H1 D (.lst ((List.range n).map fx)))) :
    ∃ W : Nat → Nat → Hp → Prop, (∃ m, W 0 m (upd H1 D (.lst []))) ∧ ∀ i m H, W i m H → ((Itc lo c n).stop i H ∧ Qd H) ∨
      ((Itc lo c n).go i H ∧ ∃ Nx : Hp → Prop, (∀ H', Nx H' → ∃ m', m' < m ∧ W (i + 1) m' H') ∧ ∀ x H', (Itc lo c n).yld i H x H' →
        g x (wipe σ vs) H' fun σ2 H2 => wipe σ2 vs = wipe σ vs ∧ tt σ2 H2 fun b H3 => if b = true then te σ2 H3 fun y H4 => ∃ acc, H4 D = some (.lst acc) ∧ acc.length < sizeLine ∧ Nx (upd H4 D (.lst (acc ++ [y]))) else Nx H3) := by
  have sm : ∀ {o : HO}, Same H1 (upd H1 D o) := fun {o} p x e => by
    rw [upd_ne (ne_of_none e nD)]
    exact e
  refine ⟨fun i m H => m = n - i ∧ i ≤ n ∧ H = upd H1 D (.lst ((List.range i).map fx)), ⟨n, by simp, Nat.zero_le _, rfl⟩, ?_⟩
  rintro i m H ⟨rfl, hi, rfl⟩
  by_cases lt : i < n
  · refine .inr ⟨lt, fun H' => H' = upd H1 D (.lst ((List.range (i + 1)).map fx)), fun H' p => ⟨n - (i + 1), by omega, rfl, lt, p⟩, fun x H' y => ?_⟩
    obtain ⟨e, y⟩ := y
    subst e y
    refine hs i _ _ _ lt sm ⟨_, upd_same, ?_, ?_⟩
    · rw [List.length_map, List.length_range]
      omega
    · rw [upd_upd, List.range_succ, List.map_append]
      rfl
  · obtain rfl : i = n := by omega
    exact .inl ⟨Nat.le_refl _, hd⟩
/-- over what enumerate tells of a list that stays -/
theorem lc_enum {K : PySem.W.Frag} {a : Addr} {xs : List V} {g : TG} {tt : TT} {te : TE} {vs : List Nat} {σ : L2.St} {H1 : Hp} {D : Addr} {Qd : Hp → Prop} (Pv : Nat → Hp → Prop) (h0 : Pv 0 (upd H1 D (.lst []))) (hl : ∀ i H, i ≤ xs.length → Pv i H → SqL K H a xs)
    (hs : ∀ (i : Nat) (x : V) (H : Hp) (T : Addr), xs[i]? = some x → Pv i H → H T = none → g (.ref T) (wipe σ vs) (upd H T (.tup [.int (i : Nat), x])) fun σ2 H2 => wipe σ2 vs = wipe σ vs ∧ tt σ2 H2 fun b H3 =>
      if b = true then te σ2 H3 fun y H4 => ∃ acc, H4 D = some (.lst acc) ∧ acc.length < sizeLine ∧ Pv (i + 1) (upd H4 D (.lst (acc ++ [y]))) else Pv (i + 1) H3) (hd : ∀ H, Pv xs.length H → Qd H) :
    ∃ W : Nat → Nat → Hp → Prop, (∃ m, W 0 m (upd H1 D (.lst []))) ∧ ∀ i m H, W i m H → ((Ite K a).stop i H ∧ Qd H) ∨
      ((Ite K a).go i H ∧ ∃ Nx : Hp → Prop, (∀ H', Nx H' → ∃ m', m' < m ∧ W (i + 1) m' H') ∧ ∀ x H', (Ite K a).yld i H x H' →
        g x (wipe σ vs) H' fun σ2 H2 => wipe σ2 vs = wipe σ vs ∧ tt σ2 H2 fun b H3 => if b = true then te σ2 H3 fun y H4 => ∃ acc, H4 D = some (.lst acc) ∧ acc.length < sizeLine ∧ Nx (upd H4 D (.lst (acc ++ [y]))) else Nx H3) := by
  refine ⟨fun i m H => m = xs.length - i ∧ i ≤ xs.length ∧ Pv i H, ⟨xs.length, by simp, Nat.zero_le _, h0⟩, ?_⟩
  rintro i m H ⟨rfl, hi, p⟩
  have q := hl i H hi p
  by_cases lt : i < xs.length
  · refine .inr ⟨⟨xs, xs[i], q, by simp [lt]⟩, Pv (i + 1), fun H' p' => ⟨xs.length - (i + 1), by omega, rfl, lt, p'⟩, fun x H' y => ?_⟩
    obtain ⟨T, y1, e, nT, e2, hx⟩ := y
    subst e e2
    exact hs i y1 _ T (hx xs q) p nT
  · obtain rfl : i = xs.length := by omega
    exact .inl ⟨⟨xs, q, Nat.le_refl _⟩, hd H p⟩
/-- for .. in enumerate(..) over a list that stays -/
theorem for_enumL {K : PySem.W.Frag} {a : Addr} {xs : List V} {g : TG} {tb : TS} {D : Ends} {σ : L2.St} {H : Hp} (Pv : Nat → L2.St → Hp → Prop) (h0 : Pv 0 σ H) (hl : ∀ i σ H, i ≤ xs.length → Pv i σ H → SqL K H a xs)
    (hs : ∀ (i : Nat) (x : V) σ H T, xs[i]? = some x → Pv i σ H → H T = none → g (.ref T) σ (upd H T (.tup [.int (i : Nat), x])) fun σ2 H2 => tb { D with nx := Pv (i + 1), ct := Pv (i + 1), bk := D.nx } σ2 H2) (hd : ∀ σ H, Pv xs.length σ H → D.nx σ H) :
    ∃ W : Nat → Nat → L2.St → Hp → Prop, (∃ m, W 0 m σ H) ∧ ∀ i m σ H, W i m σ H → ((Ite K a).stop i H ∧ D.nx σ H) ∨
      ((Ite K a).go i H ∧ ∃ N : L2.St → Hp → Prop, (∀ σ' H', N σ' H' → ∃ m', m' < m ∧ W (i + 1) m' σ' H') ∧ ∀ x H', (Ite K a).yld i H x H' → g x σ H' fun σ2 H2 => tb { D with nx := N, ct := N, bk := D.nx } σ2 H2) := by
  refine ⟨fun i m σ H => m = xs.length - i ∧ i ≤ xs.length ∧ Pv i σ H, ⟨xs.length, by simp, Nat.zero_le _, h0⟩, ?_⟩
  rintro i m σ H ⟨rfl, hi, p⟩
  have q := hl i σ H hi p
  by_cases lt : i < xs.length
  · refine .inr ⟨⟨xs, xs[i], q, by simp [lt]⟩, Pv (i + 1), fun σ' H' p' => ⟨xs.length - (i + 1), by omega, rfl, lt, p'⟩, fun x H' y => ?_⟩
    obtain ⟨T, y1, e, nT, e2, hx⟩ := y
    subst e e2
    exact hs i y1 σ _ T (hx xs q) p nT
  · obtain rfl : i = xs.length := by omega
    exact .inl ⟨⟨xs, q, Nat.le_refl _⟩, hd σ H p⟩
/-- len of a list or a tuple, within a block -/
def rLenK (K : PySem.W.Frag) : List V → Hp → VK → Prop := fun xs H Q => ∃ p ys, xs = [.ref p] ∧ (SqL K H p ys ∨ SqT K H p ys) ∧ Q (.int ys.length) H
theorem call_lenK {X : Cx} {K : PySem.W.Frag} (h : X.K = K) : CallR X (.builtin "len") (rLenK K) := h ▸ call_len_seq
theorem tyx_tup {K : PySem.W.Frag} {H : Hp} {a : Addr} {xs : List V} (h : SqT K H a xs) : TyX K H (.ref a) (.type "tuple") := by
  rcases h with (h | ⟨o, h⟩) | ⟨o, its, n, h, c, _⟩
  · exact .base (.tup h)
  · exact .fTuple h
  · exact .kTuple h c
/-- data of a row of objects, from the data of each -/
theorem dpAll_refs {K : PySem.W.Frag} {H : Hp} : ∀ (ps : List Addr) (d : Nat → PyData), (∀ (k : Nat) (p : Addr), ps[k]? = some p → Dp K H (.ref p) (d k)) → DpAll K H (ps.map V.ref) ((List.range ps.length).map d)
  | [], _, _ => .nil
  | p :: r, d, h => by
    rw [List.length_cons, List.range_succ_eq_map, List.map_cons, List.map_cons, List.map_map]
    exact .cons (h 0 p rfl) (dpAll_refs r (fun k => d (k + 1)) fun k q e => h (k + 1) q e)
theorem noB_rows (d : Nat → PyData) (h : ∀ k, noB (d k) = true) : ∀ n : List Nat, noBAll (n.map d) = true
  | [] => rfl
  | k :: r => by
    show (noB (d k) && noBAll (r.map d)) = true
    rw [h k, Bool.true_and]
    exact noB_rows d h r
theorem noB_ints (bs : List Nat) : noB (.list (bs.map fun n => PyData.int (n : Nat))) = true := by
  show noBAll _ = true
  exact noB_vN bs
end Pg

/-! Several except clauses, each with a name of its own or without; methods that may raise. -/
namespace Pg
open PySem PySem.Spec PyProof.Rows L2

/-- what a clause does with the error: in a slot, or not at all -/
abbrev Cl := Value × Option Nat × (Addr → Value → Option Addr → TS)
/-- the ends of a suite whose error stands in slot i -/
def endsAs (D : Ends) : Option Nat → Ends
  | none => D
  | some i => ⟨fun τ G => D.nx (τ.set i none) G, D.rt, fun τ G => D.bk (τ.set i none) G, fun τ G => D.ct (τ.set i none) G⟩
def slotAs (τ : L2.St) (a : Addr) : Option Nat → L2.St
  | none => τ
  | some i => τ.set i (some (.ref a))
/-- what the clauses wish of an error, the first that fits -/
def wList (K : PySem.W.Frag) (W0 : WX) (D : Ends) : List Cl → WX
  | [] => W0
  | (c, o, ts) :: r => fun cls d τ G => ∃ b, PySem.W.exmOne K cls c = some b ∧ (b = true → ∀ a, G a = none → ts a cls d (endsAs D o) (slotAs τ a o) G) ∧ (b = false → wList K W0 D r cls d τ G)
inductive HdsAs (X : Cx) : List ExceptHandler → List Cl → Prop
  | nil : HdsAs X [] []
  | bare {x : Str} {c : Value} {ts : Addr → Value → Option Addr → TS} {s0 : Stmt} {ss : List Stmt} {p1 p2 : Pos} {hr : List ExceptHandler} {l : List Cl} (named : Names X x c)
      (does : ∀ (a : Addr) (oe : Obj) (cls : Value) (d : Option Addr) (pn : List (Addr × Obj)), Zc cls d oe → (∃ vs, oe.data = .fields vs) → PSs (X.suite a ((a, oe) :: pn)) (s0 :: ss) (ts a cls d)) (more : HdsAs X hr l) :
      HdsAs X (.ExceptHandler (some (.Name x p1)) none (s0 :: ss) p2 :: hr) ((c, none, ts) :: l)
  | as_ {x n : Str} {c : Value} {i : Nat} {ts : Addr → Value → Option Addr → TS} {s0 : Stmt} {ss : List Stmt} {p1 p2 : Pos} {hr : List ExceptHandler} {l : List Cl} (named : Names X x c) (slot : X.N[i]? = some n) (own : X.env.kindOf n = some .local)
      (does : ∀ (a : Addr) (oe : Obj) (cls : Value) (d : Option Addr) (pn : List (Addr × Obj)), Zc cls d oe → (∃ vs, oe.data = .fields vs) → PSs (X.suite a ((a, oe) :: pn)) (s0 :: ss) (ts a cls d)) (more : HdsAs X hr l) :
      HdsAs X (.ExceptHandler (some (.Name x p1)) (some n) (s0 :: ss) p2 :: hr) ((c, some i, ts) :: l)
section
variable {X : Cx} {body : List Stmt} {h0 : ExceptHandler} {hr : List ExceptHandler} {l : List Cl} {pos : Pos} {tb : WX → TS} {W0 : WX}
theorem ps_tryL (stk : X.stack = X.env :: X.outer) (fr : X.env.frame = some X.env.locals) (nd : X.N.Nodup) (tk : Takes X W0)
    (hb : ∀ (W : WX) (pn : List (Addr × Obj)) (xe : Value → Shared → Prop), Takes (X.tr pn xe) W → PassesOwn (model X.prog X.w) X.A X.env xe → PSs (X.tr pn xe) body (tb W)) (hh : HdsAs X (h0 :: hr) l) :
    PS X (.Try body (h0 :: hr) [] [] pos) (fun D τ G => tb (wList X.K W0 D l) D τ G) := by
  constructor
  intro pins s τ G D I hyp
  have ok := I.ok
  have frs_ : X.A.frames = some (X.env :: X.outer) := ok.frames.trans (congrArg some stk)
  apply wpAny_Try_except
  have caught := hb (wList X.K W0 D l) (X.pn ++ pins) (fun e t1 => wpAny (model X.prog X.w) X.A (noteFrame e X.env)
    (fun _ t2 => wpAny (model X.prog X.w) X.A (setFlight e none) (fun _ t3 => wpAny (model X.prog X.w) X.A (handleBy e X.env (h0 :: hr)) (SP X pins D) X.xe t3) X.xe t2) X.xe t1) ?_ PassesOwn.looking
  · refine wpAny_mono (caught.run [] s τ G D (I.toTry _) hyp) (fun f t hsp => ?_) (fun e t he => he)
    cases f with
    | next => obtain ⟨τ1, G1, J1, q⟩ := hsp; exact wpAny_execs_nil ⟨τ1, G1, J1.ofTry ok, q⟩
    | brk => obtain ⟨τ1, G1, J1, q⟩ := hsp; exact ⟨τ1, G1, J1.ofTry ok, q⟩
    | cont => obtain ⟨τ1, G1, J1, q⟩ := hsp; exact ⟨τ1, G1, J1.ofTry ok, q⟩
    | ret u => obtain ⟨v, τ1, G1, J1, r1, q⟩ := hsp; exact ⟨v, τ1, G1, J1.ofTry ok, r1, q⟩
  rintro u t ⟨a, B, tI, pins1, τ1, G1, cls, d, rfl, J1, bare, up, sky, free, os, ag, wish⟩
  have J : Inv X pins τ1 G1 tI := J1.ofTry ok
  rw [stk] at sky
  show wpAny (model X.prog X.w) X.A (noteFrame (.ref a) X.env) _ _ _
  apply Sky.land Zc.steady frs_ fr sky
  intro g3 fl3 up3
  have K3 : Inv X pins τ1 G1 { t with heap := g3 } := J.landed bare fl3.1 (up.trans up3) os ag
  obtain ⟨oe, vs, at_a, zc, fields⟩ := fl3.there
  have off : a ∉ frs (X.env :: X.outer) := fun m => by
    obtain ⟨_, o1, e1, no⟩ := (fl3.2.2.1).mem m
    obtain rfl : oe = o1 := Option.some.inj (at_a.symm.trans e1)
    exact no _ fields
  have offL : a ≠ X.env.locals := fun e => off (List.mem_filterMap.mpr ⟨X.env, List.mem_cons_self, by rw [fr, e]⟩)
  have offF : a ∉ X.fs := fun m => by
    obtain ⟨en, hen, q⟩ := List.mem_filterMap.mp m
    exact off (List.mem_filterMap.mpr ⟨en, List.mem_cons_of_mem _ hen, q⟩)
  have S3 := K3.suite at_a fields free offL offF
  have look : ∀ {x : Str} {c : Value}, Names X x c → ∀ {p : Pos} {Q E : Value → Shared → Prop}, Q c { t with heap := g3 } → wpAny (model X.prog X.w) (X.A.mark (some (.ref a))) (eval (.Name x p) X.env) Q E { t with heap := g3 } := by
    rintro x c ⟨gl, dbg, m | ⟨m, b, nn⟩⟩ p Q E q
    · exact ld_glob (X := X.suite a ((a, oe) :: (X.pn ++ pins))) S3 gl m q dbg
    · exact ld_blt (X := X.suite a ((a, oe) :: (X.pn ++ pins))) S3 gl m b q nn dbg
  have kind : PySem.W.Looks (model X.prog X.w) g3 (typeOf (.ref a)) cls := fun A Q E s k q => by
    apply wpAny_typeOf_ref (k _ _ at_a)
    rw [zc.1]
    exact q
  have go : ∀ {hs : List ExceptHandler} {m : List Cl}, HdsAs X hs m → wList X.K W0 D m cls d τ1 G1 → wpAny (model X.prog X.w) X.A (handleBy (.ref a) X.env hs) (SP X pins D) X.xe { t with heap := g3 } := by
    intro hs m ok2
    induction ok2 with
    | nil =>
      intro w
      apply wpAny_handleBy_nil
      obtain ⟨_, _, _, ob, fv, T, oT, _, e1, _, e2, e3, _⟩ := id fl3
      have fin : wpAny (model X.prog X.w) X.A (setFlight (.ref a) X.env.frame) (fun _ t4 => wpAny (model X.prog X.w) X.A (throw (.ref a) : Sem Flow) (SP X pins D) X.xe t4) X.xe { t with heap := g3 } := by
        rw [fr]
        apply HandSPX.setFlight_upZ fl3
        intro g4 here up4
        exact wpAny_throw (tk _ _ ⟨a, B, tI, pins, τ1, G1, cls, d, rfl, J, bare, (up.trans up3).trans up4, .inr (.inr (by rw [stk]; exact here)), free, os, ag, w⟩)
      unfold PySem.passOn
      apply wpAny_bind
      apply wpAny_field e1 e2 e3
      rw [if_neg (show ¬ ((Value.ref T == Value.none) = true) by simp)]
      first
        | exact wpAny_bind fin
        | exact wpAny_bind (wpAny_pure (wpAny_bind fin))
    | bare named does more ih =>
      rintro ⟨b, fits, yes, no⟩
      apply wpAny_handleBy_cons (codeAny_handlers_test ?_) (by intro q; cases q)
      refine look named ((PySem.W.exm_one (M := model X.prog X.w) K3.kIn kind fits).here ?_)
      cases b with
      | false => exact ih (no rfl)
      | true =>
        apply codeAny_handlers_suite
        apply HandSPX.lands_againZ fl3
        intro g4 fl4 up4
        obtain ⟨oe4, _, at4, zc4, fd4⟩ := fl4.there
        have S4 := (J.landed bare fl4.1 ((up.trans up3).trans up4) os ag : Inv X pins τ1 G1 { t with heap := g4 }).suite at4 fd4 free offL offF
        refine wpAny_mono ((does a oe4 cls d (X.pn ++ pins) zc4 ⟨_, fd4⟩).run [] _ _ G1 _ S4 (yes rfl a free)) (fun f t6 hsp => ?_) (fun _ _ z => False.elim z)
        cases f with
        | next => obtain ⟨τ6, G6, S6, q6⟩ := hsp; exact ⟨_, _, S6.unsuite ok, q6⟩
        | brk => obtain ⟨τ6, G6, S6, q6⟩ := hsp; exact ⟨_, _, S6.unsuite ok, q6⟩
        | cont => obtain ⟨τ6, G6, S6, q6⟩ := hsp; exact ⟨_, _, S6.unsuite ok, q6⟩
        | ret u => obtain ⟨v6, τ6, G6, S6, r6, q6⟩ := hsp; exact ⟨_, _, _, S6.unsuite ok, r6, q6⟩
    | @as_ x n c i ts s0 ss p1 p2 hr l named slot own does more ih =>
      rintro ⟨b, fits, yes, no⟩
      apply wpAny_handleBy_cons (codeAny_handlers_test ?_) (by intro q; cases q)
      refine look named ((PySem.W.exm_one (M := model X.prog X.w) K3.kIn kind fits).here ?_)
      cases b with
      | false => exact ih (no rfl)
      | true =>
        apply codeAny_handlers_suite_as
        apply HandSPX.lands_againZ fl3
        intro g4 fl4 up4
        obtain ⟨oe4, _, at4, zc4, fd4⟩ := fl4.there
        have S4 := (J.landed bare fl4.1 ((up.trans up3).trans up4) os ag : Inv X pins τ1 G1 { t with heap := g4 }).suite at4 fd4 free offL offF
        refine store_ok (X := X.suite a ((a, oe4) :: (X.pn ++ pins))) (v := .ref a) S4 nd slot (.inl own) rfl (fun t5 S5 => ?_) (.inr own)
        refine wpAny_mono ((does a oe4 cls d (X.pn ++ pins) zc4 ⟨_, fd4⟩).run [] t5 _ G1 _ S5 (yes rfl a free)) (fun f t6 hsp => ?_) (fun _ _ z => False.elim z)
        have away : ∀ {τ6 : L2.St} {G6 : Hp} {Q : Shared → Prop}, Inv (X.suite a ((a, oe4) :: (X.pn ++ pins))) [] τ6 G6 t6 → (∀ t7, Inv X pins (τ6.set i none) G6 t7 → Q t7) →
            wpAny (model X.prog X.w) X.A (do bindName X.env n .none; unbindBehindTheSuite X.env n p2) (fun _ t7 => Q t7) X.xe t6 := fun S6 hq => gone_ok (S6.unsuite ok) nd slot own hq
        cases f with
        | next => obtain ⟨τ6, G6, S6, q6⟩ := hsp; exact away S6 fun t7 J7 => ⟨_, _, J7, q6⟩
        | brk => obtain ⟨τ6, G6, S6, q6⟩ := hsp; exact away S6 fun t7 J7 => ⟨_, _, J7, q6⟩
        | cont => obtain ⟨τ6, G6, S6, q6⟩ := hsp; exact away S6 fun t7 J7 => ⟨_, _, J7, q6⟩
        | ret u => obtain ⟨v6, τ6, G6, S6, r6, q6⟩ := hsp; exact away S6 fun t7 J7 => ⟨_, _, _, J7, r6, q6⟩
  exact go hh wish
end
end Pg

/-! Methods and makes that may raise; own errors without fields; walks over zip and reversed. -/
namespace Pg
open PySem PySem.Spec PyProof.Rows L2

/-- a method of the class at C that may raise -/
def CalMX (P : Program) (w : World) (K : PySem.W.Frag) (mg : Str → Option Value) (base : Heap) (C : Addr) (m : Str) (k : Nat) (ps : List Str) (sp : Sp) : Prop :=
  Cls K C ∧ ∃ f fd, FnOk P w K mg base (L2.CX P w) k f fd ps sp ∧ Binds K fd ps [] ∧ Meth K C m f
/-- a class whose making may raise -/
def CalKX (P : Program) (w : World) (K : PySem.W.Frag) (mg : Str → Option Value) (base : Heap) (x : Str) (C : Addr) (k : Nat) (ps : List Str) (sp : Sp) : Prop :=
  mg x = some (.ref C) ∧ ∃ f fd, Mk K C f ∧ FnOk P w K mg base (L2.CX P w) k f fd ps sp ∧ Binds K fd ps []
def tMethS (C : Addr) (m : Str) (sp : Sp) (E : L2.St → XK) (ta : TE) (t : TA) : TE := fun τ G Q => ta τ G fun x G1 => ∃ a dx fs, x = .ref a ∧ G1 a = some (.ins C dx fs) ∧ fs.lookup m = none ∧ t τ G1 fun vs G2 => sp (x :: vs) G2 Q (E τ)
def tMakeS (C : Addr) (sp : Sp) (E : L2.St → XK) (t : TA) : TE := fun τ G Q => t τ G fun vs G1 => ∀ x dx, G1 x = none → G1 dx = none → dx ≠ x → sp (.ref x :: vs) (upd (upd G1 dx (.own x)) x (.ins C dx [])) (fun v G2 => v = .non ∧ Q (.ref x) G2) (E τ)
section
variable {X : Cx} {C : Addr} {k : Nat} {m x : Str} {ps : List Str} {sp : Sp} {o e : Expr} {es : List Expr} {to : TE} {t : TA} {apos pos p : Pos} {E : L2.St → XK}
theorem pe_calMX {pl : Sem Bool} (M : CalMX X.prog X.w X.K X.mg X.base C m k ps sp) (hr : Room k X.A) (hx : ∀ τ, PassesAt (L2.CX X.prog X.w) X τ (E τ)) (ho : PE X o to) (ha : PA X (e :: es) t)
    (hst : starEach (e :: es) X.env = (false, eval e X.env) :: starEach es X.env := by rfl) (hpl : (backTo pos (starEach es X.env)).any (·.1) = false := by rfl)
    (ht : eval (.Call (.Attribute o m apos) (e :: es) [] pos) X.env = (do
      let ov ← eval o X.env
      standAt apos.atName
      let (f, first) ← holding [ov] (getMethod ov m pl)
      callWith pos f first (backTo pos (starEach (e :: es) X.env)) (backToKw pos (keywordEach [] X.env))) := by rfl) :
    PE X (.Call (.Attribute o m apos) (e :: es) [] pos) (tMethS C m sp E to t) := by
  obtain ⟨c, f, fd, F, b, h⟩ := M
  constructor
  intro pins s τ G Q I hyp
  refine PySem.W.methodCall_KW (pl := pl) (thn (ho.run pins s τ G _ I hyp) fun u s1 back => ?_) ht
  obtain ⟨x, G1, I1, rx, a, dx, fs, rfl, ea, l, q⟩ := back
  obtain rfl : u = Value.ref a := rx
  apply getmeth_ok I1 ea c h l
  refine PySem.W.callWith_K (first := [.ref a]) (h₀ := X.base) I.ok.mod.kin h.kp (thn (ha.run pos pins s1 τ G1 _ I1 q) fun us s2 back2 => ?_) hst hpl
  obtain ⟨vs, G2, I2, r, q2⟩ := back2
  exact ⟨I2.kIn, run_fnS (us := .ref a :: us) (vs := .ref a :: vs) F hr b (hx τ) I2 (.cons rfl r) q2⟩
theorem pe_calMX0 {pl : Sem Bool} (M : CalMX X.prog X.w X.K X.mg X.base C m k ps sp) (hr : Room k X.A) (hx : ∀ τ, PassesAt (L2.CX X.prog X.w) X τ (E τ)) (ho : PE X o to)
    (ht : eval (.Call (.Attribute o m apos) [] [] pos) X.env = (do
      let ov ← eval o X.env
      standAt apos.atName
      let (f, first) ← holding [ov] (getMethod ov m pl)
      callWith pos f first (backTo pos (starEach [] X.env)) (backToKw pos (keywordEach [] X.env))) := by rfl) :
    PE X (.Call (.Attribute o m apos) [] [] pos) (tMethS C m sp E to tNil) := by
  obtain ⟨c, f, fd, F, b, h⟩ := M
  constructor
  intro pins s τ G Q I hyp
  refine PySem.W.methodCall_KW (pl := pl) (thn (ho.run pins s τ G _ I hyp) fun u s1 back => ?_) ht
  obtain ⟨x, G1, I1, rx, a, dx, fs, rfl, ea, l, q⟩ := back
  obtain rfl : u = Value.ref a := rx
  apply getmeth_ok I1 ea c h l
  exact PySem.W.callWith_K0 (first := [.ref a]) I1.kIn h.kp (run_fnS (us := [.ref a]) (vs := [.ref a]) F hr b (hx τ) I1 (.cons rfl .nil) q)
theorem pe_mkX (M : CalKX X.prog X.w X.K X.mg X.base x C k ps sp) (hr : Room (k + 1) X.A) (hg : Gl X x) (hx : ∀ τ, PassesAt (L2.CX X.prog X.w) X τ (E τ)) (ha : PA X (e :: es) t) (hdb : (x == ("__debug__" : Str)) = false := by decide)
    (he : starEach (e :: es) X.env = (false, eval e X.env) :: starEach es X.env := by rfl) (hpl : (backTo pos (starEach es X.env)).any (·.1) = false := by rfl) :
    PE X (.Call (.Name x p) (e :: es) [] pos) (tMakeS C sp E t) := by
  obtain ⟨g, f, fd, mk, F, b⟩ := M
  constructor
  intro pins s τ G Q I hyp
  apply wpAny_Call_Name_kw (ld_glob I hg g ?_ hdb)
  refine PySem.W.callWith_K (h₀ := X.base) I.ok.mod.kin mk.kp (thn (ha.run pos pins s τ G _ I hyp) fun us s1 back => ?_) he hpl
  obtain ⟨vs, G1, I1, r, q⟩ := back
  refine ⟨I1.kIn, ?_⟩
  have q1 := q (s1.heap.objs.size + 1) s1.heap.objs.size (I1.hok.fresh (Nat.le_succ _)) (I1.hok.fresh (Nat.le_refl _)) (Nat.ne_of_lt (Nat.lt_succ_self _))
  have I2 := Inv.made (C := C) I1
  have r2 : Vals (V.ref (s1.heap.objs.size + 1) :: vs) (Value.ref (s1.heap.objs.size + 1) :: us) := .cons rfl r
  have len : (Value.ref (s1.heap.objs.size + 1) :: us).length = ps.length := r2.length.symm.trans (F.len _ _ _ _ q1)
  have bb := b _ (Value.ref (s1.heap.objs.size + 1) :: us) I2.kIn (by rw [List.append_nil]; exact len)
  rw [List.append_nil] at bb
  refine wpAny_call (make_map (f := f) I1.kIn mk.makes mk.init (beq_iff_eq.mp mk.fn) (codeAny_mono (F.run _ X.stack _ _ ⟨Value.ref (s1.heap.objs.size + 1) :: us, []⟩ (Value.ref (s1.heap.objs.size + 1) :: us) _ _ (E τ) (hr.make C us []) (I2.env0.make C us []) bb r2 q1) fun res s' z => ?_))
  match res, z with
  | .ok (.ret u), z =>
    obtain ⟨v, G', I3, rv, ev, q3⟩ := I2.after z
    subst ev
    exact ⟨rv, ⟨V.ref (s1.heap.objs.size + 1), G', I3, rfl, q3⟩⟩
  | .ok .next, z => exact False.elim z
  | .ok .brk, z => exact False.elim z
  | .ok .cont, z => exact False.elim z
  | .error e, z => exact hx τ pins _ _ e s' I2 z
end
/-- an own error over ValueError, without fields -/
structure ErrTxt (K : PySem.W.Frag) (mg : Str → Option Value) (x : Str) (C : Addr) : Prop where
  g : mg x = some (.ref C)
  ex : PySem.W.excIn K C [.type "ValueError", .type "Exception", .type "BaseException", .type "object"] "ValueError.__new__" = true
  kp : PySem.W.keepIn K (.ref C) = true
  sb : PySem.W.subIn K (.ref C) (.type "BaseException") = some true
  ty : PySem.W.typeIn K (.ref C) = some (.type "type")
theorem ps_raiseErr {X : Cx} {W : WX} {x m : Str} {j : Nat} {p p2 pos pos2 : Pos} {C : Addr} (hc : X.calm = true) (T : ErrTxt X.K X.mg x C) (tk : Takes X W) (hg : Gl X x := by rfl) (hdb : (x == ("__debug__" : Str)) = false := by decide) :
    PS X (.Raise (some (.Call (.Name x p) [.Constant (.str m) j p2] [] pos)) none pos2) (fun _ τ G => W (.ref C) none τ G) := ps_raise hc tk (pmk_own PySem.F.excBase_ValueError T.ex T.g T.kp (raises_own T.sb T.ty) hg hdb)
/-- for (..) in zip(a, b) over lists, the second at least as long -/
theorem for_zipM {K : PySem.W.Frag} {a b : Addr} {xs ys : List V} {g : TG} {tb : TS} {D : Ends} {σ : L2.St} {H : Hp} (hl : xs.length ≤ ys.length) (Pv : Nat → L2.St → Hp → Prop) (h0 : Pv 0 σ H) (hq : ∀ i σ H, Pv i σ H → SqL K H a xs ∧ SqL K H b ys)
    (hs : ∀ (i : Nat) (x y : V) (T : Addr) (σ : L2.St) (H : Hp), xs[i]? = some x → ys[i]? = some y → Pv i σ H → H T = none → g (.ref T) σ (upd H T (.tup [x, y])) fun σ2 H2 => tb { D with nx := Pv (i + 1), ct := Pv (i + 1), bk := D.nx } σ2 H2)
    (hd : ∀ σ H, Pv xs.length σ H → D.nx σ H) :
    ∃ W : Nat → Nat → L2.St → Hp → Prop, (∃ m, W 0 m σ H) ∧ ∀ i m σ H, W i m σ H → ((Itz K a b).stop i H ∧ D.nx σ H) ∨
      ((Itz K a b).go i H ∧ ∃ N : L2.St → Hp → Prop, (∀ σ' H', N σ' H' → ∃ m', m' < m ∧ W (i + 1) m' σ' H') ∧ ∀ v H', (Itz K a b).yld i H v H' → g v σ H' fun σ2 H2 => tb { D with nx := N, ct := N, bk := D.nx } σ2 H2) := by
  refine ⟨fun i m σ H => m = xs.length - i ∧ i ≤ xs.length ∧ Pv i σ H, ⟨xs.length, rfl, Nat.zero_le _, h0⟩, ?_⟩
  rintro i m σ H ⟨rfl, hi, p⟩
  obtain ⟨qx, qy⟩ := hq i σ H p
  by_cases lt : i < xs.length
  · have hx : xs[i]? = some xs[i] := List.getElem?_eq_getElem lt
    have lt2 : i < ys.length := by omega
    have hy : ys[i]? = some ys[i] := List.getElem?_eq_getElem lt2
    refine .inr ⟨⟨xs, ys, _, _, qx, qy, hx, hy⟩, Pv (i + 1), fun σ' H' p' => ⟨xs.length - (i + 1), by omega, rfl, lt, p'⟩, fun v H' y => ?_⟩
    obtain ⟨T, x1, y1, rfl, nT, rfl, f1, f2⟩ := y
    exact hs i x1 y1 T σ H (f1 xs qx) (f2 ys qy) p nT
  · obtain rfl : i = xs.length := by omega
    exact .inl ⟨⟨xs, ys, qx, qy, Or.inl (Nat.le_refl _)⟩, hd σ H p⟩
/-- for x in reversed(l), a list that stays -/
theorem for_revL {K : PySem.W.Frag} {a : Addr} {xs : List V} {g : TG} {tb : TS} {D : Ends} {σ : L2.St} {H : Hp} (Pv : Nat → L2.St → Hp → Prop) (h0 : Pv 0 σ H) (hq : ∀ i σ H, Pv i σ H → SqL K H a xs)
    (hs : ∀ (i : Nat) (x : V) (σ : L2.St) (H : Hp), i < xs.length → xs[xs.length - 1 - i]? = some x → Pv i σ H → g x σ H fun σ2 H2 => tb { D with nx := Pv (i + 1), ct := Pv (i + 1), bk := D.nx } σ2 H2) (hd : ∀ σ H, Pv xs.length σ H → D.nx σ H) :
    ∃ W : Nat → Nat → L2.St → Hp → Prop, (∃ m, W 0 m σ H) ∧ ∀ i m σ H, W i m σ H → ((Itv K a xs.length).stop i H ∧ D.nx σ H) ∨
      ((Itv K a xs.length).go i H ∧ ∃ N : L2.St → Hp → Prop, (∀ σ' H', N σ' H' → ∃ m', m' < m ∧ W (i + 1) m' σ' H') ∧ ∀ v H', (Itv K a xs.length).yld i H v H' → g v σ H' fun σ2 H2 => tb { D with nx := N, ct := N, bk := D.nx } σ2 H2) := by
  refine ⟨fun i m σ H => m = xs.length - i ∧ i ≤ xs.length ∧ Pv i σ H, ⟨xs.length, rfl, Nat.zero_le _, h0⟩, ?_⟩
  rintro i m σ H ⟨rfl, hi, p⟩
  have q := hq i σ H p
  by_cases lt : i < xs.length
  · have lt2 : xs.length - 1 - i < xs.length := by omega
    refine .inr ⟨⟨lt, xs, _, q, List.getElem?_eq_getElem lt2⟩, Pv (i + 1), fun σ' H' p' => ⟨xs.length - (i + 1), by omega, rfl, lt, p'⟩, fun v H' y => ?_⟩
    obtain ⟨e, y⟩ := y
    subst e
    exact hs i v σ _ lt (y xs q) p
  · obtain rfl : i = xs.length := by omega
    exact .inl ⟨Nat.le_refl _, hd σ H p⟩
/-! two rows, item by item -/
theorem pair_len {α β : Type} {F : α → β → Prop} : ∀ {a : List α} {b : List β}, Paired F a b → a.length = b.length
  | _, _, .nil => rfl
  | _, _, .cons _ t => congrArg (· + 1) (pair_len t)
theorem pair_at {α β : Type} {F : α → β → Prop} : ∀ {a : List α} {b : List β} {i : Nat} {y : β}, Paired F a b → b[i]? = some y → ∃ x, a[i]? = some x ∧ F x y
  | _, _, _, _, .nil, h => by simp at h
  | _, _, 0, y, .cons r t, h => by
    obtain rfl := Option.some.inj h
    exact ⟨_, rfl, r⟩
  | _, _, i + 1, y, .cons r t, h => by
    obtain ⟨x, e, f⟩ := pair_at (i := i) t (by simpa using h)
    exact ⟨x, by simpa using e, f⟩
theorem pair_left {α β : Type} {F : α → β → Prop} {a : List α} {b : List β} {i : Nat} {x : α} (h : Paired F a b) (hx : a[i]? = some x) : ∃ y, b[i]? = some y ∧ F x y := by
  have lt : i < b.length := by
    rw [← pair_len h]
    exact (List.getElem?_eq_some_iff.mp hx).1
  obtain ⟨x', e, f⟩ := pair_at h (List.getElem?_eq_getElem lt)
  rw [hx] at e
  obtain rfl := Option.some.inj e
  exact ⟨_, List.getElem?_eq_getElem lt, f⟩
theorem pair_set {α β : Type} {F : α → β → Prop} : ∀ {a : List α} {b : List β} (i : Nat) {x : α} {y : β}, Paired F a b → F x y → Paired F (a.set i x) (b.set i y)
  | _, _, _, _, _, .nil, _ => .nil
  | _, _, 0, _, _, .cons _ t, f => .cons f t
  | _, _, i + 1, _, _, .cons r t, f => .cons r (pair_set i t f)
theorem pair_app {α β : Type} {F : α → β → Prop} : ∀ {a c : List α} {b d : List β}, Paired F a b → Paired F c d → Paired F (a ++ c) (b ++ d)
  | _, _, _, _, .nil, h => h
  | _, _, _, _, .cons r t, h => .cons r (pair_app t h)
theorem ixN_at {n k : Nat} (h : k < n) : ixN n (k : Int) = some k := by
  unfold ixN
  rw [if_pos (by omega), if_pos (by omega)]
  congr 1
end Pg

/-! isinstance of an error that a suite has caught; its class is asked when it is run. -/
namespace Pg
open PySem PySem.Spec PyProof.Rows L2
def rIsEW (K : PySem.W.Frag) (D a : Addr) (cls : Value) (d : Option Addr) : List V → Hp → VK → Prop := fun xs H Q => cls = .ref D ∧ d = none ∧ rIsE K D a xs H Q
theorem call_isEW {X : Cx} {a D : Addr} {oe : Obj} {cls : Value} {d : Option Addr} {pn : List (Addr × Obj)} (C : ExcC X.K D) (hz : Zc cls d oe) (hf : ∃ vs, oe.data = .fields vs) : CallR (X.suite a ((a, oe) :: pn)) (.builtin "isinstance") (rIsEW X.K D a cls d) := by
  intro pins s σ H xs us Q I r h
  obtain ⟨rfl, rfl, h⟩ := h
  exact call_isE C hz hf pins s σ H xs us Q I r h
theorem kit_cls_of {K : PySem.W.Frag} {C : Addr} {v : Value} {b : Bool} (hd : PySem.W.hasDictIn K C = true) (ht : PySem.W.typeIn K (.ref C) = some (.type "type")) (h : PySem.W.subIn K v (.ref C) = some b) : PySem.W.kitCls K v (.ref C) = some b := by
  obtain ⟨cd, hc, _⟩ := PySem.W.any_some hd
  have e : ((PySem.W.clsIn K C).isSome && PySem.W.typeIn K (.ref C) == some (.type "type")) = true := by rw [hc, ht] <;> rfl
  show (if ((PySem.W.clsIn K C).isSome && PySem.W.typeIn K (.ref C) == some (.type "type")) = true then PySem.W.subIn K v (.ref C) else none) = some b
  rw [if_pos e]
  exact h
theorem kit_true {K : PySem.W.Frag} {C : Addr} {v : Value} (hd : PySem.W.hasDictIn K C = true) (ht : PySem.W.typeIn K (.ref C) = some (.type "type")) (h : PySem.W.subIn K v (.ref C) = some true) : PySem.W.kitOne K v (.ref C) = some true := by
  unfold PySem.W.kitOne
  by_cases e : (v == .ref C) = true
  · rw [if_pos e]
  · rw [if_neg e]
    exact kit_cls_of hd ht h
theorem kit_false {K : PySem.W.Frag} {C D : Addr} (hd : PySem.W.hasDictIn K C = true) (ht : PySem.W.typeIn K (.ref C) = some (.type "type")) (h : PySem.W.subIn K (.ref D) (.ref C) = some false) (hs : PySem.W.subIn K (.ref D) (.ref D) = some true) : PySem.W.kitOne K (.ref D) (.ref C) = some false := by
  unfold PySem.W.kitOne
  by_cases e : (Value.ref D == .ref C) = true
  · have : Value.ref D = .ref C := beq_iff_eq.mp e
    rw [← this, hs] at h
    cases h
  · rw [if_neg e]
    exact kit_cls_of hd ht h
end Pg

/-! sorted by a lambda that takes the first item, with the table of the maker's code; the head with such a table. -/
namespace Pg
open PySem PySem.Spec PyProof.Rows L2 LamX
/-- one parameter, no other name -/
structure OneS (x : Str) (scope : Scope) : Prop where
  kind : scope.kind = .function
  co : scope.isCoroutine = false
  gen : scope.isGenerator = false
  loc : scope.names.lookup x = some .local
  noc : ∀ y ∈ scope.names, y.2 ≠ .cell
  nof : ∀ y ∈ scope.names, y.2 ≠ .free
section
variable {prog : Program} {w : World} {A : Around} {s : Shared}
/-- the lambda at a tuple: its first item -/
theorem key0 {f c' : Addr} {q x : Str} {params : Arguments} {scope : Scope} {p1 p2 p3 : Pos} {j : Nat} {pm ctv : Value} {a : Addr} {its : List Value} {i : Int} {t : Tok}
    (hf : s.heap.get? f = some (PySem.W.kla_obj "<lambda>" q params (.Subscript (.Name x p1) (.Constant (.int 0) j p2) p3) scope [] pm c' ctv)) (hcd : s.heap.CodeRec (.ref c') q) (hlim : s.heap.NoLimit) (hroom : A.depth < recursionLimit)
    (hbind : bindArgs (PySem.W.kla_fn "<lambda>" q params (.Subscript (.Name x p1) (.Constant (.int 0) j p2) p3) scope [] pm (.ref c') ctv) ⟨[.ref a], []⟩ = pure [(x, .ref a)]) (L : OneS x scope) (hd : (x == ("__debug__" : Str)) = false)
    (hp : IsTup s.heap a its.toArray) (h0 : its[0]? = some (.int i t)) :
    wpAny (model prog w) A (call (.ref f) [.ref a]) (PySem.W.KeyPure (.int i) s) (fun _ _ => False) s := by
  refine wpAny_call (PySem.W.kla_callFunE hroom hf rfl L.co L.gen rfl hcd ?_)
  rw [hbind]
  refine wpAny_pure (wpAny_newFunctionEnv L.noc (fun y hy => ?_) (fun h1 hns hsb => ⟨hlim.fresh _ hsb, ?_⟩) L.kind)
  · rw [List.mem_singleton.mp hy]; exact L.loc
  have kp : ∀ b o, s.heap.get? b = some o → h1.get? b = some o := fun b o e => hsb.extBut b o (Nat.ne_of_lt (Heap.lt_size e)) (Heap.get?_push_of_some _ e)
  refine PySem.W.kla_codeExpr (Subscript_ (wpAny_Name (wpAny_loadName_local (v := .ref a) L.kind L.loc hns ?_ ?_) hd))
  · simp
  · refine wpAny_Constant_int ?_
    have hp1 : IsTup h1 a its.toArray := hp.keeps kp
    refine subscriptTail_builtinR (x := .int i t) hp1.typeIs slot_tuple_getitem.lookup (getItem_tuple (j := 0) hp1 (by decide) (by decide) (by
      rw [List.size_toArray]
      have h9 : (0 : Int) < its.length := by have := (List.getElem?_eq_some_iff.mp h0).1; omega
      unfold seqIndex?
      simp only [Int.lt_irrefl, if_false, Int.le_refl, decide_true, Bool.true_and, decide_eq_true_eq]
      rw [if_pos h9]
      rfl) (by simpa using h0) ⟨rfl, ?_⟩)
    exact ⟨h1, _, rfl, kp, .int i t⟩
end

/-- sorted(e, key=lambda x: x[0]): by the first items, those that are alike as they stand -/
def tSortK (K : PySem.W.Frag) (P : Addr) (q : Str) (te : TE) : TE := fun σ H Q => te σ H fun v H1 => ∃ (l : Addr) (its : List (Addr × Int)), [v] = [V.ref l] ∧ SqL K H1 l (its.map fun z => V.ref z.1) ∧
  (∀ z ∈ its, ∃ r, SqT K H1 z.1 (V.int z.2 :: r)) ∧ TabS H1 P q ∧ ∀ (H2 : Hp) (new : Addr), ExtN H1 H2 → TabS H2 P q → (∀ o, H1 new = some o → ∃ ps, o = .tbl ps) →
    H2 new = some (.lst ((its.mergeSort fun a b => decide (a.2 ≤ b.2)).map fun z => V.ref z.1)) → Q (.ref new) H2
theorem extN_sqL {K : PySem.W.Frag} {H H' : Hp} {a : Addr} {xs : List V} (e : ExtN H H') (h : SqL K H a xs) : SqL K H' a xs := by
  rcases h with (h | ⟨o, h⟩) | h
  · exact .inl (.inl (e _ _ h fun ps z => by cases z))
  · exact .inl (.inr ⟨o, e _ _ h fun ps z => by cases z⟩)
  · exact .inr h
theorem extN_sqT {K : PySem.W.Frag} {H H' : Hp} {a : Addr} {xs : List V} (e : ExtN H H') (h : SqT K H a xs) : SqT K H' a xs := by
  rcases h with (h | ⟨o, h⟩) | h
  · exact .inl (.inl (e _ _ h fun ps z => by cases z))
  · exact .inl (.inr ⟨o, e _ _ h fun ps z => by cases z⟩)
  · exact .inr h
theorem each_refs {its : List (Addr × Int)} : PySem.W.EachIs (fun v z => v = Value.ref z.1) (its.map fun z => Value.ref z.1) its := by
  induction its with
  | nil => exact .nil
  | cons z r ih => exact .cons rfl ih
theorem refs_each {out : List Value} {its : List (Addr × Int)} (h : PySem.W.EachIs (fun v z => v = Value.ref z.1) out its) : out = its.map fun z => Value.ref z.1 := by
  induction h with
  | nil => rfl
  | cons e _ ih => rw [ih, e]; rfl
section
variable {X : Cx}
theorem pe_sortedKey {P c : Addr} {te : TE} {e : Expr} {y : Str} {params : Arguments} {scope : Scope} {p pos lpos kpos p1 p2 p3 : Pos} {j k : Nat} (hg : Gl X "sorted") (hm : X.mg "sorted" = none) (ha : PE X e te) (TB : TabB X.base X.mg c P) (hcode : X.env.code = .ref c)
    (hr : Room (k + 1) X.A) (hdef : defaultsOf params X.env = ([], [])) (L : OneS y scope) (hd : (y == ("__debug__" : Str)) = false)
    (hbind : ∀ (q : Str) (pm cv ctv : Value) (a : Addr), bindArgs (PySem.W.kla_fn "<lambda>" q params (.Subscript (.Name y p1) (.Constant (.int 0) j p2) p3) scope [] pm cv ctv) ⟨[.ref a], []⟩ = pure [(y, .ref a)])
    (hclo : cloFrom X.env.cells scope.names [] = [])
    (hv : bootBuiltins "sorted" = some (.builtin "sorted") := by decide +kernel) (hn : ("sorted" : Str) ≠ "__name__" := by decide) (hdb : (("sorted" : Str) == ("__debug__" : Str)) = false := by decide)
    (he : backTo pos (starEach [e] X.env) = (false, eval e X.env) :: backTo pos (starEach [] X.env) := by rfl) (hpl : (backTo pos (starEach [e] X.env)).any (·.1) = false := by rfl) (hs : starEach [e] X.env = (false, eval e X.env) :: starEach [] X.env := by rfl) :
    PE X (.Call (.Name "sorted" p) [e] [⟨some "key", .Lambda params (.Subscript (.Name y p1) (.Constant (.int 0) j p2) p3) scope lpos, kpos⟩] pos) (tSortK X.K P (X.env.qual ++ "<lambda>") te) := by
  refine ⟨fun pins s σ H Q I h => ?_⟩
  refine wpAny_Call_Name_kw (ld_blt I hg hm hv ?_ hn hdb)
  refine PyProof.Rows.callWith_kw (thn ((pa_cons ha pa_nil hs).run pos pins s σ H (fun vs H1 => ∃ (l : Addr) (its : List (Addr × Int)), vs = [V.ref l] ∧ SqL X.K H1 l (its.map fun z => V.ref z.1) ∧
    (∀ z ∈ its, ∃ r, SqT X.K H1 z.1 (V.int z.2 :: r)) ∧ TabS H1 P (X.env.qual ++ "<lambda>") ∧ ∀ (H2 : Hp) (new : Addr), ExtN H1 H2 → TabS H2 P (X.env.qual ++ "<lambda>") → (∀ o, H1 new = some o → ∃ ps, o = .tbl ps) →
    H2 new = some (.lst ((its.mergeSort fun a b => decide (a.2 ≤ b.2)).map fun z => V.ref z.1)) → Q (.ref new) H2) I h) fun us s1 ⟨vs, H1, I1, r1, l, its, ev, hl, hits, hT, q1⟩ => ?_) he hpl (by rfl) (by rfl)
  subst ev
  obtain rfl := Vals.ref1 r1
  show wpAny _ _ (evalAll ((do let v ← eval (.Lambda params (.Subscript (.Name y p1) (.Constant (.int 0) j p2) p3) scope lpos) X.env; standAt pos; pure v) :: [])) _ _ s1
  refine wpAny_evalAll_cons (wpAny_bind (lam_make2 (T := [(P, X.env.qual ++ "<lambda>")]) I1 TB hcode (List.mem_singleton.mpr rfl) (fun z hz _ => by rw [List.mem_singleton.mp hz]) (fun z hz => by rw [List.mem_singleton.mp hz]; exact hT) hdef (fun z hz e => absurd e (L.nof z hz)) fun f c' pm ctv H2 s2 I2 eN T2 hf hfn hfr hco => ?_))
  refine wpAny_bind (wpAny_standAt (wpAny_pure (wpAny_evalAll_nil ?_)))
  show wpAny _ _ (call (.builtin "sorted") [.ref l] [(Str.ofString "key", .ref f)]) _ _ s2
  rw [hclo] at hf
  have tab2 : TabS H2 P (X.env.qual ++ "<lambda>") := T2 _ (List.mem_singleton.mpr rfl)
  obtain ⟨its0, rv, pl, hz⟩ := I2.list (extN_sqL eN hl)
  obtain rfl : its0 = its.map fun z => Value.ref z.1 := by
    have := refs_at (ps := its.map (·.1)) (by rw [List.map_map]; exact rv)
    rw [this, List.map_map]
    rfl
  obtain ⟨⟨oc, vsc, tc, hoc, hdc, hvc⟩, _, _⟩ := I2.hok c' _ hco
  have un := hr.un
  have dp := hr.dp
  have few : its.length ≤ sizeLine := by rw [List.length_map] at hz; exact hz
  refine PySem.W.sorted_key_data (kw := [(Str.ofString "key", .ref f)]) (b := false) (R := fun v z => v = Value.ref z.1) (bs := its) (fun z : Addr × Int => PyData.int z.2) pl.isList each_refs
    (fun d hd1 d' hd2 => ?_) (.inr fun d hd1 => ?_) few (fun x hx => ?_) (ksk_s1 _ _) (fun x => ksk_l1 _ _) (fun x => ksk_t1 _ _) (fun v z hvz hz1 h1 tk kp => ?_) fun out cc h' tk kp fr hnew hlen hout => ?_
  · obtain ⟨z1, _, rfl⟩ := List.mem_map.mp hd1
    obtain ⟨z2, _, rfl⟩ := List.mem_map.mp hd2
    rfl
  · obtain ⟨z1, _, rfl⟩ := List.mem_map.mp hd1
    exact ⟨fun z => (by cases z), fun xs z => (by cases z)⟩
  · show X.A.units + 2 + 0 < cLine
    omega
  · subst hvz
    obtain ⟨r, hq⟩ := hits z hz1
    obtain ⟨tits, trv, tpl, _⟩ := I2.tuple (extN_sqT eN hq)
    obtain ⟨t, tr, rfl, ht⟩ : ∃ (t : Tok) (tr : List Value), tits = .int z.2 t :: tr ∧ True := by
      cases trv with
      | cons a b => obtain ⟨t, rfl⟩ := a; exact ⟨t, _, rfl, trivial⟩
    refine key0 (s := { s2 with heap := h1, toks := tk }) (its := .int z.2 t :: tr) (kp _ _ hf) ⟨c', oc, vsc, tc, rfl, kp _ _ hoc, hdc, hvc⟩ (I2.nolimit.keeps kp) ?_ (hbind _ _ _ _ _) L hd (tpl.keeps kp) rfl
    have : X.A.in1.in1.depth = X.A.depth := rfl
    rw [this]
    omega
  · have I3 : Inv X pins σ (upd H2 (s2.heap.objs.size + 1) (.lst ((its.mergeSort fun a b => decide (a.2 ≤ b.2)).map fun z => V.ref z.1))) { s2 with heap := h', toks := tk } := by
      refine I2.laid kp (Nat.le_succ _) ⟨?_, out, cc, ?_, hnew⟩
      · rw [List.length_map, List.length_mergeSort]; exact few
      · rw [PySem.W.dataLe_int] at hout
        rw [refs_each hout]
        generalize (its.mergeSort fun a b => decide (a.2 ≤ b.2)) = L2
        induction L2 with
        | nil => exact .nil
        | cons a r ih => exact .cons rfl ih
    have nn : H2 (s2.heap.objs.size + 1) = none := I2.hok.fresh (Nat.le_succ _)
    have nn1 : ∀ o, H1 (s2.heap.objs.size + 1) = some o → ∃ ps, o = .tbl ps := fun o w => by
      cases o with
      | tbl ps => exact ⟨ps, rfl⟩
      | _ =>
        have z := eN _ _ w (fun ps z => by cases z)
        rw [nn] at z; cases z
    refine ⟨.ref (s2.heap.objs.size + 1), _, I3, rfl, q1 _ _ ?_ (tab2.ext fun b o h => by rw [upd_ne (ne_of_none h nn)]; exact h) nn1 upd_same⟩
    exact fun b o h n => by
      have z := eN b o h n
      rw [upd_ne (ne_of_none z nn)]; exact z
end

/-- a comprehension over a row whose items stand for ts: those that pass, each made to a value -/
theorem lc_pick {β : Type} {K : PySem.W.Frag} {a : Addr} {xs : List V} {ts : List β} {g : TG} {tt : TT} {te : TE} {vs : List Nat} {σ : L2.St} {H1 : Hp} {D : Addr} {Qd : Hp → Prop} (hlen : xs.length = ts.length) (p : β → Bool) (fx : V → β → V) (nD : H1 D = none) (hl : SqL K H1 a xs) (few : xs.length < sizeLine)
    (hs : ∀ (i : Nat) (x : V) (t : β) (H : Hp) (R : V → Hp → Prop) (S : Hp → Prop), xs[i]? = some x → ts[i]? = some t → Same H1 H → (p t = true → R (fx x t) H) → (p t = false → S H) →
      g x (wipe σ vs) H fun σ2 H2 => wipe σ2 vs = wipe σ vs ∧ tt σ2 H2 fun b H3 => if b = true then te σ2 H3 R else S H3) (hd : Qd (upd H1 D (.lst (((xs.zip ts).filter fun z => p z.2).map fun z => fx z.1 z.2)))) :
    ∃ W : Nat → Nat → Hp → Prop, (∃ m, W 0 m (upd H1 D (.lst []))) ∧ ∀ i m H, W i m H → ((Itl K a).stop i H ∧ Qd H) ∨
      ((Itl K a).go i H ∧ ∃ Nx : Hp → Prop, (∀ H', Nx H' → ∃ m', m' < m ∧ W (i + 1) m' H') ∧ ∀ x H', (Itl K a).yld i H x H' →
        g x (wipe σ vs) H' fun σ2 H2 => wipe σ2 vs = wipe σ vs ∧ tt σ2 H2 fun b H3 => if b = true then te σ2 H3 fun y H4 => ∃ acc, H4 D = some (.lst acc) ∧ acc.length < sizeLine ∧ Nx (upd H4 D (.lst (acc ++ [y]))) else Nx H3) := by
  have sm : ∀ {o : HO}, Same H1 (upd H1 D o) := fun {o} q x e => by
    rw [upd_ne (ne_of_none e nD)]
    exact e
  have kl : ∀ {o : HO}, SqL K (upd H1 D o) a xs := fun {o} => by
    rcases hl with (h | ⟨u, h⟩) | h
    · exact .inl (.inl (sm _ _ h))
    · exact .inl (.inr ⟨u, sm _ _ h⟩)
    · exact .inr h
  refine lc_list (K := K) (a := a) (xs := xs) (fun i H => H = upd H1 D (.lst ((((xs.zip ts).take i).filter fun z => p z.2).map fun z => fx z.1 z.2))) rfl (fun i H _ e => by rw [e]; exact kl) ?_ ?_
  · rintro i x H hx rfl
    obtain ⟨lt, _⟩ := List.getElem?_eq_some_iff.mp hx
    obtain ⟨t, ht⟩ : ∃ t, ts[i]? = some t := ⟨ts[i], List.getElem?_eq_getElem (by omega)⟩
    have hz : (xs.zip ts)[i]? = some (x, t) := by rw [List.getElem?_zip_eq_some]; exact ⟨hx, ht⟩
    have nx : ((xs.zip ts).take (i + 1)).filter (fun z => p z.2) = ((xs.zip ts).take i).filter (fun z => p z.2) ++ [(x, t)].filter (fun z => p z.2) := by
      rw [List.take_add_one, hz, List.filter_append]
      rfl
    refine hs i x t _ _ _ hx ht sm (fun q => ⟨_, upd_same, ?_, ?_⟩) (fun q => ?_)
    · rw [List.length_map]
      have h1 := List.length_filter_le (fun z : V × β => p z.2) ((xs.zip ts).take i)
      rw [List.length_take] at h1
      omega
    · rw [upd_upd, nx, List.filter_cons_of_pos (p := fun z : V × β => p z.2) (a := (x, t)) q, List.map_append]
      rfl
    · rw [nx, List.filter_cons_of_neg (by simp [q]), List.filter_nil, List.append_nil]
  · rintro H rfl
    rw [List.take_of_length_le (by rw [List.length_zip]; omega)]
    exact hd
/-! ### del d[k] and d.items(), the keys tuples -/
def sDDelT (td ty : TE) : TS := fun D σ H => td σ H fun x H1 => ty σ H1 fun y H2 => ∃ (a : Addr) (kvs : List (List Key × V)) (k : List Key) (b : Addr), x = .ref a ∧ H2 a = some (.dT kvs) ∧ y = .ref b ∧ H2 b = some (.tup (k.map kV)) ∧ (valV kvs k).isSome = true ∧ D.nx σ (upd H2 a (.dT (dropK kvs k)))
theorem KT_drop {H : Hp} {kvs : List (List Key × V)} {xs : List (List Key × Addr × Value)} (r : KT H kvs xs) (k : List Key) : KT H (dropK kvs k) (withoutH xs k) := by
  induction r with
  | nil => exact .nil
  | @cons p q ps qs h t ih =>
    unfold dropK withoutH
    rw [List.filter_cons, List.filter_cons]
    by_cases e : p.1 = k
    · rw [if_neg (by simpa using e), if_neg (by simpa using h.1.symm.trans e)]
      exact ih
    · rw [if_pos (decide_eq_true e), if_pos (show decide (q.1 ≠ k) = true from decide_eq_true fun z => e (h.1.trans z))]
      exact .cons h ih
theorem d_delItemT {X : Cx} {pins : List (Addr × Obj)} {σ : L2.St} {H : Hp} {s : Shared} {a b : Addr} {kvs : List (List Key × V)} {k : List Key} {A : Around} {E : Value → Shared → Prop} {Q : Unit → Shared → Prop} (hu : A.units + 1 < cLine) (I : Inv X pins σ H s) (e : H a = some (.dT kvs)) (eb : H b = some (.tup (k.map kV))) (l : (valV kvs k).isSome = true) (h : ∀ s', Inv X pins σ (upd H a (.dT (dropK kvs k))) s' → Q () s') :
    wpAny (model X.prog X.w) A (delItem (.ref a) (.ref b)) Q E s := by
  obtain ⟨z, hd, xs, rel, dd⟩ := dt_of I.hok e
  have hz : xs.length ≤ sizeLine := by rw [← Paired.length rel]; exact z
  have hp : ∃ p, atKey xs k = some p := by
    have r := (rel.val k).isSome_eq
    rw [l, Option.isSome_map] at r
    exact Option.isSome_iff_exists.mp r.symm
  obtain ⟨p, hp⟩ := hp
  refine wpAny_delItem_heap (hsz := hz) (tupleKind_room_in1 hu) (key_of I.hok eb) hd dd hp fun h' dd' hs => h _ ?_
  obtain ⟨q, es, ep, hq, h2, h3, h4, _, h5⟩ := dd'
  refine d_write I (by rw [e]; exact True.intro) hs ⟨q, hq⟩ ⟨Nat.le_trans (dropK_le kvs k) z, hd, _, (KT_drop rel k).keeps fun c ys ec => ?_, q, es, ep, hq, h2, h3, h4, h5⟩
  rw [upd_ne (ne_of ec e (fun z => nomatch z))]
  exact ec
theorem ps_ddelT {X : Cx} {o i : Expr} {tpos pos : Pos} {td ty : TE} (hu : X.A.units + 1 < cLine) (ho : PE X o td) (hi : PE X i ty) : PS X (.Delete [.Subscript o i tpos] pos) (sDDelT td ty) := by
  refine ⟨fun pins s σ H D I h => ?_⟩
  refine wpAny_Delete (wpAny_deleteEach_cons (wpAny_delete_Subscript (thn (ho.run pins s σ H _ I h) fun u s1 ⟨x, H1, I1, rx, q1⟩ => thn (hi.run pins s1 σ H1 _ I1 q1) fun iv s2 ⟨y, H2, I2, ry, a, kvs, k, b, ex, e, ey, eb, l, q2⟩ => ?_)))
  subst ex ey
  obtain rfl : u = Value.ref a := rx
  obtain rfl : iv = Value.ref b := ry
  exact d_delItemT hu I2 e eb l fun s3 I3 => wpAny_deleteEach_nil ⟨σ, _, I3, q2⟩
/-- the pairs of a locked dict with tuples as keys, each a new tuple -/
def Itit (d : Addr) (o : Obj) (kvs : List (List Key × V)) : It :=
  ⟨fun i H => H d = some (.frz o (.dT kvs)) ∧ i < kvs.length, fun i H x H' => ∃ (T : Addr) (k : List Key) (v : V) (q : Addr), kvs[i]? = some (k, v) ∧ x = .ref T ∧ H q = some (.tup (k.map kV)) ∧ H T = none ∧ H' = upd H T (.tup [.ref q, v]), fun i H => H d = some (.frz o (.dT kvs)) ∧ kvs.length ≤ i⟩
theorem frzTV {X : Cx} {pins : List (Addr × Obj)} {σ : L2.St} {H : Hp} {s : Shared} {d : Addr} {o : Obj} {kvs : List (List Key × V)} (I : Inv X pins σ H s) (h : H d = some (.frz o (.dT kvs))) :
    (d == sysModules) = false ∧ s.heap.get? d = some o ∧ o.ExactDict ∧ ∃ (es : Array DictEntry) (ep : Nat), o.data = .dict es ep ∧ es.size = kvs.length ∧
      ∀ (i : Nat) (k : List Key) (v : V), kvs[i]? = some (k, v) → ∃ (en : DictEntry) (q : Addr), es[i]? = some en ∧ en.key = .ref q ∧ H q = some (.tup (k.map kV)) ∧ L2.RelV v en.val := by
  obtain ⟨hd, z, hs, xs, pr, o', es, ep, ho, hx, hdt, he, _⟩ := I.hok d _ h
  rw [hd] at ho
  cases ho
  refine ⟨hs, hd, hx, es, ep, hdt, ?_, fun i k v e => ?_⟩
  · have l1 : es.size = xs.length := size_of_entries he
    have l2 : kvs.length = xs.length := Paired.length pr
    omega
  · obtain ⟨b, hb, e1, e2, e3⟩ := paired_get pr e
    have q := entry_at he i
    rw [hb] at q
    exact ⟨_, b.2.1, q, rfl, e2, e3⟩
theorem turn_itemsT {P : Program} {w : World} {K : PySem.W.Frag} {d : Addr} {o : Obj} {es : Array DictEntry} {ep : Nat} {kvs : List (List Key × V)} {elts : List Expr} {kk : Nat} {tpos : Pos} (it : Addr) (hod : o.data = .dict es ep) :
    Turn P w K (.Tuple elts kk tpos) (Itit d o kvs) [it] it (fun i h => ∃ ok ov, IsItemIter h it d i kvs.length ep ok ov) where
  mem := by simp
  obj := fun i h st b hb => by
    have e : b = it := by simpa using hb
    subst e
    obtain ⟨ok, ov, e⟩ := st
    exact ⟨_, e, fun v z => nomatch z⟩
  keep := fun i h h' st k => let ⟨ok, ov, e⟩ := st; ⟨ok, ov, k it (by simp) _ e⟩
  item := by
    intro X hP hw hK hc i pins s σ H E I hf st hg
    subst hP hw hK
    obtain ⟨hd, hi⟩ := hg
    obtain ⟨hs, hgd, hx, es', ep', hdt, hsz, ent⟩ := frzTV I hd
    obtain ⟨rfl, rfl⟩ := dict_ep hod hdt
    obtain ⟨⟨k, v⟩, hkv⟩ : ∃ p, kvs[i]? = some p := ⟨kvs[i], List.getElem?_eq_getElem hi⟩
    obtain ⟨en, q, hen, hkey, hq, rv⟩ := ent i k v hkv
    obtain ⟨ok, ov, he⟩ := st
    rw [← hsz] at he
    have hlt : it < s.heap.objs.size := Heap.lt_size he
    have hi' : i < es'.size := by omega
    have een : es'[i] = en := by rw [Array.getElem?_eq_getElem hi'] at hen; exact Option.some.inj hen
    refine DT.nextI he ⟨o, hgd, hx, hdt⟩ hi' fun h' ho hT hz hk => ?_
    rw [een] at ho hT
    refine ⟨_, rfl, wpAny_letOwnedTupleGo_items (s := { s with heap := h' }) ho fun h'' he' sb => ?_⟩
    have hT2 : h''.get? s.heap.objs.size = some { cls := .type "tuple", data := .seq #[en.key, en.val] } := (sb.2 _ (Nat.ne_of_gt hlt)).trans hT
    have new : ObjOk X.prog X.w (upd H s.heap.objs.size (.tup [.ref q, v])) h'' s.heap.objs.size (.tup [.ref q, v]) :=
      ⟨by show 2 ≤ sizeLine; decide, [en.key, en.val], .cons hkey (.cons rv .nil), ⟨_, hT2, rfl, _, rfl⟩⟩
    have I1 : Inv X pins σ (upd H s.heap.objs.size (.tup [.ref q, v])) { s with heap := h'' } :=
      I.turnedNew (t' := s.toks) (ch := [it]) (fun b ob hb e => (sb.2 b (by simpa using hb)).trans (hk b ob (by simpa using hb) e)) hf (Nat.le_refl _) new
    refine ⟨.ref s.heap.objs.size, _, I1, rfl, ⟨_, k, v, q, hkv, rfl, hq, I.hok.fresh (Nat.le_refl _), rfl⟩, ⟨en.key, en.val, ?_⟩, fun b hb => ?_⟩
    · rw [← hsz]; exact he'
    · have e : b = it := by simpa using hb
      rw [e, upd_ne (Nat.ne_of_lt hlt)]
      exact (hf it (by simp)).1
  done := by
    intro X hP hw hK hc i pins s σ H E I hf st hg
    subst hP hw hK
    obtain ⟨hd, hi⟩ := hg
    obtain ⟨f0, f1, f2, f3, f4, f5⟩ := hf it (by simp)
    obtain ⟨hs, hgd, hx, es', ep', hdt, hsz, ent⟩ := frzTV I hd
    obtain ⟨rfl, rfl⟩ := dict_ep hod hdt
    obtain ⟨ok, ov, he⟩ := st
    rw [← hsz] at he
    exact DT.endI (I.ok.hd hc) he ⟨o, hgd, hx, hdt⟩ (by omega) fun h' eb => ⟨rfl, I.turned (t' := s.toks) (fun b ob hb e => eb b ob hb e) f0 f1 f3 f4 f5⟩
  self := fun A i s Q E st h => let ⟨_, _, e⟩ := st; PySem.W.kcp_self e h
def iItemsT (td : TE) : TI := fun σ H R => td σ H fun x H1 => ∃ d o kvs, x = .ref d ∧ H1 d = some (.frz o (.dT kvs)) ∧ R (Itit d o kvs) H1
theorem pi_itemsT {X : Cx} {e : Expr} {td : TE} {apos cpos : Pos} {elts : List Expr} {kk : Nat} {tpos : Pos} (he : PE X e td) (hbase : attributeBase e "items" X.env (eval e X.env) = eval e X.env := by rfl) (hline : (apos.endLine == cpos.line) = true := by rfl) :
    PI X (.Tuple elts kk tpos) (.Call (.Attribute e "items" apos) [] [] cpos) (iItemsT td) := by
  refine ⟨fun pins s σ H R I h => ?_⟩
  refine wpAny_Call_method (T := "dict") (id := "dict.items") hbase rfl hline F.plainAttrs_dict F.slot_dict_items F.type_dict_items (thn (he.run pins s σ H _ I h) fun u s1 ⟨x, H1, I1, rx, d, o, kvs, ex, hd, q⟩ => ?_)
  subst ex
  obtain rfl : u = Value.ref d := rx
  obtain ⟨hs, hgd, hx, es, ep, hdt, hsz, ent⟩ := frzTV I1 hd
  have raw : DT.Raw s1.heap d es ep := ⟨o, hgd, hx, hdt⟩
  refine ⟨raw.typeIs, ?nd, ?_⟩
  case nd => exact fun b eb => by cases eb; exact ⟨o, hgd, hx.2.1⟩
  have I2 : Inv X pins σ H1 { s1 with heap := s1.heap.push { cls := .type "dict_items", data := .fields #[.ref d] } } := I1.kept (t' := s1.toks) fun b ob q => Heap.get?_push_of_some _ q
  have fin : wpAny (model X.prog X.w) X.A (pyIter (.ref s1.heap.objs.size)) (PIE X pins σ (.Tuple elts kk tpos) R) X.xe { s1 with heap := s1.heap.push { cls := .type "dict_items", data := .fields #[.ref d] } } := by
    refine DT.iterI ⟨_, Heap.get?_push_size _ rfl, rfl, rfl⟩ (raw.push _) (pi_one (tk := s1.toks) I2 _ (turn_itemsT _ hdt) ⟨.none, .none, ?_⟩ q)
    rw [← hsz]
    exact Heap.get?_push_size _ rfl
  show wpAny _ _ (callWith cpos (.builtin "dict.items") [.ref d] [] []) _ X.xe s1
  exact method_meetsIn F.slot_dict_items F.entry_dict_items rfl (PySem.evalArgs_none ⟨rfl, raw.typeIs, F.args_dict_items_1 _, _, DT.meetsItems hs, ⟨raw, fin⟩⟩)
/-- a comprehension over them -/
theorem lc_itemsT {d : Addr} {o : Obj} {kvs : List (List Key × V)} {g : TG} {tt : TT} {te : TE} {vs : List Nat} {σ : L2.St} {H1 : Hp} {D : Addr} {Qd : Hp → Prop} (Pv : Nat → Hp → Prop) (h0 : Pv 0 (upd H1 D (.lst [])))
    (hl : ∀ i H, i ≤ kvs.length → Pv i H → H d = some (.frz o (.dT kvs)))
    (hs : ∀ i k v T q H, kvs[i]? = some (k, v) → Pv i H → H q = some (.tup (k.map kV)) → H T = none → g (.ref T) (wipe σ vs) (upd H T (.tup [.ref q, v])) fun σ2 H2 => wipe σ2 vs = wipe σ vs ∧ tt σ2 H2 fun b H3 =>
      if b = true then te σ2 H3 fun y H4 => ∃ acc, H4 D = some (.lst acc) ∧ acc.length < sizeLine ∧ Pv (i + 1) (upd H4 D (.lst (acc ++ [y]))) else Pv (i + 1) H3) (hd : ∀ H, Pv kvs.length H → Qd H) :
    ∃ W : Nat → Nat → Hp → Prop, (∃ m, W 0 m (upd H1 D (.lst []))) ∧ ∀ i m H, W i m H →
      ((Itit d o kvs).stop i H ∧ Qd H) ∨ ((Itit d o kvs).go i H ∧ ∃ Nx : Hp → Prop, (∀ H', Nx H' → ∃ m', m' < m ∧ W (i + 1) m' H') ∧ ∀ x H', (Itit d o kvs).yld i H x H' → g x (wipe σ vs) H' fun σ2 H2 => wipe σ2 vs = wipe σ vs ∧ tt σ2 H2 fun b H3 =>
        if b = true then te σ2 H3 fun y H4 => ∃ acc, H4 D = some (.lst acc) ∧ acc.length < sizeLine ∧ Nx (upd H4 D (.lst (acc ++ [y]))) else Nx H3) := by
  refine ⟨fun i m H => i + m = kvs.length ∧ Pv i H, ⟨kvs.length, by omega, h0⟩, ?_⟩
  rintro i m H ⟨e, p⟩
  have lk := hl i H (by omega) p
  by_cases lt : i < kvs.length
  · refine Or.inr ⟨⟨lk, lt⟩, Pv (i + 1), fun H' q => ⟨m - 1, by omega, by omega, q⟩, ?_⟩
    rintro x H' ⟨T, k, v, q, hkv, rfl, hq, nT, rfl⟩
    exact hs i k v T q H hkv p hq nT
  · obtain rfl : i = kvs.length := by omega
    exact Or.inl ⟨⟨lk, Nat.le_refl _⟩, hd H p⟩

/-! ### the law entered, one table tracked -/
section
variable {P : Program} {w : World} {K : PySem.W.Frag} {mg mb : Str → Option Value}
theorem enter_lawT {k : Nat} {fa a c T : Addr} {fd : FuncData} {x : Str} {sp : Sp} {s : Shared} {vs : List Value} {ns : List Int}
    (hk : K.In s.heap) (hn : s.heap.Ns mainGlobals mg) (hb : s.heap.Ns builtinsNs mb) (hbb : ∀ x : Str, x ≠ "__name__" → mb x = bootBuiltins x) (nl : s.heap.NoLimit) (hg : s.gens = #[])
    (hT : s.heap.get? T = some (PySem.W.tabObj #[])) (nT : K.lookup T = none) (C : PySem.W.CodeHd s.heap c T)
    (hbm : ∃ (bm : Addr) (ob : Obj), mg "__builtins__" = some (.ref bm) ∧ bm ≠ builtinsNs ∧ s.heap.get? bm = some ob ∧ ob.cls = .type "module" ∧ ob.dict = some builtinsNs ∧ ob.data = .plain)
    (at_a : s.heap.get? a = some { cls := .type "list", data := .seq vs.toArray }) (hi : IntsAre vs ns) (few : ns.length ≤ sizeLine) (hr : Room k callerA)
    (F : ∀ base : Heap, K.In base → base.Ns mainGlobals mg → TabB base mg c T → FnG P w K mg base k fa fd [x] sp) (hbind : ∀ (s : Shared) (u : Value), BindsTo s fd ⟨[u], []⟩ [(x, u)])
    (hsp : ∀ H : Hp, H T = some (.tbl #[]) → SqL K H a (ns.map V.int) → sp [.ref a] H (fun v _ => v = .bl true) E0) :
    codeAny (model P w) callerA (.call (.ref fa) ⟨[.ref a], []⟩) (fun r s' => r = .ok (.ret (.bool true)) ∧ OldK s.heap s'.heap ∧ s'.os = s.os ∧ AllBare s'.gens) s := by
  obtain ⟨H0, En⟩ := Entry.there (P := P) (w := w) hk at_a hi few
  have aT : a ≠ T := by
    rintro rfl
    rw [at_a] at hT
    cases congrArg Obj.data (Option.some.inj hT)
  have H0T : H0 T = none := En.nope T aT.symm
  have off : ∀ b, b ≠ a → b ≠ T → upd H0 T (.tbl #[]) b = none := fun b h1 h2 => by rw [upd_ne h2]; exact En.nope b h1
  have held : HOk P w (upd H0 T (.tbl #[])) s.heap := by
    intro b o e
    by_cases hbT : b = T
    · subst hbT
      rw [upd_same] at e
      cases e
      exact hT
    · rw [upd_ne hbT] at e
      rcases En.only b with z | ⟨ob, xs, z⟩
      · rw [z] at e; cases e
      · rw [z] at e
        cases e
        exact En.held b _ z
  have seq : SqL K (upd H0 T (.tbl #[])) a (ns.map V.int) := by
    rcases En.seq with (z | ⟨ob, z⟩) | z
    · exact .inl (.inl (by rw [upd_ne aT]; exact z))
    · exact .inl (.inr ⟨ob, by rw [upd_ne aT]; exact z⟩)
    · exact .inr z
  have out : ∀ {b : Addr} {o : Obj}, s.heap.get? b = some o → (∀ us n, o.data ≠ .seq us n) → (∀ us, o.data ≠ .fields us ∨ o.cls ≠ .none) → (hidT s.heap (upd H0 T (.tbl #[]))).get? b = some o := fun {b o} q n1 n2 => by
    refine hidT_get q (off b ?_ ?_)
    · rintro rfl
      rw [at_a] at q
      cases q
      exact n1 _ _ rfl
    · rintro rfl
      rw [hT] at q
      cases q
      rcases n2 #[] with z | z
      · exact z rfl
      · exact z rfl
  have dicts : ∀ {b : Addr} {m : Str → Option Value}, s.heap.Ns b m → (hidT s.heap (upd H0 T (.tbl #[]))).Ns b m := by
    rintro b m ⟨o, es, ep, q, d, r⟩
    exact ⟨o, es, ep, out q (fun us n z => by rw [d] at z; cases z) (fun us => .inl fun z => by rw [d] at z; cases z), d, r⟩
  have inK : K.In (hidT s.heap (upd H0 T (.tbl #[]))) := by
    intro b o q
    by_cases hbT : b = T
    · rw [hbT, nT] at q; cases q
    by_cases hba : b = a
    · subst hba
      rcases En.off with z | z
      · exact hidT_get (hk _ _ q) (by rw [upd_ne hbT]; exact z)
      · rw [z] at q; cases q
    · exact hidT_get (hk _ _ q) (off b hba hbT)
  have gT : mainGlobals ≠ T := by
    intro z
    obtain ⟨o, es, ep, e, hd, _⟩ := hn
    rw [z, hT] at e
    cases e
    cases hd
  have tab : TabB (hidT s.heap (upd H0 T (.tbl #[]))) mg c T := by
    refine ⟨?_, ?_, gT⟩
    · obtain ⟨o, us, file, tf, flags, tg, inF, text, tt, e1, r1, r2, rest⟩ := C
      refine ⟨o, us, file, tf, flags, tg, inF, text, tt, out e1 (fun us n z => ?_) (fun us => .inr fun z => ?_), r1, r2, rest⟩
      · rw [r2] at z; cases z
      · rw [r1] at z; cases z
    · obtain ⟨bm, ob, b1, b2, b3, b4, b5, b6⟩ := hbm
      refine ⟨bm, ob, b1, b2, fun z => ?_, fun z => ?_, out b3 (fun us n z => ?_) (fun us => .inl fun z => ?_), b4, b5, b6⟩
      · obtain ⟨o, es, ep, e, hd, _⟩ := hn
        rw [z, e] at b3
        cases b3
        rw [hd] at b6
        cases b6
      · rw [z, hT] at b3
        cases b3
        cases b6
      · rw [b6] at z; cases z
      · rw [b6] at z; cases z
  have modl : Mod K mg (hidT s.heap (upd H0 T (.tbl #[]))) := {
    kin := inK
    glob := dicts hn
    blt := ⟨mb, dicts hb, hbb⟩
    nolimit := by obtain ⟨mc, z1, z2⟩ := nl; exact ⟨mc, dicts z1, z2⟩ }
  have none_in : ∀ b, b ∈ frs ([] : List Env) → False := fun b z => by
    have z' : b ∈ ([] : List Addr) := z
    cases z'
  have e0 : Env0 P w K mg (hidT s.heap (upd H0 T (.tbl #[]))) callerA [] s (upd H0 T (.tbl #[])) := {
    frames := rfl
    mod := modl
    bs := fun b o q => of_hidT q
    bsz := Nat.le_of_eq (hidT_size _ _)
    funs := trivial
    frf := fun b z => (none_in b z).elim
    hok := held
    bare := .of_eq hg }
  apply codeAny_mono ((F _ inK (dicts hn) tab).go callerA [] s (upd H0 T (.tbl #[])) ⟨[.ref a], []⟩ [.ref a] [.ref a] _ rfl hr e0 (hbind s (.ref a)) (.cons rfl .nil) (hsp _ upd_same seq))
  intro r s' z
  match r, z with
  | .error _, z => exact False.elim z
  | .ok .next, z => exact False.elim z
  | .ok .brk, z => exact False.elim z
  | .ok .cont, z => exact False.elim z
  | .ok (.ret u), z =>
    obtain ⟨v, H', os, bare, un, held', rv, rfl⟩ := z
    cases rv
    obtain ⟨more, zm⟩ := un.tbls T #[] upd_same
    have hT' : s'.heap.get? T = some { cls := .none, data := .fields (#[] ++ more) } := held' T _ zm
    have key : ∀ b o, b ≠ T → s.heap.get? b = some o → s'.heap.get? b = some o := by
      intro b o hbT q
      rcases En.only b with y | ⟨ob, xs, y⟩
      · exact un.keep b o q (by rw [upd_ne hbT]; exact y) (none_in b) (by intro y2; cases y2)
      · have y0 : upd H0 T (.tbl #[]) b = some (.frz ob (.lst xs)) := by rw [upd_ne hbT]; exact y
        have y1 := (En.held b _ y).left
        have y2 := (held' b _ (un.frzs b ob _ y0)).left
        rw [y1] at q
        cases q
        exact y2
    refine ⟨rfl, ⟨fun b o q => ?_, fun b o q => ?_⟩, os, bare⟩
    · by_cases hbT : b = T
      · subst hbT
        rw [hT] at q
        cases q
        exact .inr (.inl ⟨(C.tab hT).isCodeTable, rfl, #[], more, rfl, hT'⟩)
      · exact .inl (key b o hbT q)
    · by_cases hbT : b = T
      · rw [hbT]; exact ⟨_, hT'⟩
      · exact ⟨o, key b o hbT q⟩
end
/-- the goal that km_head leaves, from the law's promise -/
theorem walkGT {l : PySem.W.OpenLaw} {n k : Nat} {q : Program} {loose : List Str} {XP : (Str → Option Value) → Heap → Prop} {YP : World → Heap → Prop} {d : DefRec} {K : Params → PySem.W.Frag} {sp : Addr → PySem.W.Frag → Sp} {x : Str}
    (hn : l.most = some n) (few : n ≤ sizeLine) (hdf : d.params.defaults = []) (hr : Room k callerA) (hY : ∀ (w : World) (h : Heap), YP w h → (K w.params).In h)
    (F : ∀ (w : World) (mg : Str → Option Value) (fa : Addr) (h : Heap), YP w h → (K w.params).In h → h.Ns mainGlobals mg → mg d.name = some (.ref fa) →
      ∃ (c T : Addr) (fd : FuncData), h.get? T = some (PySem.W.tabObj #[]) ∧ (K w.params).lookup T = none ∧ PySem.W.CodeHd h c T ∧ (∀ (s : Shared) (u : Value), BindsTo s fd ⟨[u], []⟩ [(x, u)]) ∧
        ∀ base : Heap, (K w.params).In base → base.Ns mainGlobals mg → TabB base mg c T → FnG l.prog w (K w.params) mg base k fa fd [x] (sp T (K w.params)))
    (hsp : ∀ (T : Addr) (K : PySem.W.Frag) (H : Hp) (a : Addr) (ns : List Int), ns.length ≤ n → H T = some (.tbl #[]) → SqL K H a (ns.map V.int) → sp T K [.ref a] H (fun v _ => v = .bl true) E0) :
    PySem.W.WalkO q loose XP YP l.row.toRowW d [] (fun f vs => PySem.call f vs) := by
  apply Att.attach_call hn hdf
  intro w s0 s1 mg mb fa o pm cd doc a vs ns G Y ho hd hcd hmg hobj hints hlen hg
  obtain ⟨c, T, fd, hT, nT, C, hb, hF⟩ := F w mg fa _ Y (hY w _ Y) G.T.g hmg
  exact enter_lawT (hY w _ Y) G.T.g G.T.b G.T.builtins G.T.nolimit hg hT nT C G.T.bmain hobj hints (Nat.le_trans hlen few) hr hF hb (fun H hH hS => hsp T _ H a ns hlen hH hS)
theorem tab_mk {h : Heap} {K : PySem.W.Frag} {c T : Addr} {x : Str} {α : Addr → Addr → FuncData → Prop} (h1 : h.get? T = some (PySem.W.tabObj #[])) (h2 : K.lookup T = none) (h3 : PySem.W.CodeHd h c T) (am : ∃ fd : FuncData, (∀ (s : Shared) (u : Value), BindsTo s fd ⟨[u], []⟩ [(x, u)]) ∧ α c T fd) :
    ∃ (c T : Addr) (fd : FuncData), h.get? T = some (PySem.W.tabObj #[]) ∧ K.lookup T = none ∧ PySem.W.CodeHd h c T ∧ (∀ (s : Shared) (u : Value), BindsTo s fd ⟨[u], []⟩ [(x, u)]) ∧ α c T fd :=
  let ⟨fd, b, f⟩ := am
  ⟨c, T, fd, h1, h2, h3, b, f⟩
theorem u65 {k : Nat} {A : Around} (hr : Room k A) : A.units + 65 < cLine := by
  have := hr.un
  omega
theorem op_inDK {X : Cx} {K : PySem.W.Frag} (h : X.K = K) (hu : X.A.units + 65 < cLine) : OpR X (compareOp .In) (rInD K) := h ▸ op_inD hu
theorem op_notInDK {X : Cx} {K : PySem.W.Frag} (h : X.K = K) (hu : X.A.units + 65 < cLine) : OpR X (compareOp .NotIn) (rNotInD K) := h ▸ op_notInD hu
/-! ### a def whose code object is known -/
structure FunC (K : PySem.W.Frag) (x qual : Str) (st : Stmt) (f : Addr) (fd : FuncData) (c : Addr) : Prop where
  ex : ∃ (oc : Value) (od : Option Addr) (kV doc pm : Value) (an : Option Addr) (ct : Value) (osl : Array (Option Value)),
    fd = PySem.W.fnOf x qual (defArgs st) (defBody st) (defScope st) .none kV doc pm an (.ref c) ct ∧ K.lookup f = some ⟨oc, od, .func fd, osl⟩ ∧ PySem.W.codeIn K (.ref c) qual = true
  kp : PySem.W.keepIn K (.ref f) = true
section
variable {P : Program} {w : World} {K : PySem.W.Frag} {mg : Str → Option Value} {base : Heap}
theorem FunC.plain {x qual : Str} {st : Stmt} {f : Addr} {fd : FuncData} {c : Addr} (F : FunC K x qual st f fd c) : Fun K x qual st f fd :=
  ⟨let ⟨oc, od, kV, doc, pm, an, ct, osl, e, l, r⟩ := F.ex; ⟨oc, od, kV, doc, pm, an, .ref c, ct, osl, e, l, r⟩, F.kp⟩
theorem FunC.ok {x qual : Str} {st : Stmt} {f c : Addr} {fd : FuncData} {N ps : List Str} {k : Nat} {sp : Sp} (F : FunC K x qual st f fd c) (S : FnScope N ps (defScope st)) (few : ∀ vs H Q E, sp vs H Q E → vs.length = ps.length)
    (body : ∀ (A : Around) (outer : List Env) (s : Shared) (H : Hp) (vs : List V) (Q : VK) (E : XK), Room k (A.deeper (envOfC qual (defScope st) s.heap.objs.size f (.ref c))) → sp vs H Q E →
      ∃ t, PSs (cxOf CX0 P w K mg base N qual (defScope st) f (.ref c) A outer s H E).nox (defBody st) t ∧ t { nx := fun _ H' => Q .non H', rt := Q } (start N vs) H) : FnOk P w K mg base CX0 (k + 1) f fd ps sp := by
  obtain ⟨_, _, _, _, _, _, _, _, rfl, at_f, cd_ok⟩ := F.ex
  refine fn_of at_f cd_ok S few fun A outer s H vs Q E hr h => ?_
  obtain ⟨t, ht, q⟩ := body A outer s H vs Q E hr h
  exact ⟨t, ht.nox, q⟩
theorem funC_mk {x qual : Str} {st : Stmt} {f c : Addr} {oc : Value} {od an : Option Addr} {osl : Array (Option Value)} {kV doc pm ct : Value} (l : K.lookup f = some ⟨oc, od, .func (PySem.W.fnOf x qual (defArgs st) (defBody st) (defScope st) .none kV doc pm an (.ref c) ct), osl⟩)
    (r : PySem.W.codeIn K (.ref c) qual = true) (k : PySem.W.keepIn K (.ref f) = true) : FunC K x qual st f (PySem.W.fnOf x qual (defArgs st) (defBody st) (defScope st) .none kV doc pm an (.ref c) ct) c := ⟨⟨_, _, _, _, _, _, _, _, rfl, l, r⟩, k⟩
end
end Pg

/-! Tuples of plain objects, dict(..) of such a tuple of pairs, the order of tuples of numbers. -/
namespace Pg
open PySem PySem.Spec PyProof.Rows L2
section
variable {X : Cx}
/-- a tuple whose own object is known to be plain -/
def tTupF (ta : TA) : TE := fun σ H Q => ta σ H fun vs H1 => vs.length ≤ sizeLine ∧ ∀ (p : Addr) (ob : Obj), ob.dict = none → H1 p = none → Q (.ref p) (upd H1 p (.frz ob (.tup vs)))
theorem pe_tupF {es : List Expr} {x1 : Nat} {pos : Pos} {t : TA} (h : PA X es t) : PE X (.Tuple es x1 pos) (tTupF t) := by
  refine ⟨fun pins s σ H Q I hq => ?_⟩
  refine wpAny_Tuple_spliced (thn (h.run pos pins s σ H _ I hq) fun us s1 ⟨xs, H1, I1, r, z, q⟩ => ⟨by rw [← r.length]; exact z, ?_⟩)
  have new : H1 s1.heap.objs.size = none := I1.hok.fresh (Nat.le_refl _)
  refine ⟨.ref s1.heap.objs.size, upd H1 s1.heap.objs.size (.frz _ (.tup xs)), I1.laid (t' := s1.toks) (fun b u e => Heap.get?_push_of_some _ e) (Nat.le_refl _) ⟨Heap.get?_push_size _ rfl, z, us, r, ⟨_, Heap.get?_push_size _ rfl, rfl, _, rfl⟩⟩, rfl, q _ _ rfl new⟩
/-- tuple(l), the same -/
def rTupF (K : PySem.W.Frag) : List V → Hp → VK → Prop := fun xs H Q => ∃ (p : Addr) (ys : List V), xs = [.ref p] ∧ SqL K H p ys ∧ ∀ (l : Addr) (ob : Obj), ob.dict = none → H l = none → Q (.ref l) (upd H l (.frz ob (.tup ys)))
theorem call_tupF : CallR X (.type "tuple") (rTupF X.K) := by
  intro pins s σ H xs us Q I r ⟨p, ys, e, hq, q⟩
  subst e
  obtain ⟨u, rfl, rx⟩ := vals1 r
  cases rx
  obtain ⟨its, rel, pl, small⟩ := I.list hq
  have hlen := rel.length
  refine call_tuple_list pl.isList (fun h' kp => ?_) (by simp only [List.size_toArray] <;> omega)
  have I1 : Inv X pins σ H { s with heap := h' } := I.kept (t' := s.toks) kp
  refine ⟨.ref h'.objs.size, _, I1.laid (t' := s.toks) (o := .frz _ (.tup ys)) (fun b o e => Heap.get?_push_of_some _ e) (Nat.le_refl _) ⟨Heap.get?_push_size _ rfl, small, its, rel, IsTup.new _ _⟩, rfl, q _ _ rfl (I1.hok.fresh (Nat.le_refl _))⟩
/-- the pairs' own values -/
theorem pair_vals {pins : List (Addr × Obj)} {σ : L2.St} {H : Hp} {s : Shared} (I : Inv X pins σ H s) {ps : List Addr} {kvs : List (Key × V)} (h : Paired (fun p kv => SqT X.K H p [kV kv.1, kv.2]) ps kvs) :
    ∃ (uvs : List (Value × Value)) (prs : List (Key × Value)), KV kvs prs ∧ uvs.length = ps.length ∧ prs.length = ps.length ∧
      ∀ (j : Nat) (u v : Value), uvs[j]? = some (u, v) → ∃ (b : Addr) (k : Key), ps[j]? = some b ∧ IsTup s.heap b #[u, v] ∧ prs[j]? = some (k, v) ∧ keyIs k u = true := by
  induction h with
  | nil => exact ⟨[], [], .nil, rfl, rfl, fun j u v e => by simp at e⟩
  | @cons p kv ps kvs h t ih =>
    obtain ⟨uvs, prs, r, l1, l2, all⟩ := ih
    obtain ⟨its, rv, tp, _⟩ := I.tuple h
    obtain ⟨u, y, ei, ru, ry⟩ := vals2 rv
    subst ei
    refine ⟨(u, y) :: uvs, (kv.1, y) :: prs, .cons ⟨rfl, ry⟩ r, by rw [List.length_cons, List.length_cons, l1], by rw [List.length_cons, List.length_cons, l2], fun j u' v' e => ?_⟩
    cases j with
    | zero =>
      obtain ⟨rfl, rfl⟩ := Prod.mk.inj (Option.some.inj e)
      exact ⟨p, kv.1, rfl, tp, rfl, kV_is (P := X.prog) (w := X.w) ru⟩
    | succ j => exact all j u' v' (by simpa using e)
def rDictF (K : PySem.W.Frag) : List V → Hp → VK → Prop := fun xs H Q => ∃ (a : Addr) (ob : Obj) (ps : List Addr) (kvs : List (Key × V)), xs = [.ref a] ∧ ob.dict = none ∧ H a = some (.frz ob (.tup (ps.map V.ref))) ∧ Paired (fun p kv => SqT K H p [kV kv.1, kv.2]) ps kvs ∧
  ∀ p, H p = none → Q (.ref p) (upd H p (.dK (mergeK [] kvs)))
theorem call_dictF (calm : X.calm = true) : CallR X (.type "dict") (rDictF X.K) := by
  intro pins s σ H xs us Q I r ⟨a, ob, ps, kvs, e, hd, ha, pr, q⟩
  subst e
  obtain ⟨u, rfl, rx⟩ := vals1 r
  cases rx
  obtain ⟨at_a, small, its, rel, o, ho, hc, n, hdat⟩ := I.hok a _ ha
  rw [at_a] at ho
  cases ho
  obtain rfl := refs_at rel
  obtain ⟨uvs, prs, rk, l1, l2, all⟩ := pair_vals I pr
  have at_of : ∀ (j : Nat) (u v : Value), uvs[j]? = some (u, v) → ((ps.map Value.ref).toArray)[j]? = some (.ref (ps.getD j 0)) ∧ PySem.PairAt s.heap (ps.getD j 0) u v := fun j u v e => by
    obtain ⟨b, k, e1, e2, _⟩ := all j u v e
    have e3 : ps.getD j 0 = b := by rw [List.getD_eq_getElem?_getD, e1]; rfl
    rw [e3]
    exact ⟨by rw [List.getElem?_toArray, List.getElem?_map, e1]; rfl, .inl e2⟩
  have P := PySem.PairArg.tuple (prog := X.prog) (w := X.w) a ((ps.map Value.ref).toArray) (fun j => ps.getD j 0) uvs
  have few : uvs.length ≤ sizeLine := by rw [l1]; rw [List.length_map] at small; exact small
  refine PySem.call_dict_pairs (knd := mixKind X.prog X.w) (kvs := prs) P (I.ok.hd calm) ⟨⟨_, n, at_a, hc, hd, hdat⟩, by rw [List.size_toArray, List.length_map, l1], at_of⟩ ⟨by rw [l2, l1], fun i u v e => ?_⟩ few fun h' tk hdict kp => ?_
  · obtain ⟨b, k, _, _, e3, e4⟩ := all i u v e
    exact ⟨k, e3, e4⟩
  · have kp' : ∀ b o, s.heap.get? b = some o → h'.get? b = some o := fun b o e => kp b o (by simp) e
    have nn : H s.heap.objs.size = none := I.hok.fresh (Nat.le_refl _)
    refine ⟨.ref s.heap.objs.size, _, I.laid (t' := tk) kp' (Nat.le_refl _) (dk_new ?_ ?_ (KV.merge rk .nil) hdict), rfl, q _ nn⟩
    · have := length_mergeK kvs []
      have l3 := rk.length
      rw [List.length_nil] at this
      omega
    · have := I.big
      exact beq_eq_false_iff_ne.mpr (Nat.ne_of_gt this)
/-! ### the order of pairs of numbers -/
def rOrdT (K : PySem.W.Frag) (g : Int → Int → Int → Int → Bool) : R2 := fun x y H Q => ∃ (a b : Addr) (i j k l : Int), x = .ref a ∧ y = .ref b ∧ SqT K H a [.int i, .int j] ∧ SqT K H b [.int k, .int l] ∧ Q (.bl (g i j k l)) H
theorem pairs_ints {pins : List (Addr × Obj)} {σ : L2.St} {H : Hp} {s : Shared} {a : Addr} {i j : Int} (I : Inv X pins σ H s) (h : SqT X.K H a [.int i, .int j]) : ∃ t u, IsTup s.heap a #[.int i t, .int j u] := by
  obtain ⟨its, r, p, _⟩ := I.tuple h
  obtain ⟨x, y, rfl, rx, ry⟩ := vals2 r
  obtain ⟨t, rfl⟩ := rx
  obtain ⟨u, rfl⟩ := ry
  exact ⟨t, u, p⟩
theorem op_geT (hu : X.A.units < cLine) : OpR X (compareOp .GtE) (rOrdT X.K fun i j k l => if i = k then decide (l ≤ j) else decide (k ≤ i)) := by
  intro pins s σ H x y v u Q I rx ry ⟨a, b, i, j, k, l, e1, e2, ha, hb, q⟩
  subst e1 e2
  cases rx
  cases ry
  obtain ⟨t1, t2, p1⟩ := pairs_ints I ha
  obtain ⟨t3, t4, p2⟩ := pairs_ints I hb
  have R := Ob.RcOp.tuples_ge (A := X.A) (s := s) (e := fun n => if n = 0 then (i == k) else (j == l)) (r := fun n => if n = 0 then decide (k ≤ i) else decide (l ≤ j)) p1 p2 hu (fun n h1 h2 => by
    have h1' : n < 2 := h1
    match n, h1' with
    | 0, _ => exact SeqAt.EqAt.int_int _ _ _ _
    | 1, _ => exact SeqAt.EqAt.int_int _ _ _ _) (fun n h1 h2 _ => by
    have h1' : n < 2 := h1
    match n, h1' with
    | 0, _ => exact Ob.RcOp.ge_int _ _ _ _
    | 1, _ => exact Ob.RcOp.ge_int _ _ _ _)
  have ev : Ob.lexAt (fun n => if n = 0 then (i == k) else (j == l)) (fun n => if n = 0 then decide (k ≤ i) else decide (l ≤ j)) true 0 2 = (if i = k then decide (l ≤ j) else decide (k ≤ i)) := by
    show (if (i == k) = true then (if (j == l) = true then true else decide (l ≤ j)) else decide (k ≤ i)) = _
    by_cases e1 : i = k
    · rw [if_pos (beq_iff_eq.mpr e1), if_pos e1]
      by_cases e2 : j = l
      · rw [if_pos (beq_iff_eq.mpr e2)]
        exact (decide_eq_true (by omega)).symm
      · rw [if_neg (fun h => e2 (beq_iff_eq.mp h))]
    · rw [if_neg (fun h => e1 (beq_iff_eq.mp h)), if_neg e1]
  have z : wpAny (model X.prog X.w) X.A (compareOp .GtE (.ref a) (.ref b)) (EP X pins σ Q) X.xe s := R X.prog X.w X.xe (EP X pins σ Q) ⟨.bl _, H, I, rfl, by
    have q' : Q (.bl (if i = k then decide (l ≤ j) else decide (k ≤ i))) H := q
    rw [← ev] at q'
    exact q'⟩
  exact z
theorem op_gtT (hu : X.A.units < cLine) : OpR X (compareOp .Gt) (rOrdT X.K fun i j k l => if i = k then decide (l < j) else decide (k < i)) := by
  intro pins s σ H x y v u Q I rx ry ⟨a, b, i, j, k, l, e1, e2, ha, hb, q⟩
  subst e1 e2
  cases rx
  cases ry
  obtain ⟨t1, t2, p1⟩ := pairs_ints I ha
  obtain ⟨t3, t4, p2⟩ := pairs_ints I hb
  have R := Ob.RcOp.tuples_gt (A := X.A) (s := s) (e := fun n => if n = 0 then (i == k) else (j == l)) (r := fun n => if n = 0 then decide (k < i) else decide (l < j)) p1 p2 hu (fun n h1 h2 => by
    have h1' : n < 2 := h1
    match n, h1' with
    | 0, _ => exact SeqAt.EqAt.int_int _ _ _ _
    | 1, _ => exact SeqAt.EqAt.int_int _ _ _ _) (fun n h1 h2 _ => by
    have h1' : n < 2 := h1
    match n, h1' with
    | 0, _ => exact Ob.RcOp.gt_int _ _ _ _
    | 1, _ => exact Ob.RcOp.gt_int _ _ _ _)
  have ev : Ob.lexAt (fun n => if n = 0 then (i == k) else (j == l)) (fun n => if n = 0 then decide (k < i) else decide (l < j)) false 0 2 = (if i = k then decide (l < j) else decide (k < i)) := by
    show (if (i == k) = true then (if (j == l) = true then false else decide (l < j)) else decide (k < i)) = _
    by_cases e1 : i = k
    · rw [if_pos (beq_iff_eq.mpr e1), if_pos e1]
      by_cases e2 : j = l
      · rw [if_pos (beq_iff_eq.mpr e2)]
        exact (decide_eq_false (by omega)).symm
      · rw [if_neg (fun h => e2 (beq_iff_eq.mp h))]
    · rw [if_neg (fun h => e1 (beq_iff_eq.mp h)), if_neg e1]
  have z : wpAny (model X.prog X.w) X.A (compareOp .Gt (.ref a) (.ref b)) (EP X pins σ Q) X.xe s := R X.prog X.w X.xe (EP X pins σ Q) ⟨.bl _, H, I, rfl, by
    have q' : Q (.bl (if i = k then decide (l < j) else decide (k < i))) H := q
    rw [← ev] at q'
    exact q'⟩
  exact z
end
theorem u0 {k : Nat} {A : Around} (hr : Room k A) : A.units < cLine := by
  have := hr.un
  omega
end Pg

/-! Sets of texts, with their tables: made, added to, sorted. -/
namespace Pg
open PySem PySem.Spec PyProof.Rows L2
/-- an entry's text -/
def txt (e : Int × Value) : Str := match e.2 with
  | .str x _ => x
  | _ => Str.empty
def TxtE (w : World) (e : Int × Value) : Prop := ∃ x tk, e.2 = Value.str x tk ∧ e.1 = hashStr w x
/-- entries and table of a set of texts that can be walked -/
structure Tab (w : World) (es : Array (Int × Value)) (t : SetTable) : Prop where
  txts : ∀ e ∈ es.toList, TxtE w e
  once : (es.toList.map txt).Nodup
  room : es.size < scanBound
  fits : t.fits es.size = true
  ris : Ris t.place.toList
  led : w.params.followText "set-order" = true ∨ t.led = true
/-- a set of texts at a: S its members, n of them -/
def TSet (w : World) (a : Addr) (S : Str → Bool) (n : Nat) (h : Heap) : Prop :=
  ∃ o es ep t, h.get? a = some o ∧ o.ExactSet ∧ o.data = .set es ep t ∧ Tab w es t ∧ es.size = n ∧ ∀ k, S k = true ↔ k ∈ es.toList.map txt
section
variable {P : Program} {w : World} {A : Around} {E : Value → Shared → Prop} {s : Shared} {a : Addr} {S : Str → Bool} {n : Nat}
theorem TSet.at {h h' : Heap} (R : TSet w a S n h) (k : ∀ o, h.get? a = some o → h'.get? a = some o) : TSet w a S n h' :=
  let ⟨o, es, ep, t, ho, r⟩ := R
  ⟨o, es, ep, t, k o ho, r⟩
theorem txts_elems {l : List (Int × Value)} (g : ∀ e ∈ l, TxtE w e) : ElemsOf (PySem.strKind P w) l := by
  intro e he
  obtain ⟨x, tk, h1, h2⟩ := g e he
  rw [h1]
  exact ⟨⟨x, strKind_is P w x tk, h2⟩, rfl⟩
theorem txt_is {e : Int × Value} (g : TxtE w e) (k : Str) : (PySem.strKind P w).is k e.2 = true ↔ txt e = k := by
  obtain ⟨x, tk, h1, _⟩ := g
  unfold txt
  rw [h1]
  simp [PySem.strKind, Value.isStrOf]
theorem txt_in {l : List (Int × Value)} (g : ∀ e ∈ l, TxtE w e) (k : Str) : k ∈ l.map txt ↔ ∃ e ∈ l, (PySem.strKind P w).is k e.2 = true := by
  rw [List.mem_map]
  exact ⟨fun ⟨e, he, q⟩ => ⟨e, he, (txt_is (g e he) k).mpr q⟩, fun ⟨e, he, q⟩ => ⟨e, he, (txt_is (g e he) k).mp q⟩⟩
theorem TSet.setOf {h : Heap} (R : TSet w a S n h) : h.SetOf (PySem.strKind P w) a S n := by
  obtain ⟨o, es, ep, t, ho, hx, hd, T, hn, hm⟩ := R
  exact ⟨o, es, ep, t, ho, hx, hd, txts_elems T.txts, fun k => (hm k).trans (txt_in T.txts k), T.room, T.fits, hn⟩
/-- another order of the entries, another table over them -/
theorem Tab.perm {es es' : Array (Int × Value)} {t t' : SetTable} (T : Tab w es t) (p : es'.toList.Perm es.toList) (f : t'.fits es'.size = true) (r : Ris t'.place.toList) (l : t'.led = t.led) : Tab w es' t' := by
  have sz : es'.size = es.size := by
    have q := p.length_eq
    simpa using q
  refine ⟨fun e he => T.txts e (p.mem_iff.mp he), (p.map txt).nodup_iff.mpr T.once, by rw [sz]; exact T.room, f, r, ?_⟩
  rcases T.led with z | z
  · exact .inl z
  · exact .inr (l.trans z)
/-- what is stored, and once more where the table is too full -/
theorem store_tab {g : Bool → Sem Unit} (quiet : ∀ (b : Bool) (s₁ : Shared) (Q' : Unit → Shared → Prop), Q' () s₁ → wpAny (model P w) A (g b) Q' E s₁) {o : Obj} {es0 : Array (Int × Value)} {ep : Nat} {t0 : SetTable}
    (ho : s.heap.get? a = some o) (hx : o.ExactSet) (hd : o.data = .set es0 ep t0) {es : Array (Int × Value)} {t : SetTable} (T : Tab w es t) (hm : ∀ k, S k = true ↔ k ∈ es.toList.map txt) {was : Bool} {R : Option Bool → Shared → Prop}
    (hR : ∀ h', Heap.SameBut a s.heap h' → TSet w a S es.size h' → R (some true) { s with heap := h' }) :
    wpAny (model P w) A (storeSet a es t >>= fun _ => if (!was && t.tooFull) = true then (g (relayAll t es (SetTable.grown es.size)).2.2 >>= fun _ =>
      storeSet a (relayAll t es (SetTable.grown es.size)).1 (relayAll t es (SetTable.grown es.size)).2.1 >>= fun _ => pure (some true)) else pure (some true)) R E s := by
  have ho1 := store_at (es' := es) (t' := t) ho hd
  have sb1 : Heap.SameBut a s.heap (s.heap.update a (Obj.putSet es t)) := Heap.SameBut.update s.heap a (Obj.putSet es t)
  apply wpAny_bind
  apply wpAny_storeSet_of ho hd ?_ (fits_of_scanBound T.room)
  by_cases full : (!was && t.tooFull) = true
  · rw [if_pos full]
    obtain ⟨es2, t2, gave⟩ : ∃ es2 t2, es2 = (relayAll t es (SetTable.grown es.size)).1 ∧ t2 = (relayAll t es (SetTable.grown es.size)).2.1 := ⟨_, _, rfl, rfl⟩
    have p := relayAll_perm t es (SetTable.grown es.size)
    have T2 : Tab w es2 t2 := by
      rw [gave.1, gave.2]
      exact T.perm p (relayAll_fits t es _) (relayAll_ris t es _) (relayAll_led t es _)
    rw [← gave.1] at p
    have sz : es2.size = es.size := by
      have q := p.length_eq
      simpa using q
    apply wpAny_bind
    apply quiet
    apply wpAny_bind
    rw [← gave.1, ← gave.2]
    apply wpAny_storeSet_of ho1 rfl ?_ (fits_of_scanBound T2.room)
    apply wpAny_pure
    apply hR _ (sb1.trans (Heap.SameBut.update _ a _))
    exact ⟨_, es2, _, t2, store_at (es' := es2) (t' := t2) ho1 rfl, hx, rfl, T2, sz, fun k => (hm k).trans (p.map txt).mem_iff.symm⟩
  · rw [if_neg full]
    apply wpAny_pure
    exact hR _ sb1 ⟨_, es, _, t, ho1, hx, rfl, T, rfl, hm⟩
/-- one text more, its hash given -/
theorem tset_put {k : Str} {tk : Tok} {Q : Bool → Shared → Prop} (R : TSet w a S n s.heap) (small : n + 1 < scanBound)
    (hQ : ∀ h', Heap.SameBut a s.heap h' → TSet w a (fun j => S j || decide (j = k)) (if S k = true then n else n + 1) h' → Q (!S k) { s with heap := h' }) :
    wpAny (model P w) A (setAddHashed a (.str k tk) ((PySem.strKind P w).hash k)) Q E s := by
  obtain ⟨o, es, ep, t, ho, hx, hd, T, hn, hm⟩ := R
  have is_k : (PySem.strKind P w).is k (.str k tk) = true := strKind_is P w k tk
  have scan : (Value.str k tk).scannable = true := rfl
  have elems : ElemsOf (PySem.strKind P w) es.toList := txts_elems T.txts
  have way : ∀ (b : Bool) {s₁ : Shared} {Q' : Unit → Shared → Prop}, Q' () s₁ → wpAny (model P w) A (match b with | true => rule "set.scan.the-table-gave-way" | false => pure ()) Q' E s₁ := by
    intro b s₁ Q' q
    cases b
    · exact wpAny_pure q
    · exact wpAny_rule q
  unfold setAddHashed setAddHashedIn
  apply wpAny_holding
  apply wpAny_bind
  apply wpAny_setState_of ho hd T.fits
  simp only []
  rw [byScan_of scan T.room elems, if_pos rfl]
  unfold setAddByScan
  apply wpAny_bind
  apply wpAny_bind
  apply wpAny_rule
  apply wpAny_bind
  apply wpAny_setScan_of is_k ho hd T.fits elems
  cases found : List.findIdx? (fun e => (PySem.strKind P w).is k e.2) es.toList with
  | some j =>
    obtain ⟨hj, pj, _⟩ := List.findIdx?_eq_some_iff_getElem.mp found
    have old : S k = true := (hm k).mpr ((txt_in (P := P) T.txts k).mpr ⟨_, List.getElem_mem hj, pj⟩)
    have fin := hQ s.heap (Heap.SameBut.refl a s.heap) ⟨o, es, ep, t, ho, hx, hd, T, by rw [if_pos old]; exact hn, fun i => by
      rw [← hm i, Bool.or_eq_true, decide_eq_true_eq]
      constructor
      · rintro (z | rfl)
        · exact z
        · exact old
      · exact .inl⟩
    rw [old] at fin
    exact wpAny_pure (wpAny_pure fin)
  | none =>
    have new : k ∉ es.toList.map txt := by
      intro z
      obtain ⟨e, he, q⟩ := (txt_in (P := P) T.txts k).mp z
      rw [List.findIdx?_eq_none_iff] at found
      rw [found e he] at q
      cases q
    have notS : S k = false := by
      rw [← Bool.not_eq_true, hm k]
      exact new
    obtain ⟨es1, t1, was, gave, eZ⟩ : ∃ es1 t1 was gave, layNew t es ((PySem.strKind P w).hash k) (.str k tk) = (es1, t1, was, gave) := ⟨_, _, _, _, rfl⟩
    have p := layNew_perm t es ((PySem.strKind P w).hash k) (.str k tk)
    have f1 := layNew_fits t es ((PySem.strKind P w).hash k) (.str k tk)
    have r1 := layNew_ris t es ((PySem.strKind P w).hash k) (.str k tk) T.ris
    have l1 := layNew_led t es ((PySem.strKind P w).hash k) (.str k tk)
    rw [eZ] at p f1 r1 l1
    simp only [] at p f1 r1 l1
    rw [eZ]
    simp only []
    have pc : es1.toList.Perm (((PySem.strKind P w).hash k, Value.str k tk) :: es.toList) := by
      rw [Array.toList_push] at p
      exact p.trans (List.perm_append_singleton _ _)
    have pt : (es1.toList.map txt).Perm (k :: es.toList.map txt) := pc.map txt
    have sz : es1.size = n + 1 := by
      have q := pc.length_eq
      rw [List.length_cons, Array.length_toList, Array.length_toList, hn] at q
      exact q
    have led1 : w.params.followText "set-order" = true ∨ t1.led = true := by
      rcases T.led with z | z
      · exact .inl z
      · exact .inr (l1.trans z)
    have tab : ∀ t2 : SetTable, t2.fits es1.size = true → Ris t2.place.toList → (w.params.followText "set-order" = true ∨ t2.led = true) → Tab w es1 t2 := fun t2 f r l => {
      txts := fun e he => by
        rcases List.mem_cons.mp (pc.mem_iff.mp he) with rfl | z
        · exact ⟨k, tk, rfl, rfl⟩
        · exact T.txts e z
      once := pt.nodup_iff.mpr (List.nodup_cons.mpr ⟨new, T.once⟩)
      room := by rw [sz]; exact small
      fits := f
      ris := r
      led := l }
    have mem1 : ∀ i, (S i || decide (i = k)) = true ↔ i ∈ es1.toList.map txt := by
      intro i
      rw [pt.mem_iff, List.mem_cons, ← hm i, Bool.or_eq_true, decide_eq_true_eq]
      exact Or.comm
    have fin : ∀ h', Heap.SameBut a s.heap h' → TSet w a (fun j => S j || decide (j = k)) es1.size h' → Q true { s with heap := h' } := by
      intro h' sb r
      have q := hQ h' sb
      rw [notS] at q
      rw [sz] at r
      exact q r
    apply wpAny_bind
    apply way
    split
    · refine wpAny_bind ?_
      rw [hashByValue_scannable 8 scan]
      refine wpAny_pure ?_
      obtain ⟨t2, e2, f2, r2, l2⟩ : ∃ t2, (if plainKind (Value.str k tk) = true then t1 else { t1 with plain := false }) = t2 ∧ t2.fits es1.size = true ∧ Ris t2.place.toList ∧ (w.params.followText "set-order" = true ∨ t2.led = true) := by
        refine ⟨_, rfl, ?_⟩
        split
        · exact ⟨f1, r1, led1⟩
        · exact ⟨SetTable.fits_plain_off f1, r1, led1⟩
      rw [e2]
      refine store_tab (t := t2) ?way ho hx hd (tab _ f2 r2 l2) mem1 fun h' sb r => wpAny_pure (fin h' sb r)
      intro b s₁ Q' q
      cases b <;> first | exact wpAny_pure q | exact wpAny_rule q
    · refine wpAny_bind (wpAny_pure ?_)
      simp only [if_true]
      refine store_tab (t := t1) ?way2 ho hx hd (tab _ f1 r1 led1) mem1 fun h' sb r => wpAny_pure (fin h' sb r)
      intro b s₁ Q' q
      cases b <;> first | exact wpAny_pure q | exact wpAny_rule q
theorem tset_empty {h : Heap} (w : World) : TSet w h.objs.size (fun _ => false) 0 (h.push { cls := .type "set", dict := none, data := .set #[] 0 (.fresh 0 0 (!w.params.followText "set-order")) }) := by
  refine ⟨_, #[], 0, _, Heap.get?_push_size _ rfl, ⟨rfl, rfl, rfl⟩, rfl, ⟨fun e he => by simp at he, List.nodup_nil, by decide, by rfl, List.Pairwise.nil, ?_⟩, rfl, fun k => by simp⟩
  cases e : w.params.followText "set-order" with
  | true => exact .inl rfl
  | false => exact .inr rfl
/-- D.add(k) as it is called -/
theorem tset_add {k : Str} {tk : Tok} {Q : Value → Shared → Prop} (R : TSet w a S n s.heap) (small : n + 1 < scanBound)
    (hQ : ∀ h', Heap.SameBut a s.heap h' → TSet w a (fun j => S j || decide (j = k)) (if S k = true then n else n + 1) h' → Q .none { s with heap := h', toks := s.toks + 1 }) :
    wpAny (model P w) A (call (.builtin "set.add") [.ref a, .str k tk]) Q E s := by
  have so : s.heap.SetOf (PySem.strKind P w) a S n := R.setOf
  apply wpAny_call_entry F.slot_set_add so.typeIs F.entry_set_add ?_ (F.args_set_add_2 _ _)
  unfold Builtin.«set.add» Builtin.Frozenset.oneOther
  simp only [List.isEmpty_nil, bind_assoc]
  unfold Builtin.Frozenset.addrOf setAdd
  refine wpAny_bind (wpAny_pure ?_)
  try dsimp only
  refine wpAny_bind (wpAny_pure ?_)
  try dsimp only
  apply wpAny_bind
  apply wpAny_holding
  apply wpAny_bind
  apply (PySem.strKind P w).pyHash (strKind_is P w k tk)
  apply tset_put (s := { s with toks := s.toks + 1 }) R small
  intro h' sb r
  show wpAny _ _ (ret Value.none) _ _ _
  exact wpAny_pure ⟨_, rfl, hQ h' sb r⟩
theorem txts_are : ∀ (l : List Value), (∀ v ∈ l, ∃ x tk, v = Value.str x tk) → StrsAre l (l.map fun v => txt (0, v))
  | [], _ => .nil
  | v :: l, h => by
    obtain ⟨x, tk, rfl⟩ := h v List.mem_cons_self
    exact .cons x tk (txts_are l fun u hu => h u (List.mem_cons_of_mem _ hu))
/-- sorted of such a set -/
theorem tset_sorted {Q : Value → Shared → Prop} (R : TSet w a S n s.heap) (hh : A.handled = none)
    (hQ : ∀ s' p (out : Array Value) (c : Nat) (xs : List Str), (∀ b o, s.heap.get? b = some o → s'.heap.get? b = some o) → s'.gens = s.gens → s'.os = s.os → s.heap.objs.size ≤ p →
      s'.heap.get? p = some (seqObj "list" out c) → StrsAre out.toList xs → xs.Nodup → sortedS xs = true → (∀ k, k ∈ xs ↔ S k = true) → xs.length = n → Q (.ref p) s') :
    wpAny (model P w) A (call (.builtin "sorted") [.ref a]) Q E s := by
  obtain ⟨o, es, ep, t, ho, hx, hd, T, hn, hm⟩ := R
  apply Calls.call_function_entry kind_sorted plain_sorted entry_sorted (args_sorted1 _)
  unfold Builtin.«sorted»
  refine wpAny_bind (m := checkCount "sorted" 1 1 _) (wpAny_pure ?_)
  apply wpAny_bind
  apply collect_set (A := A.in1) hh ⟨o, ho, hx.1, hd⟩ T.fits T.room T.ris T.led
  intro s1 vs k1 z1 g1 o1 pm
  have len : vs.length = n := by
    have q := pm.length_eq
    rw [List.length_map] at q
    exact q.trans hn
  have few : vs.length ≤ sizeLine := by
    rw [len, ← hn]
    exact fits_of_scanBound T.room
  have are : StrsAre vs (vs.map fun v => txt (0, v)) := txts_are vs fun v hv => by
    obtain ⟨e, he, q⟩ := List.mem_map.mp (pm.mem_iff.mp hv)
    obtain ⟨x, tk, h1, _⟩ := T.txts e he
    exact ⟨x, tk, by rw [← q]; exact h1⟩
  have names : (vs.map fun v => txt (0, v)).Perm (es.toList.map txt) := by
    have q := pm.map fun v => txt (0, v)
    rw [List.map_map] at q
    exact q
  apply wpAny_bind
  apply wpAny_newList ?_ few
  have hoL : (s1.heap.push (seqObj "list" vs.toArray 0)).get? s1.heap.objs.size = some (seqObj "list" vs.toArray 0) := Heap.get?_push_size _ rfl
  apply wpAny_bind
  apply wpAny_holding
  refine wpAny_call_entry slot_list_sort ⟨_, hoL, rfl⟩ entry_list_sort (list_sort_treeKAny strKind_oneLt hoL are.keysOf (fun v₁ v₂ rest e => keyKind_strs (by rw [← e]; exact are)) few fun st' hp hs => ⟨_, rfl, ?_⟩) (args_list_sort _)
  obtain ⟨xs, a1, a2, a3⟩ := sorted_out_str are hp hs
  obtain ⟨c, hc⟩ := sortedHeap_at (vs := vs) (out := (arrOf st').map (·.2)) hoL
  have all : xs.Perm (es.toList.map txt) := a2.trans names
  refine wpAny_pure ⟨_, rfl, hQ _ s1.heap.objs.size _ c xs (fun b u e => ?_) g1 o1 z1 hc a1 (all.nodup_iff.mpr T.once) a3 (fun k => by rw [all.mem_iff, hm k]) ?_⟩
  · have q := k1 b u e
    have lt := Heap.lt_size q
    show (sortedHeap (s1.heap.push (seqObj "list" vs.toArray 0)) s1.heap.objs.size vs _).get? b = some u
    rw [sortedHeap_old (Nat.ne_of_lt lt) (by rw [size_push']; exact Nat.lt_succ_of_lt lt)]
    exact Heap.get?_push_of_some _ q
  · have q := all.length_eq
    rw [List.length_map] at q
    exact q.trans hn
end
/-- such a set in the layer -/
def TS (w : World) (a : Addr) (S : Str → Bool) (n : Nat) : HO := .ext (TSet w a S n)
theorem ts_ok {w : World} {P : Program} {H : Hp} {h : Heap} {a : Addr} {S : Str → Bool} {n : Nat} (R : TSet w a S n h) : ObjOk P w H h a (TS w a S n) :=
  ⟨R, let ⟨o, _, _, _, ho, _⟩ := R; ⟨o, ho⟩, fun _ _ p k => p.at k⟩
section
variable {X : Cx} {pins : List (Addr × Obj)} {σ : L2.St} {H : Hp} {s : Shared} {E : Value → Shared → Prop}
theorem ts_get {a : Addr} {S : Str → Bool} {n : Nat} (I : Inv X pins σ H s) (ha : H a = some (TS X.w a S n)) : TSet X.w a S n s.heap := (I.hok a _ ha).1
theorem ts_add {D : Addr} {S : Str → Bool} {n : Nat} {k : Str} {tk : Tok} {Q : Value → Shared → Prop} (I : Inv X pins σ H s) (hD : H D = some (TS X.w D S n)) (room : n + 1 < scanBound)
    (h : ∀ s', Inv X pins σ (upd H D (TS X.w D (fun j => S j || decide (j = k)) (if S k = true then n else n + 1))) s' → Q .none s') : wpAny (model X.prog X.w) X.A (call (.builtin "set.add") [.ref D, .str k tk]) Q E s := by
  apply tset_add (ts_get I hD) room
  intro h' sb new
  have there : ∃ u, h'.get? D = some u := let ⟨o, _, _, _, ho, _⟩ := new; ⟨o, ho⟩
  exact h _ (I.write (e := D) (t' := s.toks + 1) (by rw [hD]; trivial) (.inl rfl) (fun b u hb hu => (sb.2 b hb).trans hu) there (ts_ok new))
/-- sorted(D) -/
def rSortedT (w : World) : List V → Hp → VK → Prop := fun vs H Q => ∃ (a : Addr) (S : Str → Bool) (n : Nat), vs = [V.ref a] ∧ H a = some (TS w a S n) ∧ n ≤ 100000 ∧
  ∀ (xs : List Str) (p : Addr), sortedS xs = true → xs.Nodup → (∀ k, k ∈ xs ↔ S k = true) → xs.length = n → H p = none → Q (.ref p) (upd H p (.lst (xs.map V.str)))
theorem cr_sortedT (hc : X.calm = true) : CallR X (.builtin "sorted") (rSortedT X.w) := by
  intro pins s σ H vs us Q I r h
  obtain ⟨a, S, n, rfl, ha, few, q⟩ := h
  rw [Vals.ref1 r]
  apply tset_sorted (ts_get I ha) (I.ok.hd hc)
  intro s' p out c xs kp gn os big at_p are nd sd mem len
  have small : (xs.map V.str).length ≤ sizeLine := by
    rw [List.length_map, len, sizeLine_eq]
    omega
  have np : H p = none := I.hok.fresh big
  obtain ⟨hp', gn', dr', tk', os'⟩ := s'
  obtain rfl : os' = s.os := os
  have J : Inv X pins σ (upd H p (.lst (xs.map V.str))) ⟨hp', gn', dr', tk', s.os⟩ :=
    I.call (ch := []) (Un.laid kp big np) (I.hok.laid kp big ⟨small, out.toList, c, vals_of_strs are, at_p⟩) (by rw [show gn' = s.gens from gn]; exact I.bare) (fun _ z => nomatch z)
  exact ⟨.ref p, _, J, rfl, q xs p sd nd mem len np⟩
end
end Pg

/-! A clause of a comprehension, by itself; {e for a in x for b in y}, e a text. -/
namespace Pg
open PySem PySem.Spec PyProof.Rows L2
/-- the tests of a clause -/
def tst (env : Env) (ifs : List Expr) : Sem Bool := forIn ifs true fun c r => if r = true then (isTrue c env (eval c env) >>= fun ok => pure (ForInStep.yield ok)) else pure (ForInStep.yield r)
/-- one step of a clause: its iterator, its target, its tests -/
def walked (M : Model) (A : Around) (env : Env) (tg : Expr) (ifs : List Expr) (it : Value) (stop : Shared → Prop) (go : Bool → Shared → Prop) (N : Value → Shared → Prop) (s : Shared) : Prop :=
  wpAny M A (pyNext it) (fun r s1 => match r with
    | none => stop s1
    | some v => wpAny M A (letOwnedTupleGo tg it v) (fun _ s2 => wpAny M A (assign tg env v) (fun _ s3 => wpAny M A (tst env ifs) go N s3) N s2) N s1) N s
section
variable {Y : Cx} {tg : Expr} {ifs : List Expr} {g : TG} {tt : TT} {J : It} {fp : List Addr} {it : Addr} {tn : Nat → Heap → Prop} {pins : List (Addr × Obj)}
/-- what is left of a place of an iterator but that the heap has nothing there -/
def Apart (Y : Cx) (pins : List (Addr × Obj)) (b : Addr) : Prop := ∀ H : Hp, H b = none → FpOk Y pins H b
theorem apart_of {H : Hp} {b : Addr} (f : FpOk Y pins H b) : Apart Y pins b := fun _ n => ⟨n, f.2⟩
theorem clause (hc : Y.calm = true) (hx : Y.xe = fun _ _ => False) (pg : PG Y tg g) (pt : PTs Y ifs tt) (T : Turn Y.prog Y.w Y.K tg J fp it tn) {i : Nat} {σ : L2.St} {H : Hp} {s : Shared} {N : Value → Shared → Prop} (I : Inv Y pins σ H s) (st : tn i s.heap)
    (ap : ∀ b ∈ fp, Apart Y pins b) (nf : ∀ b ∈ fp, H b = none) {stop : Shared → Prop} {go : Bool → Shared → Prop} {C : L2.St → Hp → Bool → Prop}
    (h : (J.stop i H ∧ ∀ s', Inv Y pins σ H s' → stop s') ∨ (J.go i H ∧ (∀ x H', J.yld i H x H' → g x σ H' fun σ2 H2 => tt σ2 H2 fun b H3 => C σ2 H3 b) ∧
      ∀ (s7 : Shared) (σ2 : L2.St) (H3 : Hp) (b : Bool) (s' : Shared), tn (i + 1) s7.heap → Inv Y (pins ++ pinsAt fp s7.heap) σ2 H3 s' → C σ2 H3 b → go b s')) :
    walked (model Y.prog Y.w) Y.A Y.env tg ifs (.ref it) stop go N s := by
  have fo : ∀ b ∈ fp, FpOk Y pins H b := fun b hb => ap b hb H (nf b hb)
  unfold walked
  rcases h with ⟨ends, hs⟩ | ⟨goes, hy, hg⟩
  · apply thnF (T.done Y rfl rfl rfl hc i pins s σ H (fun _ _ => False) I fo st ends)
    rintro r s1 ⟨rfl, I1⟩
    exact hs s1 I1
  · apply thnF (T.item Y rfl rfl rfl hc i pins s σ H (fun _ _ => False) I fo st goes)
    rintro r s1 ⟨u, rfl, h1⟩
    apply thnF h1
    rintro _ s7 ⟨x, H7, I7, r7, y7, st7, n7⟩
    have I8 := I7.pinned (fun b hb => ap b hb H7 (n7 b hb)) (T.obj _ _ st7)
    have a1 := pg.run _ s7 σ H7 x u _ I8 r7 (hy x H7 y7)
    rw [hx] at a1
    apply thnF a1
    rintro _ s8 ⟨σ8, H8, I9, q8⟩
    have a2 := pt.run _ s8 σ8 H8 _ I9 q8
    rw [hx] at a2
    apply thnF a2
    rintro b s9 ⟨H9, I10, q9⟩
    exact hg s7 σ8 H9 b s9 st7 I10 q9
/-- back at the clause's next step -/
theorem next_step (T : Turn Y.prog Y.w Y.K tg J fp it tn) {i : Nat} {σ σ2 : L2.St} {H' : Hp} {s7 s' : Shared} (st : tn i s7.heap) (I : Inv Y (pins ++ pinsAt fp s7.heap) σ2 H' s') (len : σ.length = σ2.length) (kn : ∀ (j : Nat) v, σ[j]? = some (some v) → σ2[j]? = some (some v)) :
    Inv Y pins σ H' s' ∧ tn i s'.heap ∧ ∀ b ∈ fp, H' b = none := by
  have kept : ∀ b ∈ fp, ∀ o, s7.heap.get? b = some o → s'.heap.get? b = some o ∧ H' b = none := by
    intro b hb o e
    have z := I.pin (b, o) (List.mem_append_right _ (List.mem_append_right _ (mem_pinsAt hb e)))
    exact ⟨z.1, z.2.1⟩
  refine ⟨I.unpinned.weak len kn, T.keep _ _ _ st fun b hb o e => (kept b hb o e).1, fun b hb => ?_⟩
  obtain ⟨o, e, _⟩ := T.obj _ _ st b hb
  exact (kept b hb o e).2
end
/-! ### the code of a set comprehension of two clauses -/
/-- {e for t0 in i0 if .. for t1 in i1 if ..} -/
abbrev SC (e t0 i0 : Expr) (ifs0 : List Expr) (t1 i1 : Expr) (ifs1 : List Expr) (scope : Scope) (pos : Pos) : Expr := .SetComp e [⟨t0, i0, ifs0, 0⟩, ⟨t1, i1, ifs1, 0⟩] scope pos
section
variable {prog : Program} {w : World} {A : Around} {R : Result → Shared → Prop} {s : Shared} {e t0 i0 t1 i1 : Expr} {ifs0 ifs1 : List Expr} {scope : Scope} {pos : Pos} {it acc : Value} {env : Env}
theorem turn_out : compTurn (SC e t0 i0 ifs0 t1 i1 ifs1 scope pos) 0 it acc env = (standAt i0.pos >>= fun _ => pyNext it >>= fun r => match r with
    | none => pure (.done .next)
    | some v => letOwnedTupleGo t0 it v >>= fun _ => assign t0 env v >>= fun _ => tst env ifs0 >>= fun ok =>
      if ok = true then (eval i1 env >>= fun x => standAt i1.pos >>= fun _ => foldedSetIterable i1 env x >>= fun x => holding [x] (pyIter x) >>= fun it1 =>
        runOwn (.compStart (SC e t0 i0 ifs0 t1 i1 ifs1 scope pos) 1 it1 acc env) env >>= fun _ => again (.compLoop (SC e t0 i0 ifs0 t1 i1 ifs1 scope pos) 0 it acc env))
      else again (.compLoop (SC e t0 i0 ifs0 t1 i1 ifs1 scope pos) 0 it acc env)) := by
  rfl
theorem turn_in : compTurn (SC e t0 i0 ifs0 t1 i1 ifs1 scope pos) 1 it acc env = (standAt i1.pos >>= fun _ => pyNext it >>= fun r => match r with
    | none => pure (.done .next)
    | some v => letOwnedTupleGo t1 it v >>= fun _ => assign t1 env v >>= fun _ => tst env ifs1 >>= fun ok =>
      if ok = true then ((eval e env >>= fun v => standAt e.pos >>= fun _ => call (.builtin "set.add") [acc, v] >>= fun _ => pure ()) >>= fun _ => again (.compLoop (SC e t0 i0 ifs0 t1 i1 ifs1 scope pos) 1 it acc env))
      else again (.compLoop (SC e t0 i0 ifs0 t1 i1 ifs1 scope pos) 1 it acc env)) := by
  rfl
/-- how an error leaves the block -/
abbrev noted (prog : Program) (w : World) (A : Around) (env : Env) (R : Result → Shared → Prop) : Value → Shared → Prop := notedBy (model prog w) A env fun x s' => R (.error x) s'
theorem loop_out (plain : ∀ x, foldedSetIterable i1 env x = pure x) (Iv : Nat → Shared → Prop)
    (turn : ∀ n s, Iv n s → walked (model prog w) A env t0 ifs0 it (R (.ok .next)) (fun ok s3 =>
      if ok = true then wpAny (model prog w) A (eval i1 env) (fun x s4 => wpAny (model prog w) A (pyIter x) (fun it1 s5 => codeAny (model prog w) A (.compStart (SC e t0 i0 ifs0 t1 i1 ifs1 scope pos) 1 it1 acc env)
        (fun r s' => match r with
          | .ok _ => ∃ m, m < n ∧ Iv m s'
          | .error _ => False) s5) (noted prog w A env R) s4) (noted prog w A env R) s3
      else ∃ m, m < n ∧ Iv m s3) (noted prog w A env R) s) (n : Nat) (h : Iv n s) :
    codeAny (model prog w) A (.compLoop (SC e t0 i0 ifs0 t1 i1 ifs1 scope pos) 0 it acc env) R s := by
  apply codeAny_loop rfl Iv ?_ n h
  intro n s hI
  show wpAny _ A ((compTurn (SC e t0 i0 ifs0 t1 i1 ifs1 scope pos) 0 it acc env).onRaise (fun x => do noteFrame x env; theTreesLotGoes x)) _ _ s
  apply wpAny_noted
  rw [turn_out]
  apply wpAny_bind
  apply wpAny_standAt
  apply wpAny_bind
  apply wpAny_mono (turn n s hI) ?_ (fun _ _ z => z)
  intro r s1 h1
  match r, h1 with
  | none, h1 => exact wpAny_pure h1
  | some v, h1 =>
    apply wpAny_bind
    apply wpAny_mono h1 ?_ (fun _ _ z => z)
    intro _ s2 h2
    apply wpAny_bind
    apply wpAny_mono h2 ?_ (fun _ _ z => z)
    intro _ s3 h3
    apply wpAny_bind
    apply wpAny_mono h3 ?_ (fun _ _ z => z)
    intro ok s4 h4
    cases ok with
    | false => exact wpAny_pure ⟨rfl, h4⟩
    | true =>
      show wpAny _ _ (eval i1 env >>= _) _ _ _
      apply wpAny_bind
      apply wpAny_mono h4 ?_ (fun _ _ z => z)
      intro x s5 h5
      apply wpAny_bind
      apply wpAny_standAt
      apply wpAny_bind
      apply wpAny_of_eq (plain x)
      apply wpAny_bind
      apply wpAny_holding
      apply wpAny_mono h5 ?_ (fun _ _ z => z)
      intro it1 s6 h6
      apply wpAny_bind
      refine wpAny_runOwn ?_
      rw [Around.mark_none]
      apply codeAny_mono h6
      intro r s7 h7
      match r, h7 with
      | .error _, h7 => exact h7.elim
      | .ok _, h7 =>
        first
          | exact wpAny_pure ⟨rfl, h7⟩
          | exact wpAny_bind (wpAny_pure (wpAny_pure ⟨rfl, h7⟩))
theorem loop_in (Iv : Nat → Shared → Prop)
    (turn : ∀ n s, Iv n s → walked (model prog w) A env t1 ifs1 it (R (.ok .next)) (fun ok s3 =>
      if ok = true then wpAny (model prog w) A (eval e env) (fun x s4 => wpAny (model prog w) A (call (.builtin "set.add") [acc, x]) (fun _ s5 => ∃ m, m < n ∧ Iv m s5) (noted prog w A env R) s4) (noted prog w A env R) s3
      else ∃ m, m < n ∧ Iv m s3) (noted prog w A env R) s) (n : Nat) (h : Iv n s) :
    codeAny (model prog w) A (.compLoop (SC e t0 i0 ifs0 t1 i1 ifs1 scope pos) 1 it acc env) R s := by
  apply codeAny_loop rfl Iv ?_ n h
  intro n s hI
  show wpAny _ A ((compTurn (SC e t0 i0 ifs0 t1 i1 ifs1 scope pos) 1 it acc env).onRaise (fun x => do noteFrame x env; theTreesLotGoes x)) _ _ s
  apply wpAny_noted
  rw [turn_in]
  apply wpAny_bind
  apply wpAny_standAt
  apply wpAny_bind
  apply wpAny_mono (turn n s hI) ?_ (fun _ _ z => z)
  intro r s1 h1
  match r, h1 with
  | none, h1 => exact wpAny_pure h1
  | some v, h1 =>
    apply wpAny_bind
    apply wpAny_mono h1 ?_ (fun _ _ z => z)
    intro _ s2 h2
    apply wpAny_bind
    apply wpAny_mono h2 ?_ (fun _ _ z => z)
    intro _ s3 h3
    apply wpAny_bind
    apply wpAny_mono h3 ?_ (fun _ _ z => z)
    intro ok s4 h4
    cases ok with
    | false => exact wpAny_pure ⟨rfl, h4⟩
    | true =>
      apply wpAny_bind
      apply wpAny_bind
      apply wpAny_mono h4 ?_ (fun _ _ z => z)
      intro x s5 h5
      apply wpAny_bind
      apply wpAny_standAt
      apply wpAny_bind
      apply wpAny_mono h5 ?_ (fun _ _ z => z)
      intro _ s6 h6
      exact wpAny_pure (wpAny_pure ⟨rfl, h6⟩)
/-- how the second clause begins -/
theorem start_in (h0 : codeAny (model prog w) A (.compLoop (SC e t0 i0 ifs0 t1 i1 ifs1 scope pos) 1 it acc env) R s)
    (h : wpAny (model prog w) A (pyIter it) (fun it' s' => codeAny (model prog w) A (.compLoop (SC e t0 i0 ifs0 t1 i1 ifs1 scope pos) 1 it' acc env) R s') (noted prog w A env R) s) :
    codeAny (model prog w) A (.compStart (SC e t0 i0 ifs0 t1 i1 ifs1 scope pos) 1 it acc env) R s := by
  apply codeAny_of_tree
  show wpAny _ _ ((compStart (SC e t0 i0 ifs0 t1 i1 ifs1 scope pos) 1 it acc env).onRaise (fun x => do noteFrame x env; standAt theWindowsPlace)) _ _ s
  apply wpAny_notedAt
  unfold compStart
  show wpAny _ _ (ask >>= _) _ _ s
  apply wpAny_bind
  apply wpAny_askSetting
  apply wpAny_ite
  split
  · first
      | exact wpAny_bind (wpAny_pure (wpAny_pure ⟨rfl, h0⟩))
      | exact wpAny_pure ⟨rfl, h0⟩
  · first
      | exact wpAny_bind (wpAny_rule (wpAny_bind (wpAny_standAt (wpAny_bind (wpAny_mono h (fun _ _ z => wpAny_pure ⟨rfl, z⟩) fun _ _ z => z)))))
      | (apply wpAny_bind; apply wpAny_rule; show wpAny _ _ (standAt i1.pos >>= _) _ _ s; exact wpAny_bind (wpAny_standAt (wpAny_bind (wpAny_mono h (fun _ _ z => wpAny_pure ⟨rfl, z⟩) fun _ _ z => z))))
end
section
variable {X : Cx}
/-- what the two clauses ask, D the new set: W of the outer steps, for each of them W1 of the inner ones -/
def tSc2 (w : World) (wi : TI) (g : TG) (tt : TT) (wi1 : TI) (g1 : TG) (tt1 : TT) (te : TE) (vs vs1 : List Nat) : TE := fun σ H Q => wi σ H fun J H1 => ∀ D, H1 D = none →
  ∃ W : Nat → Nat → Hp → Prop, (∃ m, W 0 m (upd H1 D (TS w D (fun _ => false) 0))) ∧ ∀ i m H, W i m H → (J.stop i H ∧ Q (.ref D) H) ∨ (J.go i H ∧
    ∃ Nx : Hp → Prop, (∀ H', Nx H' → ∃ m', m' < m ∧ W (i + 1) m' H') ∧ ∀ x H', J.yld i H x H' → g x (wipe σ vs) H' fun σ2 H2 => tt σ2 H2 fun b H3 => wipe σ2 vs = wipe σ vs ∧
      ((b = false → Nx H3) ∧ (b = true → wi1 σ2 H3 fun J1 H4 => ∃ W1 : Nat → Nat → Hp → Prop, (∃ k, W1 0 k H4) ∧ ∀ j k H, W1 j k H → (J1.stop j H ∧ Nx H) ∨ (J1.go j H ∧
        ∃ Nx1 : Hp → Prop, (∀ H', Nx1 H' → ∃ k', k' < k ∧ W1 (j + 1) k' H') ∧ ∀ x H', J1.yld j H x H' → g1 x (wipe σ2 vs1) H' fun σ3 H5 => tt1 σ3 H5 fun b H6 => wipe σ3 vs1 = wipe σ2 vs1 ∧
          ((b = false → Nx1 H6) ∧ (b = true → te σ3 H6 fun y H7 => ∃ (z : Str) (S : Str → Bool) (n : Nat), y = .str z ∧ H7 D = some (TS w D S n) ∧ n + 1 < scanBound ∧
            Nx1 (upd H7 D (TS w D (fun j => S j || decide (j = z)) (if S z = true then n else n + 1)))))))))
theorem pe_sc2 {e t0 i0 t1 i1 : Expr} {ifs0 ifs1 : List Expr} {scope : Scope} {own : List (Str × Nat)} {vs1 : List Nat} {pos : Pos} {wi wi1 : TI} {g g1 : TG} {tt tt1 : TT} {te : TE} (hc : X.calm = true) (hN : X.N.Nodup) (hi : PI X t0 i0 wi)
    (ok : BlkOk X.N X.env.scope scope own) (hv : ∀ i ∈ vs1, i ∈ own.map (·.2))
    (hg : ∀ (s : Shared) (H : Hp) (C : Addr) (cl : List (Str × Addr)) (fp : List Addr), PG (X.blk s H scope (compEnvC scope cl C X.env) fp) t0 g)
    (ht : ∀ (s : Shared) (H : Hp) (C : Addr) (cl : List (Str × Addr)) (fp : List Addr), PTs (X.blk s H scope (compEnvC scope cl C X.env) fp) ifs0 tt)
    (hi1 : ∀ (s : Shared) (H : Hp) (C : Addr) (cl : List (Str × Addr)) (fp : List Addr), PI (X.blk s H scope (compEnvC scope cl C X.env) fp) t1 i1 wi1)
    (hg1 : ∀ (s : Shared) (H : Hp) (C : Addr) (cl : List (Str × Addr)) (fp : List Addr), PG (X.blk s H scope (compEnvC scope cl C X.env) fp) t1 g1)
    (ht1 : ∀ (s : Shared) (H : Hp) (C : Addr) (cl : List (Str × Addr)) (fp : List Addr), PTs (X.blk s H scope (compEnvC scope cl C X.env) fp) ifs1 tt1)
    (he : ∀ (s : Shared) (H : Hp) (C : Addr) (cl : List (Str × Addr)) (fp : List Addr), PE (X.blk s H scope (compEnvC scope cl C X.env) fp) e te)
    (plain : ∀ x, foldedSetIterable i0 X.env x = pure x := by intro _; rfl) (plain1 : ∀ env x, foldedSetIterable i1 env x = pure x := by intro _ _; rfl) :
    PE X (SC e t0 i0 ifs0 t1 i1 ifs1 scope pos) (tSc2 X.w wi g tt wi1 g1 tt1 te (own.map (·.2)) vs1) := by
  refine ⟨fun pins s σ H Q I h => ?_⟩
  have free : ∀ y ∈ scope.names, y.2 = .free → ∃ c, X.env.cells.lookup y.1 = some c := fun y hy q => by
    rcases ok.free y hy q with k | k
    · exact I.ok.has _ (.inl k)
    · exact I.ok.has _ (.inr k)
  rw [PpSet.eval_SetComp]
  refine wpAny_comprehension_free rfl plain (closure_ok free) ok.kind (fun y hy q => by rw [ok.uniq y hy, q]) ?_
  refine thn (hi.run pins s σ H _ I h) fun xv u1 hx => thn hx fun itv u2 hit => ?_
  clear hx
  obtain ⟨it, fp, tn, J, G2, rfl, K2, T, st2, fo2, q⟩ := hit
  refine PpSet.newSet_ok (newEnv_comp ?_)
  -- the set, empty
  obtain ⟨D, hD⟩ : ∃ D, D = u2.heap.objs.size := ⟨_, rfl⟩
  have nD : G2 D = none := K2.hok.fresh (Nat.le_of_eq hD.symm)
  obtain ⟨W, ⟨m0, w0⟩, step⟩ := q D nD
  obtain ⟨u3, hu3⟩ : ∃ u3 : Shared, u3 = { u2 with heap := u2.heap.push { cls := .type "set", dict := none, data := .set #[] 0 (.fresh 0 0 (!X.w.params.followText "set-order")) } } := ⟨_, rfl⟩
  obtain ⟨G3, hG3⟩ : ∃ G3, G3 = upd G2 D (TS X.w D (fun _ => false) 0) := ⟨_, rfl⟩
  have K3 : Inv X pins σ G3 u3 := by
    rw [hu3, hG3]
    refine K2.laid (t' := u2.toks) (fun b o z => Heap.get?_push_of_some _ z) (Nat.le_of_eq hD.symm) ?_
    rw [hD]
    exact ts_ok (tset_empty X.w)
  have in2 : ∀ b ∈ fp, b < u2.heap.objs.size := fun b hb => let ⟨o, z, _⟩ := T.obj _ _ st2 b hb; Heap.lt_size z
  have n3 : ∀ b ∈ fp, G3 b = none := fun b hb => by
    rw [hG3, upd_ne (by rw [hD]; exact Nat.ne_of_lt (in2 b hb))]
    exact (fo2 b hb).1
  have fo3 : ∀ b ∈ fp, FpOk X pins G3 b ∧ b < u3.heap.objs.size := fun b hb => ⟨⟨n3 b hb, (fo2 b hb).2⟩, by
    rw [hu3]
    exact Nat.lt_of_lt_of_le (in2 b hb) (by show u2.heap.objs.size ≤ (u2.heap.push _).objs.size; rw [Heap.size_push]; exact Nat.le_succ _)⟩
  have st3 : tn 0 u3.heap := T.keep _ _ _ st2 fun b _ o z => by rw [hu3]; exact Heap.get?_push_of_some _ z
  -- the block
  have K4 := block_start K3 ok hN fo3
  rw [← hG3] at w0
  show codeAny _ _ (.compStart (SC e t0 i0 ifs0 t1 i1 ifs1 scope pos) 0 (.ref it) (.ref u2.heap.objs.size) _) _ _
  rw [← hD, ← hu3]
  have b0 := hg u3 G3 u3.heap.objs.size (cellsFrom (u3.heap.objs.size + 1) scope.names (cloFrom X.env.cells scope.names [])) fp
  have b1 := ht u3 G3 u3.heap.objs.size (cellsFrom (u3.heap.objs.size + 1) scope.names (cloFrom X.env.cells scope.names [])) fp
  have b2 := hi1 u3 G3 u3.heap.objs.size (cellsFrom (u3.heap.objs.size + 1) scope.names (cloFrom X.env.cells scope.names [])) fp
  have b3 := hg1 u3 G3 u3.heap.objs.size (cellsFrom (u3.heap.objs.size + 1) scope.names (cloFrom X.env.cells scope.names [])) fp
  have b4 := ht1 u3 G3 u3.heap.objs.size (cellsFrom (u3.heap.objs.size + 1) scope.names (cloFrom X.env.cells scope.names [])) fp
  have b5 := he u3 G3 u3.heap.objs.size (cellsFrom (u3.heap.objs.size + 1) scope.names (cloFrom X.env.cells scope.names [])) fp
  obtain ⟨ce, hce⟩ : ∃ ce, ce = compEnvC scope (cellsFrom (u3.heap.objs.size + 1) scope.names (cloFrom X.env.cells scope.names [])) u3.heap.objs.size X.env := ⟨_, rfl⟩
  rw [← hce] at K4 b0 b1 b2 b3 b4 b5
  show codeAny _ _ (.compStart _ 0 _ _ (compEnvC scope (cellsFrom (u3.heap.objs.size + 1) scope.names (cloFrom X.env.cells scope.names [])) u3.heap.objs.size X.env)) _ _
  rw [← hce]
  have at_ce : ce.locals = u3.heap.objs.size := by rw [hce]; rfl
  obtain ⟨u4, hu4⟩ : ∃ u4 : Shared, u4 = { u3 with heap := pushCells (u3.heap.push { cls := .type "dict", data := .dict #[] }) scope.names } := ⟨_, rfl⟩
  rw [← hu4] at K4 ⊢
  have st4 : tn 0 u4.heap := T.keep _ _ _ st3 fun b _ o z => by rw [hu4]; exact pushCells_keeps _ _ _ _ (Heap.get?_push_of_some _ z)
  have ap : ∀ b ∈ fp, Apart (X.blk u3 G3 scope ce fp) [] b := fun b hb H' n =>
    ⟨n, (K4.ok.exf b hb).1, K4.ok.exfs b hb, .inl hb, fun x c z => (K4.ok.exf b hb).2 x c z, fun p hp => by
      have hp : p ∈ ([] : List (Addr × Obj)) ++ [] := hp
      cases hp⟩
  obtain ⟨vs, hvs⟩ : ∃ vs, vs = own.map (·.2) := ⟨_, rfl⟩
  rw [← hvs] at K4 step hv
  refine PpSet.codeAny_compStart_set (?loop) (T.self X.A 0 _ _ _ st4 ?loop)
  refine loop_out (plain1 ce) (fun n s' => ∃ i H', Inv (X.blk u3 G3 scope ce fp) [] (wipe σ vs) H' s' ∧ tn i s'.heap ∧ (∀ b ∈ fp, H' b = none) ∧ W i n H') ?_ m0 ⟨0, G3, K4, st4, n3, w0⟩
  rintro n s5 ⟨i, H5, I5, st5, n5, w5⟩
  rcases step i n H5 w5 with ⟨ends, qq⟩ | ⟨goes, Nx, hNx, hstep⟩
  · -- no further item
    refine clause (Y := X.blk u3 G3 scope ce fp) hc rfl b0 b1 T I5 st5 ap n5 (C := fun _ _ _ => False) (.inl ⟨ends, fun s6 I6 => ?_⟩)
    have I7 : Inv X pins σ H5 s6 := K3.call' (ch := fp) I6.os I6.base I6.hok I6.bare fun b hb => ⟨(fo3 b hb).1.2.2.2.1, (fo3 b hb).1.2.1, (fo3 b hb).1.2.2.2.2.1, (fo3 b hb).1.2.2.2.2.2⟩
    have nC : H5 u3.heap.objs.size = none := by
      have z : H5 ce.locals = none := I6.free
      rwa [at_ce] at z
    obtain ⟨m, hn, _⟩ := I6.loc
    have hn : s6.heap.Ns ce.locals m := hn
    rw [at_ce] at hn
    refine ⟨m, hn, fun h'' sb => ?_⟩
    obtain ⟨f0, f1, f2, f3, f4, f5⟩ := K3.fpOk (Nat.le_refl _) nC
    exact ⟨.ref D, H5, I7.turned (t' := s6.toks) (fun b o hb z => (sb.2 b hb).trans z) f0 f1 f3 f4 f5, rfl, qq⟩
  · refine clause (Y := X.blk u3 G3 scope ce fp) hc rfl b0 b1 T I5 st5 ap n5 (.inr ⟨goes, hstep, ?_⟩)
    rintro s7 σ2 H3 b s8 st7 I8 ⟨hw, qf, qt⟩
    have len2 : (wipe σ vs).length = σ2.length := by rw [← hw, wipe_length]
    have kn2 : ∀ (j : Nat) v, (wipe σ vs)[j]? = some (some v) → σ2[j]? = some (some v) := fun j v z => by
      rw [← hw] at z
      exact (wipe_some z).1
    have back : ∀ {σ9 : L2.St} {s' : Shared} {H' : Hp}, Inv (X.blk u3 G3 scope ce fp) ([] ++ pinsAt fp s7.heap) σ9 H' s' → (wipe σ vs).length = σ9.length → (∀ (j : Nat) v, (wipe σ vs)[j]? = some (some v) → σ9[j]? = some (some v)) → Nx H' →
        ∃ m, m < n ∧ ∃ i H', Inv (X.blk u3 G3 scope ce fp) [] (wipe σ vs) H' s' ∧ tn i s'.heap ∧ (∀ b ∈ fp, H' b = none) ∧ W i m H' := fun {σ9 s' H'} I' l k nx => by
      obtain ⟨m', lt, w'⟩ := hNx H' nx
      obtain ⟨a1, a2, a3⟩ := next_step (Y := X.blk u3 G3 scope ce fp) T st7 I' l k
      exact ⟨m', lt, i + 1, H', a1, a2, a3, w'⟩
    cases b with
    | false => exact back I8 len2 kn2 (qf rfl)
    | true =>
      show wpAny _ _ (eval i1 ce) _ _ _
      refine thnF (b2.run _ s8 σ2 H3 _ I8 (qt rfl)) fun xv s9 hx => thnF hx fun itv s10 hit => ?_
      obtain ⟨it1, fp1, tn1, J1, H10, rfl, I10, T1, st10, fo10, W1, ⟨m1, w1⟩, step1⟩ := hit
      have ap1 : ∀ b ∈ fp1, Apart (X.blk u3 G3 scope ce fp) ([] ++ pinsAt fp s7.heap) b := fun b hb => apart_of (fo10 b hb)
      have len3 : (wipe σ vs).length = (wipe σ2 vs1).length := by rw [wipe_length σ2]; exact len2
      have out : ∀ {i : Nat} {vs : List Nat} {σ : L2.St}, i ∉ vs → (wipe σ vs)[i]? = σ[i]? := fun {i vs σ} h => wipe_out h
      have kn3 : ∀ (j : Nat) v, (wipe σ vs)[j]? = some (some v) → (wipe σ2 vs1)[j]? = some (some v) := fun j v z => by
        rw [← hw] at z
        obtain ⟨z1, z2⟩ := wipe_some z
        rw [out fun q => z2 (hv j q)]
        exact z1
      refine start_in ?loop1 (T1.self X.A 0 _ _ _ st10 ?loop1)
      refine loop_in (fun k s' => ∃ j H', Inv (X.blk u3 G3 scope ce fp) ([] ++ pinsAt fp s7.heap) (wipe σ2 vs1) H' s' ∧ tn1 j s'.heap ∧ (∀ b ∈ fp1, H' b = none) ∧ W1 j k H') ?_ m1
        ⟨0, H10, I10.weak (wipe_length _ _) (fun j v z => (wipe_some z).1), st10, fun b hb => (fo10 b hb).1, w1⟩
      rintro k s11 ⟨j, H11, I11, st11, n11, w11⟩
      rcases step1 j k H11 w11 with ⟨ends1, nx1⟩ | ⟨goes1, Nx1, hNx1, hstep1⟩
      · exact clause (Y := X.blk u3 G3 scope ce fp) hc rfl b3 b4 T1 I11 st11 ap1 n11 (C := fun _ _ _ => False) (.inl ⟨ends1, fun s12 I12 => back I12 len3 kn3 nx1⟩)
      · refine clause (Y := X.blk u3 G3 scope ce fp) hc rfl b3 b4 T1 I11 st11 ap1 n11 (.inr ⟨goes1, hstep1, ?_⟩)
        rintro s12 σ3 H6 b6 s13 st12 I13 ⟨hw3, rf, rt⟩
        have again1 : ∀ {s' : Shared} {H' : Hp}, Inv (X.blk u3 G3 scope ce fp) (([] ++ pinsAt fp s7.heap) ++ pinsAt fp1 s12.heap) σ3 H' s' → Nx1 H' →
            ∃ m, m < k ∧ ∃ j H', Inv (X.blk u3 G3 scope ce fp) ([] ++ pinsAt fp s7.heap) (wipe σ2 vs1) H' s' ∧ tn1 j s'.heap ∧ (∀ b ∈ fp1, H' b = none) ∧ W1 j m H' := fun {s' H'} I' nx => by
          obtain ⟨m', lt, w'⟩ := hNx1 H' nx
          obtain ⟨a1, a2, a3⟩ := next_step (Y := X.blk u3 G3 scope ce fp) (σ := wipe σ2 vs1) T1 st12 I' (by rw [← hw3, wipe_length]) (fun j v z => by rw [← hw3] at z; exact (wipe_some z).1)
          exact ⟨m', lt, j + 1, H', a1, a2, a3, w'⟩
        cases b6 with
        | false => exact again1 I13 (rf rfl)
        | true =>
          show wpAny _ _ (eval e ce) _ _ _
          refine thnF (b5.run _ s13 σ3 H6 _ I13 (rt rfl)) fun zv s14 hz => ?_
          obtain ⟨yv, H14, I14, r14, z, S, n0, rfl, hD14, room, nx⟩ := hz
          obtain ⟨tz, rfl⟩ := r14
          exact ts_add (X := X.blk u3 G3 scope ce fp) I14 hD14 room fun s15 I15 => again1 I15 nx
end
end Pg

/-! sorted(d, reverse=True), d a dict with texts as keys. -/
namespace Pg
open PySem PySem.Spec PyProof.Rows L2
def sgns (v : Value) : List Nat := match v with
  | .str x _ => cd x
  | _ => []
/-- ahead of another, by their signs -/
def ltT (v u : Value) : Bool := ltCps (sgns v) (sgns u)
theorem swo_txt : SrtO.Swo ltT := by
  constructor
  · intro x y h
    cases e : ltT y x with
    | false => rfl
    | true =>
      have z : ltCps (sgns x) (sgns x) = true := lc_trans h e
      rw [lc_irr] at z
      cases z
  · intro x y z h1 h2
    cases e : ltT z x with
    | false => rfl
    | true =>
      cases q : ltT x y with
      | true =>
        have r : ltT z y = true := lc_trans e q
        rw [h2] at r
        cases r
      | false =>
        have same : sgns y = sgns x := lc_tri h1 q
        have e' : ltCps (sgns z) (sgns x) = true := e
        rw [← same] at e'
        have h2' : ltCps (sgns z) (sgns y) = false := h2
        rw [h2'] at e'
        cases e'
theorem strs_all : ∀ {vs : List Value} {xs : List Str}, StrsAre vs xs → ∀ v ∈ vs, ∃ x t, v = Value.str x t
  | _, _, .nil, v, h => by cases h
  | _, _, .cons x t r, v, h => by
    rcases List.mem_cons.mp h with e | h
    · exact ⟨x, t, e⟩
    · exact strs_all r v h
theorem strs_txt : ∀ {vs : List Value} {xs : List Str}, StrsAre vs xs → vs.map (fun v => txt (0, v)) = xs
  | _, _, .nil => rfl
  | _, _, .cons x t r => congrArg (x :: ·) (strs_txt r)
theorem lt_signs : ∀ a b : List Nat, decide (a < b) = ltCps a b
  | [], [] => by simp [ltCps]
  | [], _ :: _ => by simp [ltCps]
  | _ :: _, [] => by simp [ltCps]
  | x :: a, y :: b => by
    simp only [ltCps, ← lt_signs a b, List.cons_lt_cons_iff]
    rw [Bool.eq_iff_iff]
    simp
section
variable {prog : Program} {w : World} {A : Around} {s : Shared}
theorem txt_sortable {a : Addr} {vs : List Value} {xs : List Str} (are : StrsAre vs xs) (h2 : 2 ≤ vs.length) : SrtO.SortableO prog w A s a vs ltT := by
  intro h' _
  refine ⟨oneType', fun Q E hq => ?_, fun p q hp hq => ?_⟩
  · match vs, are, h2 with
    | v1 :: v2 :: rest, are, _ =>
      rw [keyKind_strs are]
      exact wpAny_pure hq
    | [], _, h => cases h
    | [v], _, h => exact absurd h (by simp)
  · obtain ⟨x, t, e1⟩ := strs_all are _ hp
    obtain ⟨y, u, e2⟩ := strs_all are _ hq
    show wpAny (model prog w) A (keyLt' oneType' p.1 q.1) (fun r s' => s' = _ ∧ r = ltT p.1 q.1) (fun _ _ => False) _
    rw [e1, e2, keyLt'_oneType]
    exact strKind_oneLt prog w A _ _ _ _ (cd x) (cd y) rfl rfl ⟨rfl, lt_signs _ _⟩
end
/-- sorted(d, reverse=True) -/
def rSortedDR : List V → List V → Hp → VK → Prop := fun vs zs H Q => ∃ (a : Addr) (kvs : List (Key × V)) (ks : List Str), vs = [V.ref a] ∧ zs = [.bl true] ∧ Rd H a (.dK kvs) ∧ kvs.map (·.1) = ks.map Sum.inr ∧ ks.length ≤ 100000 ∧
  ∀ (ys : List Str) (p : Addr), ys.Perm ks → (ys.Pairwise fun x y => ahead x y = false) → H p = none → Q (.ref p) (upd H p (.lst (ys.map V.str)))
theorem cr_sortedDR {X : Cx} (calm : X.calm = true) : CallRK X (.builtin "sorted") [Str.ofString "reverse"] rSortedDR := by
  intro pins s σ H vs zs us ws Q I r rz h
  obtain ⟨a, kvs, ks, rfl, rfl, hd, hks, few, q⟩ := h
  obtain rfl := Vals.ref1 r
  obtain ⟨w1, rfl, e1⟩ := vals1 rz
  obtain rfl : w1 = Value.bool true := e1
  obtain ⟨z, low, es, rel, dd⟩ := dk_rd I.hok hd
  obtain ⟨ep, at_d⟩ := dd.dictAt
  have keys : es.map (·.1) = ks.map Sum.inr := rel.keys.symm.trans hks
  have len : es.length = ks.length := by
    have e := congrArg List.length keys
    rw [List.length_map, List.length_map] at e
    exact e
  have fits : es.length ≤ sizeLine := by rw [len, sizeLine_eq]; omega
  refine call_function_entry_kw kind_sorted plain_sorted entry_sorted (args_sorted_rev _ _) ?_
  unfold Builtin.«sorted»
  refine wpAny_bind (m := checkCount "sorted" 1 1 _) (wpAny_pure ?_)
  refine wpAny_bind (PySem.W.kdu_collect (A := X.A.in1) (PySem.W.kdl_dict (knd := mixKind X.prog X.w) (kvs := es) (ep := ep) low) (I.ok.hd calm) at_d fits fun h' tk acc kept got => ?_)
  have al : acc.toList.length = ks.length := by rw [Array.length_toList, got.1, len]
  have are : StrsAre acc.toList ks := strs_at al fun j v e => by
    obtain ⟨k, x, e1, e2⟩ := got.2 j v (by rw [← Array.getElem?_toList]; exact e)
    have e3 : (es.map (·.1))[j]? = some k := by rw [List.getElem?_map, e1]; rfl
    rw [keys, List.getElem?_map] at e3
    cases e4 : ks[j]? with
    | none => rw [e4] at e3; cases e3
    | some y =>
      rw [e4] at e3
      obtain rfl : Sum.inr y = k := Option.some.inj e3
      obtain ⟨t, ev⟩ := Value.isStrOf_shape (x := y) (v := v) e2
      exact ⟨y, t, rfl, ev⟩
  have I1 : Inv X pins σ H { s with heap := h', toks := tk } := I.kept kept
  have fit2 : acc.toList.length ≤ sizeLine := by rw [al, sizeLine_eq]; omega
  refine wpAny_bind (wpAny_newList ?_ fit2)
  have hoL : (h'.push (seqObj "list" acc.toList.toArray 0)).get? h'.objs.size = some (seqObj "list" acc.toList.toArray 0) := Heap.get?_push_size _ rfl
  show wpAny _ _ _ _ _ { s with heap := h'.push (seqObj "list" acc.toList.toArray 0), toks := tk }
  refine wpAny_bind (wpAny_holding (wpAny_call_entry_kw slot_list_sort ⟨_, hoL, rfl⟩ entry_list_sort ?_ (args_list_sort_rev _ _)))
  refine SrtR.list_sort_ordR (b := true) (ltv := ltT) swo_txt hoL fit2 (fun h2 => txt_sortable are h2) fun out h1 h2 => ⟨_, rfl, ?_⟩
  rw [if_pos rfl] at h2 ⊢
  have pm : out.Perm acc.toList := h2.perm.trans (List.reverse_perm _)
  obtain ⟨ep', he'⟩ := PyProof.Rows.sortedHeap_at (vs := acc.toList) (out := out.toArray.reverse) hoL
  have ys_are : StrsAre out.reverse (out.reverse.map fun v => txt (0, v)) := txts_are _ fun v hv => strs_all are v (pm.mem_iff.mp (List.mem_reverse.mp hv))
  have yp : (out.reverse.map fun v => txt (0, v)).Perm ks := by
    have e := ((List.reverse_perm out).trans pm).map fun v => txt (0, v)
    rw [strs_txt are] at e
    exact e
  have down : (out.reverse.map fun v => txt (0, v)).Pairwise fun x y => ahead x y = false := by
    rw [List.pairwise_map, List.pairwise_reverse]
    refine List.Pairwise.imp_of_mem ?_ h1
    intro x y mx my hxy
    obtain ⟨x', t, rfl⟩ := strs_all are x (pm.mem_iff.mp mx)
    obtain ⟨y', u, rfl⟩ := strs_all are y (pm.mem_iff.mp my)
    exact hxy
  have small : ((out.reverse.map fun v => txt (0, v)).map V.str).length ≤ sizeLine := by
    rw [List.length_map, yp.length_eq, sizeLine_eq]
    omega
  refine wpAny_pure ⟨_, rfl, .ref h'.objs.size, upd H h'.objs.size (.lst ((out.reverse.map fun v => txt (0, v)).map V.str)), I1.laid (t' := tk) (fun b u e => ?_) (Nat.le_refl _)
    (show ObjOk X.prog X.w _ _ _ (.lst ((out.reverse.map fun v => txt (0, v)).map V.str)) from ⟨small, out.reverse, ep', vals_of_strs ys_are, by rw [he', List.reverse_toArray]⟩), rfl, q _ _ yp down (I1.hok.fresh (Nat.le_refl _))⟩
  have lt : b < h'.objs.size := Heap.lt_size e
  rw [PyProof.Rows.sortedHeap_old (Nat.ne_of_lt lt) (by rw [size_push']; exact Nat.lt_succ_of_lt lt)]
  exact Heap.get?_push_of_some _ e
/-- sorted(d), any number of texts -/
def rSortedDA : List V → Hp → VK → Prop := fun vs H Q => ∃ (a : Addr) (kvs : List (Key × V)) (ks : List Str), vs = [V.ref a] ∧ Rd H a (.dK kvs) ∧ kvs.map (·.1) = ks.map Sum.inr ∧ ks.length ≤ 100000 ∧
  ∀ (ys : List Str) (p : Addr), ys.Perm ks → sortedS ys = true → H p = none → Q (.ref p) (upd H p (.lst (ys.map V.str)))
theorem cr_sortedDA {X : Cx} (calm : X.calm = true) : CallR X (.builtin "sorted") rSortedDA := by
  intro pins s σ H vs us Q I r h
  obtain ⟨a, kvs, ks, rfl, hd, hks, few, q⟩ := h
  obtain rfl := Vals.ref1 r
  obtain ⟨z, low, es, rel, dd⟩ := dk_rd I.hok hd
  obtain ⟨ep, at_d⟩ := dd.dictAt
  have keys : es.map (·.1) = ks.map Sum.inr := rel.keys.symm.trans hks
  have len : es.length = ks.length := by
    have e := congrArg List.length keys
    rw [List.length_map, List.length_map] at e
    exact e
  have fits : es.length ≤ sizeLine := by rw [len, sizeLine_eq]; omega
  apply Calls.call_function_entry kind_sorted plain_sorted entry_sorted (args_sorted1 _)
  unfold Builtin.«sorted»
  refine wpAny_bind (m := checkCount "sorted" 1 1 _) (wpAny_pure ?_)
  refine wpAny_bind (PySem.W.kdu_collect (A := X.A.in1) (PySem.W.kdl_dict (knd := mixKind X.prog X.w) (kvs := es) (ep := ep) low) (I.ok.hd calm) at_d fits fun h' tk acc kept got => ?_)
  have al : acc.toList.length = ks.length := by rw [Array.length_toList, got.1, len]
  have are : StrsAre acc.toList ks := strs_at al fun j v e => by
    obtain ⟨k, x, e1, e2⟩ := got.2 j v (by rw [← Array.getElem?_toList]; exact e)
    have e3 : (es.map (·.1))[j]? = some k := by rw [List.getElem?_map, e1]; rfl
    rw [keys, List.getElem?_map] at e3
    cases e4 : ks[j]? with
    | none => rw [e4] at e3; cases e3
    | some y =>
      rw [e4] at e3
      obtain rfl : Sum.inr y = k := Option.some.inj e3
      obtain ⟨t, ev⟩ := Value.isStrOf_shape (x := y) (v := v) e2
      exact ⟨y, t, rfl, ev⟩
  have I1 : Inv X pins σ H { s with heap := h', toks := tk } := I.kept kept
  have fit2 : acc.toList.length ≤ sizeLine := by rw [al, sizeLine_eq]; omega
  refine wpAny_bind (wpAny_newList ?_ fit2)
  have hoL : (h'.push (seqObj "list" acc.toList.toArray 0)).get? h'.objs.size = some (seqObj "list" acc.toList.toArray 0) := Heap.get?_push_size _ rfl
  show wpAny _ _ _ _ _ { s with heap := h'.push (seqObj "list" acc.toList.toArray 0), toks := tk }
  apply wpAny_bind
  apply wpAny_holding
  refine wpAny_call_entry slot_list_sort ⟨_, hoL, rfl⟩ entry_list_sort (list_sort_treeKAny strKind_oneLt (s := { s with heap := h'.push (seqObj "list" acc.toList.toArray 0), toks := tk }) hoL are.keysOf (fun v₁ v₂ rest e => keyKind_strs (by rw [← e]; exact are)) fit2 fun st' hp hs => ⟨_, rfl, ?_⟩) (args_list_sort _)
  obtain ⟨ys, g1, g2, g3⟩ := sorted_out_str are hp hs
  obtain ⟨ep', he'⟩ := PyProof.Rows.sortedHeap_at (vs := acc.toList) (out := (arrOf st').map (·.2)) hoL
  have small : (ys.map V.str).length ≤ sizeLine := by
    rw [List.length_map, g2.length_eq, sizeLine_eq]
    omega
  refine wpAny_pure ⟨_, rfl, .ref h'.objs.size, upd H h'.objs.size (.lst (ys.map V.str)), I1.laid (t' := tk) (fun b u e => ?_) (Nat.le_refl _)
    (show ObjOk X.prog X.w _ _ _ (.lst (ys.map V.str)) from ⟨small, _, ep', vals_of_strs g1, by rw [Array.toArray_toList]; exact he'⟩), rfl, q ys _ g2 g3 (I1.hok.fresh (Nat.le_refl _))⟩
  have lt : b < h'.objs.size := Heap.lt_size e
  rw [PyProof.Rows.sortedHeap_old (Nat.ne_of_lt lt) (by rw [size_push']; exact Nat.lt_succ_of_lt lt)]
  exact Heap.get?_push_of_some _ e
/-- within a comprehension: the written part is the def's own -/
theorem pi_listK {X : Cx} {K : PySem.W.Frag} {tg e : Expr} {te : TE} (h : X.K = K) (he : PE X e te) : PI X tg e (iList K te) := h ▸ pi_list he
theorem pi_tupK {X : Cx} {K : PySem.W.Frag} {tg e : Expr} {te : TE} (h : X.K = K) (he : PE X e te) : PI X tg e (iTup K te) := h ▸ pi_tup he
end Pg

/-! A dict comprehension that is stored in a local on its own line. -/
namespace Pg
open PySem PySem.Spec PyProof.Rows L2
theorem sw_dict {a b : Expr} {cs : List Comprehension} {sc : Scope} {p q : Pos} {n : Str} {line : Nat} {env : Env} (loc : env.scope.names.lookup n = some .local) (fn : env.scope.kind = .function) (row : (q.line == p.line) = true)
    (own : (sc.names.any fun (m, k) => m == n && (k == .local || k == .cell)) = false) : swapsWith (.DictComp a b cs sc p) (some (.Name n q)) line env = pure true := by
  have h1 : env.kindOf n = some .local := loc
  have h2 : env.blockKind = .function := by rw [Env.blockKind, fn]; rfl
  rw [swapsWith.eq_def]
  simp only [h1, h2, own, row, Expr.pos]
  rfl
section
variable {X : Cx}
theorem ps_setDc {k : Nat} {n : Str} {a b tg it : Expr} {cs : List Expr} {sc : Scope} {own : List (Str × Nat)} {p q r : Pos} {wi : TI} {g : TG} {tt : TT} {ta tb : TE} (calm : X.calm = true) (hN : X.N.Nodup) (at_ : X.N[k]? = some n) (loc : X.env.scope.names.lookup n = some .local)
    (sw : swapsWith (.DictComp a b [⟨tg, it, cs, 0⟩] sc p) (some (.Name n q)) r.line X.env = pure true) (hi : PI X tg it wi) (ok : BlkOk X.N X.env.scope sc own)
    (hg : ∀ (s : Shared) (H : Hp) (C : Addr) (cl : List (Str × Addr)) (fp : List Addr), PG (X.blk s H sc (compEnvC sc cl C X.env) fp) tg g)
    (ht : ∀ (s : Shared) (H : Hp) (C : Addr) (cl : List (Str × Addr)) (fp : List Addr), PTs (X.blk s H sc (compEnvC sc cl C X.env) fp) cs tt)
    (ha : ∀ (s : Shared) (H : Hp) (C : Addr) (cl : List (Str × Addr)) (fp : List Addr), PE (X.blk s H sc (compEnvC sc cl C X.env) fp) a ta)
    (hb : ∀ (s : Shared) (H : Hp) (C : Addr) (cl : List (Str × Addr)) (fp : List Addr), PE (X.blk s H sc (compEnvC sc cl C X.env) fp) b tb) (plain : ∀ x, foldedSetIterable it X.env x = pure x := by intro _; rfl) :
    PS X (.Assign [.Name n q] (.DictComp a b [⟨tg, it, cs, 0⟩] sc p) r) (tAsg (tDc wi g tt ta tb (own.map (·.2))) (gName k)) := by
  constructor
  intro pins s σ H D I hyp
  rw [exec_Assign_Name_used _ _ _ _ sw]
  apply wpAny_bind
  apply wpAny_standAt
  apply wpAny_bind
  have core := dc_core (Qf := fun _ t => SP X pins D .next t) (use := some (assign (.Name n q) X.env)) (pos := p) (pos' := firstIterPos [⟨tg, it, cs, 0⟩] p) (Q := fun x H1 => gName k x σ H1 D.nx) calm hN I hi ok hg ht ha hb plain hyp
  apply wpAny_bind
  refine thn (core fun D' C t m G I' post clear free => ?_) fun _ t done => wpAny_pure (wpAny_pure done)
  have stored : ∀ t2, Inv X pins (σ.set k (some (.ref D'))) G t2 → (∃ c, Heap.SameBut c t.heap t2.heap ∧ (c = X.env.locals ∨ X.env.cells.lookup n = some c)) →
      ∃ m, t2.heap.Ns C m ∧ ∀ h', Heap.SameBut C t2.heap h' → SP X pins D .next { t2 with heap := h' } := by
    rintro t2 I2 ⟨c, same, place⟩
    obtain ⟨f0, f1, f2, f3, f4, f5⟩ := free
    have other : C ≠ c := by
      rintro rfl
      exact place.elim f1 fun w => f4 n _ w rfl
    refine ⟨m, clear.sameBut same other, fun h' away => ⟨_, G, ?_, post⟩⟩
    exact I2.turned (t' := t2.toks) (fun b o hb e => (away.2 b hb).trans e) f0 f1 f3 f4 f5
  exact wpAny_assign_Name (store_ok2 (v := V.ref D') I' hN at_ (.inl loc) rfl stored (.inr loc))
end
/-- over a dict's keys, the dict locked -/
theorem dc_keys {d : Addr} {o : Obj} {kvs : List (Key × V)} {g : TG} {tt : TT} {tk tv : TE} {vs : List Nat} {σ : L2.St} {H1 : Hp} {D : Addr} {Qd : Hp → Prop} (Pv : Nat → Hp → Prop) (h0 : Pv 0 (upd H1 D (.dK [])))
    (locked : ∀ i H, i ≤ kvs.length → Pv i H → H d = some (.frz o (.dK kvs)))
    (turn : ∀ i k v H, kvs[i]? = some (k, v) → Pv i H → g (kV k) (wipe σ vs) H fun σ2 H2 => wipe σ2 vs = wipe σ vs ∧ tt σ2 H2 fun b H3 =>
      if b = true then tk σ2 H3 fun y H4 => tv σ2 H4 fun z H5 => ∃ kws k, y = kV k ∧ H5 D = some (.dK kws) ∧ kws.length < sizeLine ∧ Pv (i + 1) (upd H5 D (.dK (putK kws k z))) else Pv (i + 1) H3) (after : ∀ H, Pv kvs.length H → Qd H) :
    ∃ W : Nat → Nat → Hp → Prop, (∃ m, W 0 m (upd H1 D (.dK []))) ∧ ∀ i m H, W i m H →
      ((Itk d o kvs).stop i H ∧ Qd H) ∨ ((Itk d o kvs).go i H ∧ ∃ Nx : Hp → Prop, (∀ H', Nx H' → ∃ m', m' < m ∧ W (i + 1) m' H') ∧ ∀ x H', (Itk d o kvs).yld i H x H' → g x (wipe σ vs) H' fun σ2 H2 => wipe σ2 vs = wipe σ vs ∧ tt σ2 H2 fun b H3 =>
        if b = true then tk σ2 H3 fun y H4 => tv σ2 H4 fun z H5 => ∃ kws k, y = kV k ∧ H5 D = some (.dK kws) ∧ kws.length < sizeLine ∧ Nx (upd H5 D (.dK (putK kws k z))) else Nx H3) := by
  refine ⟨fun i m H => i + m = kvs.length ∧ Pv i H, ⟨kvs.length, by omega, h0⟩, ?_⟩
  rintro i m H ⟨e, p⟩
  have lk := locked i H (by omega) p
  by_cases lt : i < kvs.length
  · refine .inr ⟨⟨lk, lt⟩, Pv (i + 1), fun H' p' => ⟨m - 1, by omega, by omega, p'⟩, ?_⟩
    rintro x H' ⟨rfl, k, v, at_, rfl⟩
    exact turn i k v _ at_ p
  · obtain rfl : i = kvs.length := by omega
    exact .inl ⟨⟨lk, Nat.le_refl _⟩, after H p⟩
/-- sorted(t), t a tuple of texts, any number -/
def rSortedTA (K : PySem.W.Frag) : List V → Hp → VK → Prop := fun vs H Q => ∃ (a : Addr) (ks : List Str), vs = [V.ref a] ∧ SqT K H a (ks.map V.str) ∧ ks.length ≤ 100000 ∧
  ∀ (ys : List Str) (p : Addr), ys.Perm ks → sortedS ys = true → H p = none → Q (.ref p) (upd H p (.lst (ys.map V.str)))
theorem cr_sortedTA {X : Cx} : CallR X (.builtin "sorted") (rSortedTA X.K) := by
  intro pins s σ H vs us Q I r h
  obtain ⟨a, ks, rfl, hd, few, q⟩ := h
  obtain rfl := Vals.ref1 r
  obtain ⟨its, rel, ⟨o, ho, hc, n, hdata⟩, small0⟩ := I.tuple hd
  have al : its.length = ks.length := by rw [← rel.length, List.length_map]
  have fit2 : its.length ≤ sizeLine := by rw [al, sizeLine_eq]; omega
  have are : StrsAre its ks := rel.strs
  apply Calls.call_function_entry kind_sorted plain_sorted entry_sorted (args_sorted1 _)
  unfold Builtin.«sorted»
  refine wpAny_bind (m := checkCount "sorted" 1 1 _) (wpAny_pure ?_)
  refine wpAny_bind (wpAny_collect_seq a (.inr rfl) ho hc hdata (fun h' kept => ?_) (by rw [List.size_toArray]; exact fit2))
  rw [show its.toArray.toList = its by simp]
  have I1 : Inv X pins σ H { s with heap := h', toks := s.toks } := I.kept kept
  refine wpAny_bind (wpAny_newList ?_ fit2)
  have hoL : (h'.push (seqObj "list" its.toArray 0)).get? h'.objs.size = some (seqObj "list" its.toArray 0) := Heap.get?_push_size _ rfl
  show wpAny _ _ _ _ _ { s with heap := h'.push (seqObj "list" its.toArray 0), toks := s.toks }
  apply wpAny_bind
  apply wpAny_holding
  refine wpAny_call_entry slot_list_sort ⟨_, hoL, rfl⟩ entry_list_sort (list_sort_treeKAny strKind_oneLt (s := { s with heap := h'.push (seqObj "list" its.toArray 0), toks := s.toks }) hoL are.keysOf (fun v₁ v₂ rest e => keyKind_strs (by rw [← e]; exact are)) fit2 fun st' hp hs => ⟨_, rfl, ?_⟩) (args_list_sort _)
  obtain ⟨ys, g1, g2, g3⟩ := sorted_out_str are hp hs
  obtain ⟨ep', he'⟩ := PyProof.Rows.sortedHeap_at (vs := its) (out := (arrOf st').map (·.2)) hoL
  have small : (ys.map V.str).length ≤ sizeLine := by
    rw [List.length_map, g2.length_eq, sizeLine_eq]
    omega
  refine wpAny_pure ⟨_, rfl, .ref h'.objs.size, upd H h'.objs.size (.lst (ys.map V.str)), I1.laid (t' := s.toks) (fun b u e => ?_) (Nat.le_refl _)
    (show ObjOk X.prog X.w _ _ _ (.lst (ys.map V.str)) from ⟨small, _, ep', vals_of_strs g1, by rw [Array.toArray_toList]; exact he'⟩), rfl, q ys _ g2 g3 (I1.hok.fresh (Nat.le_refl _))⟩
  have lt : b < h'.objs.size := Heap.lt_size e
  rw [PyProof.Rows.sortedHeap_old (Nat.ne_of_lt lt) (by rw [size_push']; exact Nat.lt_succ_of_lt lt)]
  exact Heap.get?_push_of_some _ e
end Pg

/-! A comprehension within a comprehension. -/
namespace Pg
open PySem PySem.Spec PyProof.Rows L2
/-- nothing but a scope -/
def bareEnv (d : Scope) : Env := { scope := d, locals := 0, globals := 0, cells := [] }
theorem blkOk_nest {N : List Str} {sc scope d : Scope} {own : List (Str × Nat)} {env : Env} {cl : List (Str × Addr)} {C : Addr} (h : env.scope = d) (c : blkC N (relabel sc (bareEnv d)) scope own = true) : BlkOk N (compEnvC sc cl C env).scope scope own := by
  have e : (compEnvC sc cl C env).scope = relabel sc (bareEnv d) := by
    subst h
    rfl
  rw [e]
  exact blkOk_by c
/-- a field, within a comprehension -/
theorem pe_fldK {X : Cx} {K : PySem.W.Frag} {e : Expr} {ta : TE} {f : Str} {pos : Pos} (h : X.K = K) (he : PE X e ta) (hb : attributeBase e f X.env (eval e X.env) = eval e X.env) : PE X (.Attribute e f pos) (tFld K ta f) := h ▸ pe_fld he hb
section
variable {X : Cx} {a b : Expr} {ta tb : TT} {pos : Pos}
theorem pts_and2 (ha : PT X a ta) (hb : PT X b tb) : PTs X [.BoolOp .And [a, b] pos] (tAnd ta tb) := pts_one (PW.pt (pw_and ha (pw_and1 hb)))
end
end Pg

namespace K61
open PySem PySem.Spec PyProof.Rows L2 Pg
def topS (i : Nat) : Stmt := PySem.Challenge.pw_pagesatonce_k61_mirrors_show_complete_ve.main.body.getD i (.Pass ⟨0, 0, 0, 0⟩)
abbrev s_Mirror_init : Stmt := inClass (topS 5) 0
theorem sc_Mirror_init : FnScope ["self"] ["self"] (defScope s_Mirror_init) := ⟨rfl, rfl, rfl, by decide +kernel, rfl, by decide +kernel, by decide +kernel⟩
abbrev s_Mirror_shown : Stmt := inClass (topS 5) 2
theorem sc_Mirror_shown : FnScope ["self"] ["self"] (defScope s_Mirror_shown) := ⟨rfl, rfl, rfl, by decide +kernel, rfl, by decide +kernel, by decide +kernel⟩
abbrev s_Mirror_page : Stmt := inClass (topS 5) 3
theorem sc_Mirror_page : FnScope ["self", "name"] ["self", "name"] (defScope s_Mirror_page) := ⟨rfl, rfl, rfl, by decide +kernel, rfl, by decide +kernel, by decide +kernel⟩
abbrev s_Mirror_hear_page : Stmt := inClass (topS 5) 4
theorem sc_Mirror_hear_page : FnScope ["self", "number", "name", "text"] ["self", "number", "name", "text"] (defScope s_Mirror_hear_page) := ⟨rfl, rfl, rfl, by decide +kernel, rfl, by decide +kernel, by decide +kernel⟩
abbrev s_Mirror_hear_seal : Stmt := inClass (topS 5) 5
theorem sc_Mirror_hear_seal : FnScope ["self", "number", "count", "time", "names", "behind", "content", "times"] ["self", "number", "count", "time", "names", "behind"] (defScope s_Mirror_hear_seal) := ⟨rfl, rfl, rfl, by decide +kernel, rfl, by decide +kernel, by decide +kernel⟩
abbrev s_Mirror_show : Stmt := inClass (topS 5) 6
theorem sc_Mirror_show : FnScope ["self", "number", "names", "behind", "count", "pages", "name"] ["self", "number"] (defScope s_Mirror_show) := ⟨rfl, rfl, rfl, by decide +kernel, rfl, by decide +kernel, by decide +kernel⟩
abbrev s_Mirror_hear : Stmt := inClass (topS 5) 1
theorem sc_Mirror_hear : FnScope ["self", "letter", "before", "_", "number", "name", "text", "count", "time", "names", "behind"] ["self", "letter"] (defScope s_Mirror_hear) := ⟨rfl, rfl, rfl, by decide +kernel, rfl, by decide +kernel, by decide +kernel⟩
abbrev s_law_cell : Stmt := topS 7
theorem sc_law_cell : FnScope ["script", "k"] ["script", "k"] (defScope s_law_cell) := ⟨rfl, rfl, rfl, by decide +kernel, rfl, by decide +kernel, by decide +kernel⟩
abbrev s_law_digits : Stmt := topS 8
theorem sc_law_digits : FnScope ["script", "first", "last", "digits", "k", "cell", "turn", "seed"] ["script", "first", "last"] (defScope s_law_digits) := ⟨rfl, rfl, rfl, by decide +kernel, rfl, by decide +kernel, by decide +kernel⟩
abbrev s_law_draw : Stmt := topS 9
theorem sc_law_draw : FnScope ["box", "many", "at"] ["box", "many"] (defScope s_law_draw) := ⟨rfl, rfl, rfl, by decide +kernel, rfl, by decide +kernel, by decide +kernel⟩
abbrev s_law_name : Stmt := topS 10
theorem sc_law_name : FnScope ["box"] ["box"] (defScope s_law_name) := ⟨rfl, rfl, rfl, by decide +kernel, rfl, by decide +kernel, by decide +kernel⟩
abbrev s_law_pages : Stmt := topS 13
theorem sc_law_pages : FnScope ["box", "pages", "turn", "name"] ["box"] (defScope s_law_pages) := ⟨rfl, rfl, rfl, by decide +kernel, rfl, by decide +kernel, by decide +kernel⟩
abbrev s_law_alike : Stmt := topS 14
theorem sc_law_alike : FnScope ["one", "two"] ["one", "two"] (defScope s_law_alike) := ⟨rfl, rfl, rfl, by decide +kernel, rfl, by decide +kernel, by decide +kernel⟩
abbrev s_law_versions : Stmt := topS 15
theorem sc_law_versions : FnScope ["box", "versions", "number", "count", "time", "turn", "names", "pages", "behind", "name"] ["box"] (defScope s_law_versions) := ⟨rfl, rfl, rfl, by decide +kernel, rfl, by decide +kernel, by decide +kernel⟩
abbrev s_law_letters : Stmt := topS 16
theorem sc_law_letters : FnScope ["version", "letters", "names", "name", "text"] ["version"] (defScope s_law_letters) := ⟨rfl, rfl, rfl, by decide +kernel, rfl, by decide +kernel, by decide +kernel⟩
abbrev s_law_hear : Stmt := topS 17
theorem sc_law_hear : FnScope ["mirror", "letter", "e"] ["mirror", "letter"] (defScope s_law_hear) := ⟨rfl, rfl, rfl, by decide +kernel, rfl, by decide +kernel, by decide +kernel⟩
abbrev s_law_unlike : Stmt := topS 18
theorem sc_law_unlike : FnScope ["box", "letter", "kind"] ["box", "letter"] (defScope s_law_unlike) := ⟨rfl, rfl, rfl, by decide +kernel, rfl, by decide +kernel, by decide +kernel⟩
abbrev s_law_shown : Stmt := topS 19
theorem sc_law_shown : FnScope ["heard", "versions", "found", "version", "letter"] ["heard", "versions"] (defScope s_law_shown) := ⟨rfl, rfl, rfl, by decide +kernel, rfl, by decide +kernel, by decide +kernel⟩
abbrev s_law : Stmt := topS 20
theorem sc_law : FnScope ["script", "box", "versions", "letters", "version", "mirror", "heard", "shown", "turn", "letter", "now", "name", "texts", "due", "row"] ["script"] (defScope s_law) := ⟨rfl, rfl, rfl, by decide +kernel, rfl, by decide +kernel, by decide +kernel⟩
structure T_Mirror (K : PySem.W.Frag) (mg : Str → Option Value) (C : Addr) : Prop where
  cl : Cls K C
  g : mg "Mirror" = some (.ref C)
  n_texts : NoAttr K C "_texts"
  n_contents : NoAttr K C "_contents"
  n_times : NoAttr K C "_times"
  n_shown : NoAttr K C "_shown"
structure Z (mg : Str → Option Value) : Prop where
  «len» : mg "len" = none
  «range» : mg "range" = none
  «int» : mg "int" = none
  «repr» : mg "repr" = none
  «list» : mg "list" = none
  «tuple» : mg "tuple" = none
  «dict» : mg "dict" = none
  «all» : mg "all" = none
  «max» : mg "max" = none
  «min» : mg "min" = none
  «str» : mg "str" = none
  «isinstance» : mg "isinstance" = none
end K61

namespace K61
open PySem PySem.Spec PyProof.Rows L2 Pg
/-! ### what the helpers of the law promise -/
/-- a cell of the script, or 0 -/
def spCell (K : PySem.W.Frag) : Sp := fun vs H Q _ => ∃ (l : Addr) (ns : List Int) (k : Nat), vs = [.ref l, .int (k : Nat)] ∧ SqL K H l (ns.map V.int) ∧ ∀ c : Int, Q (.int c) H
/-- a new list of some whole numbers -/
def spDigits (K : PySem.W.Frag) : Sp := fun vs H Q _ => ∃ (l : Addr) (ns : List Int) (a b : Nat), vs = [.ref l, .int (a : Nat), .int (b : Nat)] ∧ SqL K H l (ns.map V.int) ∧ a ≤ 63 ∧ b ≤ 63 ∧
  ∀ (H' : Hp) (p : Addr) (ds : List Int), Same H H' → H p = none → H' p = some (.lst (ds.map V.int)) → ds.length ≤ 4000 → Q (.ref p) H'
/-- the box of the draws: its digits stand at d -/
def BoxAt (H : Hp) (b d : Addr) : Prop := ∃ (ds : List Int) (n : Nat), H b = some (.lst [.ref d, .int (n : Nat)]) ∧ H d = some (.lst (ds.map V.int)) ∧ d ≠ b ∧ ds.length ≤ 4000
def Box (H : Hp) (b : Addr) : Prop := ∃ d, BoxAt H b d
/-- all but the box is as it was -/
structure Drew (b : Addr) (H H' : Hp) : Prop where
  box : Box H' b
  dig : ∀ d, BoxAt H b d → BoxAt H' b d
  keep : ∀ p o, p ≠ b → H p = some o → H' p = some o
theorem Drew.trans {b : Addr} {H H1 H2 : Hp} (x : Drew b H H1) (y : Drew b H1 H2) : Drew b H H2 := ⟨y.box, fun d e => y.dig d (x.dig d e), fun p o n e => y.keep p o n (x.keep p o n e)⟩
theorem BoxAt.same {b d : Addr} {H H' : Hp} (x : BoxAt H b d) (s : Same H H') : BoxAt H' b d := by
  obtain ⟨ds, n, e1, e2, ne, few⟩ := x
  exact ⟨ds, n, s _ _ e1, s _ _ e2, ne, few⟩
theorem BoxAt.upd {b d p : Addr} {H : Hp} {o : HO} (x : BoxAt H b d) (n1 : p ≠ b) (n2 : p ≠ d) : BoxAt (upd H p o) b d := by
  obtain ⟨ds, n, e1, e2, ne, few⟩ := x
  exact ⟨ds, n, by rw [upd_ne n1.symm]; exact e1, by rw [upd_ne n2.symm]; exact e2, ne, few⟩
theorem BoxAt.ne {b d p : Addr} {H : Hp} (x : BoxAt H b d) (n : H p = none) : p ≠ b ∧ p ≠ d := by
  obtain ⟨ds, m, e1, e2, _⟩ := x
  exact ⟨(ne_of_none e1 n).symm, (ne_of_none e2 n).symm⟩
theorem Box.same {b : Addr} {H H' : Hp} (x : Box H b) (s : Same H H') : Box H' b := let ⟨d, e⟩ := x; ⟨d, e.same s⟩
theorem Box.ne {b p : Addr} {H : Hp} (x : Box H b) (n : H p = none) : p ≠ b := let ⟨_, e⟩ := x; (e.ne n).1
theorem Drew.same {b : Addr} {H H1 H2 : Hp} (x : Drew b H H1) (s : Same H1 H2) : Drew b H H2 := ⟨x.box.same s, fun d e => (x.dig d e).same s, fun p o n e => s _ _ (x.keep p o n e)⟩
theorem Drew.of {b : Addr} {H H' : Hp} (x : Box H b) (s : Same H H') : Drew b H H' := ⟨x.same s, fun d e => e.same s, fun p o _ e => s _ _ e⟩
theorem same_new {H : Hp} {p : Addr} {o : HO} (h : H p = none) : Same H (upd H p o) := by
  intro b x e
  rw [upd_ne (ne_of_none e h)]
  exact e
theorem small5 {n : Nat} (h : n ≤ 100000) : n < sizeLine := Nat.lt_of_le_of_lt h (by decide)
def spDraw : Sp := fun vs H Q _ => ∃ (b : Addr) (many : Int), vs = [.ref b, .int many] ∧ 0 < many ∧ Box H b ∧ ∀ (r : Int) (H' : Hp), 0 ≤ r → r < many → Drew b H H' → Q (.int r) H'
def names8 : List Str := ["a", "b", "c", "d", "e", "ab", "bc", "cd"]
def spName : Sp := fun vs H Q _ => ∃ b : Addr, vs = [.ref b] ∧ Box H b ∧ ∀ (z : Str) (H' : Hp), z ∈ names8 → Drew b H H' → Q (.str z) H'
section
variable {P : Program} {w : World} {K : PySem.W.Frag} {mg : Str → Option Value} {base : Heap} {f : Addr} {fd : FuncData}
theorem ok_law_cell (F : Fun K "_law_cell" "_law_cell" s_law_cell f fd) (z : Z mg) : FnOk P w K mg base CX0 1 f fd ["script", "k"] (spCell K) := by
  refine F.ok sc_law_cell (fun vs H Q E h => ?_) (fun cdv A outer s H vs Q E hr h => ?_)
  · obtain ⟨l, ns, k, rfl, _⟩ := h
    rfl
  · obtain ⟨l, ns, k, rfl, hs, q⟩ := h
    refine ⟨_, (pss_cons (ps_if (pt_cmpR op_lt (pv 1) (pe_callB call_len_seq (by rfl) z.len PySem.boot_len (pa_cons (pv 0) pa_nil)) (nomark _))
        (pss_one (ps_ret (pe_ix ix_list (pv 0) (pv 1) (fun _ _ => rfl))))
        pss_nil)
      (pss_one (ps_ret pe_int))), ?_⟩
    refine ⟨_, rfl, .ref l, rfl, l, ns.map V.int, rfl, .inl hs, _, _, rfl, rfl, _, rfl, ite2 (fun e => ?_) (fun e => ?_)⟩
    · have lt : k < ns.length := by
        have e := of_decide_eq_true e
        rw [List.length_map] at e
        omega
      exact ⟨.ref l, rfl, _, rfl, l, _, _, _, rfl, rfl, hs, atI_nat (j := k) (by rw [List.getElem?_map, List.getElem?_eq_getElem lt]; rfl), q _⟩
    · exact q 0
theorem ok_law_draw (F : Fun K "_law_draw" "_law_draw" s_law_draw f fd) (z : Z mg) : FnOk P w K mg base CX0 1 f fd ["box", "many"] spDraw := by
  refine F.ok sc_law_draw (fun vs H Q E h => ?_) (fun cdv A outer s H vs Q E hr h => ?_)
  · obtain ⟨b, many, rfl, _⟩ := h
    rfl
  · obtain ⟨b, many, rfl, hm, ⟨d, ds, n, hb, hd, ne, few⟩, q⟩ := h
    refine ⟨_, (pss_cons (ps_set (i := 2) sc_law_draw.nd rfl (Or.inl rfl) (pe_ix ix_list (pv 0) pe_int (fun _ _ => rfl)))
      (pss_cons (ps_asg (pe_op op_add (pv 2) pe_int) (pg_sub (pv 0) pe_int set_list))
      (pss_cons (ps_if (pt_cmpR op_lt (pv 2) (pe_callB call_len_seq (by rfl) z.len PySem.boot_len (pa_cons (pe_ix ix_list (pv 0) pe_int (fun _ _ => rfl)) pa_nil)) (nomark _))
        (pss_one (ps_ret (pe_op op_mod (pe_callTy call_int1 (by rfl) z.int (by decide +kernel) (pa_cons (pe_ix ix_list (pe_ix ix_list (pv 0) pe_int (fun _ _ => rfl)) (pv 2) (fun _ _ => rfl)) pa_nil)) (pv 1))))
        pss_nil)
      (pss_one (ps_ret (pe_op op_mod (pe_callTy call_int1 (by rfl) z.int (by decide +kernel) (pa_cons (pe_op op_add (pe_op op_mul (pv 2) pe_int) pe_int) pa_nil)) (pv 1))))))), ?_⟩
    have hB : ∀ {H : Hp} {m : Int}, H b = some (.lst [.ref d, .int m]) → SqL K H b [.ref d, .int m] := fun e => .inl (.inl e)
    -- one draw further
    refine ⟨.ref b, rfl, b, _, _, .int (n : Nat), rfl, rfl, hB hb, rfl, ?_⟩
    refine ⟨_, rfl, _, _, rfl, rfl, .ref b, rfl, b, _, _, 1, rfl, rfl, hb, rfl, ?_⟩
    have hb' : (upd H b (.lst ([.ref d, .int (n : Nat)].set 1 (.int ((n : Nat) + 1))))) b = some (.lst [.ref d, .int ((n + 1 : Nat) : Int)]) := upd_same
    have hd' : (upd H b (.lst ([.ref d, .int (n : Nat)].set 1 (.int ((n : Nat) + 1))))) d = some (.lst (ds.map V.int)) := by rw [upd_ne ne]; exact hd
    have dr : Drew b H (upd H b (.lst ([.ref d, .int (n : Nat)].set 1 (.int ((n : Nat) + 1))))) := ⟨⟨d, ds, n + 1, hb', hd', ne, few⟩, fun d' B => by
      obtain ⟨ds', n', e1, e2, ne', few'⟩ := B
      rw [hb] at e1
      cases e1
      exact ⟨ds, n + 1, hb', hd', ne, few⟩, fun p o np e => by rw [upd_ne np]; exact e⟩
    -- if at < len(box[0])
    refine ⟨_, rfl, .ref b, rfl, b, _, _, .ref d, rfl, rfl, hB hb', rfl, d, _, rfl, .inl (.inl (.inl hd')), _, _, rfl, rfl, _, rfl, ite2 (fun e => ?_) (fun e => ?_)⟩
    · have lt : n < ds.length := by
        have e := of_decide_eq_true e
        rw [List.length_map] at e
        omega
      refine ⟨.ref b, rfl, b, _, _, .ref d, rfl, rfl, hB hb', rfl, _, rfl, d, _, _, .int ds[n], rfl, rfl, .inl (.inl hd'), atI_nat (j := n) (by rw [List.getElem?_map, List.getElem?_eq_getElem lt]; rfl), .inl ⟨_, rfl, ?_⟩⟩
      exact ⟨_, rfl, _, _, rfl, rfl, hm, q _ _ (Int.emod_nonneg _ (by omega)) (Int.emod_lt_of_pos _ hm) dr⟩
    · refine ⟨_, rfl, _, _, rfl, rfl, .inr ⟨by decide, by decide⟩, _, _, rfl, rfl, .inl ⟨_, rfl, ?_⟩⟩
      exact ⟨_, rfl, _, _, rfl, rfl, hm, q _ _ (Int.emod_nonneg _ (by omega)) (Int.emod_lt_of_pos _ hm) dr⟩
theorem ok_law_digits (F : Fun K "_law_digits" "_law_digits" s_law_digits f fd) (z : Z mg) (claw_cell : Cal P w K mg base "_law_cell" 1 ["script", "k"] (spCell K)) :
    FnOk P w K mg base CX0 2 f fd ["script", "first", "last"] (spDigits K) := by
  refine F.ok sc_law_digits (fun vs H Q E h => ?_) (fun cdv A outer s H vs Q E hr h => ?_)
  · obtain ⟨l, ns, a, b, rfl, _⟩ := h
    rfl
  · obtain ⟨l, ns, a, b, rfl, hs, ha, hb, q⟩ := h
    refine ⟨_, (pss_cons (ps_set (i := 3) sc_law_digits.nd rfl (Or.inl rfl) (pe_lst pa_nil))
      (pss_cons (ps_for PassesOwn.never rfl (pi_range2 (by rfl) z.range (pa_cons (pv 1) (pa_cons (pv 2) pa_nil))) (pg_name (i := 4) sc_law_digits.nd rfl (Or.inl rfl))
        (pss_cons (ps_set (i := 5) sc_law_digits.nd rfl (Or.inl rfl) (pe_cal claw_cell (hr.mono (by decide)) (by rfl) (pa_cons (pv 0) (pa_cons (pv 4) pa_nil))))
        (pss_cons (ps_if (pt_cmpR op_lt (pv 5) pe_int (nomark _))
          (pss_one (ps_set (i := 5) sc_law_digits.nd rfl (Or.inl rfl) (pe_op op_sub pe_int (pe_op op_mul pe_int (pv 5)))))
          pss_nil)
        (pss_one (ps_if (pt_cmpR op_ge (pv 5) pe_int (nomark _))
          (pss_one (ps_for PassesOwn.never rfl (pi_range1 (by rfl) z.range (pa_cons pe_int pa_nil)) (pg_name (i := 6) sc_law_digits.nd rfl (Or.inl rfl))
            (pss_one (ps_if (pt_cmpR op_gt (pv 5) pe_int (nomark _))
              (pss_cons (ps_expr (pe_bm PySem.F.plainAttrs_list PySem.F.slot_list_append PySem.F.type_list_append mt_append (pv 3) (pa_cons (pe_op op_mod (pe_callTy call_int1 (by rfl) z.int (by decide +kernel) (pa_cons (pv 5) pa_nil)) pe_int) pa_nil)))
              (pss_one (ps_set (i := 5) sc_law_digits.nd rfl (Or.inl rfl) (pe_op op_fdiv (pv 5) pe_int))))
              pss_nil))))
          (pss_cons (ps_set (i := 7) sc_law_digits.nd rfl (Or.inl rfl) (pe_op op_mod (pe_callTy call_int1 (by rfl) z.int (by decide +kernel) (pa_cons (pe_op op_add (pe_op op_add (pe_op op_mul (pv 5) pe_int) (pe_op op_mul (pv 4) pe_int)) pe_int) pa_nil)) pe_int))
          (pss_one (ps_for PassesOwn.never rfl (pi_range1 (by rfl) z.range (pa_cons pe_int pa_nil)) (pg_name (i := 6) sc_law_digits.nd rfl (Or.inl rfl))
            (pss_cons (ps_set (i := 7) sc_law_digits.nd rfl (Or.inl rfl) (pe_op op_mod (pe_callTy call_int1 (by rfl) z.int (by decide +kernel) (pa_cons (pe_op op_add (pe_op op_add (pe_op op_mul (pv 7) pe_int) (pe_op op_mul pe_int (pv 6))) pe_int) pa_nil)) pe_int))
            (pss_one (ps_expr (pe_bm PySem.F.plainAttrs_list PySem.F.slot_list_append PySem.F.type_list_append mt_append (pv 3) (pa_cons (pe_op op_mod (pe_callTy call_int1 (by rfl) z.int (by decide +kernel) (pa_cons (pe_op op_fdiv (pv 7) pe_int) pa_nil)) pe_int) pa_nil)))))))))))))
      (pss_one (ps_ret (pv 3))))), ?_⟩
    -- digits = []
    refine ⟨Nat.zero_le _, fun D nD => ?_⟩
    -- cell by cell
    refine ⟨_, rfl, _, rfl, _, _, rfl, ⟨by omega, by omega, by omega, by omega⟩, ?_⟩
    refine for_range (lo := (a : Int)) (n := ((b : Int) - (a : Int)).toNat) (fun i σ H3 => ∃ (y4 y5 y6 y7 : Option V) (ds : List Int), σ = [some (.ref l), some (.int (a : Nat)), some (.int (b : Nat)), some (.ref D), y4, y5, y6, y7] ∧
      Same H H3 ∧ H3 D = some (.lst (ds.map V.int)) ∧ ds.length ≤ 60 * i) ⟨none, none, none, none, [], rfl, same_new nD, upd_same, Nat.zero_le _⟩ ?_ ?_
    · rintro i σ H3 hi ⟨y4, y5, y6, y7, ds, rfl, sm, hD, few⟩
      have hi' : i < 63 := by omega
      -- a cell
      refine ⟨.ref l, rfl, .int ((a : Int) + i), rfl, l, ns, a + i, by simp, sm.seq hs, fun c => ?_⟩
      have appd : ∀ {H4 : Hp} {es : List Int} (x : Int), H4 D = some (.lst (es.map V.int)) → Same H H4 → Same H (upd H4 D (.lst (es.map V.int ++ [.int x]))) := fun x e s p o q => by
        rw [upd_ne (ne_of_none q nD)]
        exact s p o q
      -- if cell < 0
      refine ⟨_, rfl, _, _, rfl, rfl, _, rfl, ite2 (fun _ => ?_) (fun _ => ?_)⟩
      · refine ⟨_, rfl, _, _, rfl, rfl, .inl ⟨by decide, by decide⟩, _, _, rfl, rfl, ?_⟩
        refine ⟨_, rfl, _, _, rfl, rfl, _, rfl, ite2 (fun _ => ?_) (fun _ => ?_)⟩
        · -- sixty turns
          refine ⟨60, rfl, by decide, by decide, ?_⟩
          refine for_range (lo := 0) (n := 60) (fun j σ H4 => ∃ (x6 x7 : Option V) (c : Int) (es : List Int), σ = [some (.ref l), some (.int (a : Nat)), some (.int (b : Nat)), some (.ref D), some (.int ((a : Int) + i)), some (.int c), x6, x7] ∧
            Same H H4 ∧ H4 D = some (.lst (es.map V.int)) ∧ es.length ≤ ds.length + j) ⟨_, _, _, ds, rfl, sm, hD, Nat.le_refl _⟩ ?_ ?_
          · rintro j σ H4 hj ⟨x6, x7, c, es, rfl, sm4, hD4, few4⟩
            refine ⟨_, rfl, _, _, rfl, rfl, _, rfl, ite2 (fun _ => ?_) (fun _ => ?_)⟩
            · refine ⟨.ref D, rfl, .inl ⟨rfl, _, .inl (.inl hD4)⟩, _, rfl, .inl ⟨_, rfl, ?_⟩⟩
              refine ⟨_, _, rfl, rfl, (by show (0 : Int) < 1000; decide), D, _, _, rfl, rfl, hD4, small5 (by rw [List.length_map]; omega), ?_⟩
              exact ⟨_, rfl, _, _, rfl, rfl, ⟨by decide, by decide⟩, _, _, _, es ++ [c % 1000], rfl, appd _ hD4 sm4, by rw [upd_same, List.map_append]; rfl, by rw [List.length_append]; simp only [List.length_singleton]; omega⟩
            · exact ⟨_, _, _, es, rfl, sm4, hD4, by omega⟩
          · rintro σ H4 ⟨x6, x7, c, es, rfl, sm4, hD4, few4⟩
            exact ⟨_, _, _, _, es, rfl, sm4, hD4, by omega⟩
        · -- twelve turns
          refine ⟨_, rfl, _, _, rfl, rfl, .inr ⟨by decide, by decide⟩, _, rfl, _, _, rfl, rfl, .inr ⟨by decide, by decide⟩, _, _, rfl, rfl, _, _, rfl, rfl, .inl ⟨_, rfl, ?_⟩⟩
          refine ⟨_, _, rfl, rfl, (by show (0 : Int) < 2147483399; decide), ?_⟩
          refine ⟨12, rfl, by decide, by decide, ?_⟩
          refine for_range (lo := 0) (n := 12) (fun j σ H4 => ∃ (x5 x6 : Option V) (c : Int) (es : List Int), σ = [some (.ref l), some (.int (a : Nat)), some (.int (b : Nat)), some (.ref D), some (.int ((a : Int) + i)), x5, x6, some (.int c)] ∧
            Same H H4 ∧ H4 D = some (.lst (es.map V.int)) ∧ es.length ≤ ds.length + j) ⟨_, _, _, ds, rfl, sm, hD, Nat.le_refl _⟩ ?_ ?_
          · rintro j σ H4 hj ⟨x5, x6, c, es, rfl, sm4, hD4, few4⟩
            refine ⟨_, rfl, _, _, rfl, rfl, .inr ⟨by decide, by decide⟩, _, rfl, _, _, rfl, rfl, .inl ⟨by decide, by decide⟩, _, _, rfl, rfl, _, _, rfl, rfl, .inl ⟨_, rfl, ?_⟩⟩
            refine ⟨_, _, rfl, rfl, (by show (0 : Int) < 2147483563; decide), ?_⟩
            refine ⟨.ref D, rfl, .inl ⟨rfl, _, .inl (.inl hD4)⟩, _, rfl, _, _, rfl, rfl, ⟨by decide, by decide⟩, .inl ⟨_, rfl, ?_⟩⟩
            refine ⟨_, _, rfl, rfl, (by show (0 : Int) < 1000; decide), D, _, _, rfl, rfl, hD4, small5 (by rw [List.length_map]; omega), ?_⟩
            exact ⟨_, _, _, es ++ [_], rfl, appd _ hD4 sm4, by rw [upd_same, List.map_append]; rfl, by rw [List.length_append]; simp only [List.length_singleton]; omega⟩
          · rintro σ H4 ⟨x5, x6, c, es, rfl, sm4, hD4, few4⟩
            exact ⟨_, _, _, _, es, rfl, sm4, hD4, by omega⟩
      · skip
        refine ⟨_, rfl, _, _, rfl, rfl, _, rfl, ite2 (fun _ => ?_) (fun _ => ?_)⟩
        · -- sixty turns
          refine ⟨60, rfl, by decide, by decide, ?_⟩
          refine for_range (lo := 0) (n := 60) (fun j σ H4 => ∃ (x6 x7 : Option V) (c : Int) (es : List Int), σ = [some (.ref l), some (.int (a : Nat)), some (.int (b : Nat)), some (.ref D), some (.int ((a : Int) + i)), some (.int c), x6, x7] ∧
            Same H H4 ∧ H4 D = some (.lst (es.map V.int)) ∧ es.length ≤ ds.length + j) ⟨_, _, _, ds, rfl, sm, hD, Nat.le_refl _⟩ ?_ ?_
          · rintro j σ H4 hj ⟨x6, x7, c, es, rfl, sm4, hD4, few4⟩
            refine ⟨_, rfl, _, _, rfl, rfl, _, rfl, ite2 (fun _ => ?_) (fun _ => ?_)⟩
            · refine ⟨.ref D, rfl, .inl ⟨rfl, _, .inl (.inl hD4)⟩, _, rfl, .inl ⟨_, rfl, ?_⟩⟩
              refine ⟨_, _, rfl, rfl, (by show (0 : Int) < 1000; decide), D, _, _, rfl, rfl, hD4, small5 (by rw [List.length_map]; omega), ?_⟩
              exact ⟨_, rfl, _, _, rfl, rfl, ⟨by decide, by decide⟩, _, _, _, es ++ [c % 1000], rfl, appd _ hD4 sm4, by rw [upd_same, List.map_append]; rfl, by rw [List.length_append]; simp only [List.length_singleton]; omega⟩
            · exact ⟨_, _, _, es, rfl, sm4, hD4, by omega⟩
          · rintro σ H4 ⟨x6, x7, c, es, rfl, sm4, hD4, few4⟩
            exact ⟨_, _, _, _, es, rfl, sm4, hD4, by omega⟩
        · -- twelve turns
          refine ⟨_, rfl, _, _, rfl, rfl, .inr ⟨by decide, by decide⟩, _, rfl, _, _, rfl, rfl, .inr ⟨by decide, by decide⟩, _, _, rfl, rfl, _, _, rfl, rfl, .inl ⟨_, rfl, ?_⟩⟩
          refine ⟨_, _, rfl, rfl, (by show (0 : Int) < 2147483399; decide), ?_⟩
          refine ⟨12, rfl, by decide, by decide, ?_⟩
          refine for_range (lo := 0) (n := 12) (fun j σ H4 => ∃ (x5 x6 : Option V) (c : Int) (es : List Int), σ = [some (.ref l), some (.int (a : Nat)), some (.int (b : Nat)), some (.ref D), some (.int ((a : Int) + i)), x5, x6, some (.int c)] ∧
            Same H H4 ∧ H4 D = some (.lst (es.map V.int)) ∧ es.length ≤ ds.length + j) ⟨_, _, _, ds, rfl, sm, hD, Nat.le_refl _⟩ ?_ ?_
          · rintro j σ H4 hj ⟨x5, x6, c, es, rfl, sm4, hD4, few4⟩
            refine ⟨_, rfl, _, _, rfl, rfl, .inr ⟨by decide, by decide⟩, _, rfl, _, _, rfl, rfl, .inl ⟨by decide, by decide⟩, _, _, rfl, rfl, _, _, rfl, rfl, .inl ⟨_, rfl, ?_⟩⟩
            refine ⟨_, _, rfl, rfl, (by show (0 : Int) < 2147483563; decide), ?_⟩
            refine ⟨.ref D, rfl, .inl ⟨rfl, _, .inl (.inl hD4)⟩, _, rfl, _, _, rfl, rfl, ⟨by decide, by decide⟩, .inl ⟨_, rfl, ?_⟩⟩
            refine ⟨_, _, rfl, rfl, (by show (0 : Int) < 1000; decide), D, _, _, rfl, rfl, hD4, small5 (by rw [List.length_map]; omega), ?_⟩
            exact ⟨_, _, _, es ++ [_], rfl, appd _ hD4 sm4, by rw [upd_same, List.map_append]; rfl, by rw [List.length_append]; simp only [List.length_singleton]; omega⟩
          · rintro σ H4 ⟨x5, x6, c, es, rfl, sm4, hD4, few4⟩
            exact ⟨_, _, _, _, es, rfl, sm4, hD4, by omega⟩
    · rintro σ H3 ⟨y4, y5, y6, y7, ds, rfl, sm, hD, few⟩
      exact ⟨.ref D, rfl, q H3 D ds sm nD hD (by omega)⟩
end
end K61

namespace K61
open PySem PySem.Spec PyProof.Rows L2 Pg
theorem seqT_same {K : PySem.W.Frag} {H H' : Hp} {a : Addr} {xs : List V} (e : Same H H') (h : SqT K H a xs) : SqT K H' a xs := by
  rcases h with (h | ⟨o, h⟩) | h
  · exact .inl (.inl (e _ _ h))
  · exact .inl (.inr ⟨o, e _ _ h⟩)
  · exact .inr h
theorem yes {σ : L2.St} {H : Hp} {Q : Bool → Hp → Prop} (h : Q true H) : tYes σ H Q := h
theorem Drew.pre {b : Addr} {H H1 H2 : Hp} (s : Same H H1) (x : Drew b H1 H2) : Drew b H H2 := ⟨x.box, fun d e => x.dig d (e.same s), fun p o n e => x.keep p o n (s _ _ e)⟩
theorem at_in {xs : List V} {r : Int} (h0 : 0 ≤ r) (h1 : r < xs.length) : ∃ v, v ∈ xs ∧ atI xs r = some v := by
  obtain ⟨j, rfl⟩ := Int.eq_ofNat_of_zero_le h0
  have lt : j < xs.length := by omega
  exact ⟨xs[j], List.getElem_mem lt, atI_nat (List.getElem?_eq_getElem lt)⟩
/-- plain signs, without the percent sign -/
def plainB (c : Nat) : Bool := decide (32 ≤ c ∧ c ≤ 126 ∧ c ≠ 37)
/-- .. and without the double quote -/
def safeB (c : Nat) : Bool := plainB c && (decide (c ≠ 34))
def Plain (z : Str) : Prop := ∀ c ∈ z.cps.toList, plainB c = true
def Safe (z : Str) : Prop := ∀ c ∈ z.cps.toList, safeB c = true
theorem Safe.plain {z : Str} (h : Safe z) : Plain z := fun c hc => (Bool.and_eq_true_iff.mp (h c hc)).1
theorem app_codes (x y : Str) : (x ++ y).cps.toList = x.cps.toList ++ y.cps.toList := by
  show (x.cps ++ y.cps).toList = _
  rw [Array.toList_append]
theorem Safe.app {x y : Str} (a : Safe x) (b : Safe y) : Safe (x ++ y) := fun c hc => by
  rw [app_codes] at hc
  rcases List.mem_append.mp hc with h | h
  · exact a c h
  · exact b c h
theorem Plain.app {x y : Str} (a : Plain x) (b : Plain y) : Plain (x ++ y) := fun c hc => by
  rw [app_codes] at hc
  rcases List.mem_append.mp hc with h | h
  · exact a c h
  · exact b c h
theorem len_app (x y : Str) : (x ++ y).length = x.length + y.length := by
  show (x.cps ++ y.cps).size = _
  rw [Array.size_append]
  rfl
theorem len_codes (z : Str) : z.length = z.cps.toList.length := by simp [Str.length]
theorem safe_of {z : Str} (h : z.cps.toList.all safeB = true) : Safe z := fun c hc => List.all_eq_true.mp h c hc
/-- the first n signs -/
theorem cut_to (z : Str) (n : Nat) : (cutS z none (some (n : Int))).cps.toList = z.cps.toList.take n := by
  unfold cutS
  rw [HT.sIx_none, show HT.sIx z.length z.length (some (n : Int)) = min n z.length from HT.sIx_nat z.length z.length n]
  show List.take (min n z.length - 0) (List.drop 0 z.cps.toList) = _
  rw [List.drop_zero, Nat.sub_zero, len_codes, List.take_eq_take_iff]
  omega
theorem sizeLine_big {n : Nat} (h : n ≤ 1000000) : n ≤ sizeLine := Nat.le_trans h (by decide)
/-- data that repr shows -/
structure Shows (d : PyData) : Prop where
  ok : d.showable = true
  nd : d.hasDict = false
  dep : d.depth ≤ 40
  sz : d.shown.length ≤ sizeLine
def spAlike (K : PySem.W.Frag) : Sp := fun vs H Q _ => ∃ (x y : V) (d e : PyData), vs = [x, y] ∧ Dp K H x d ∧ Dp K H y e ∧ Shows d ∧ Shows e ∧ Q (.bl (decide (d.shown = e.shown))) H
theorem shows_int {i : Int} (h1 : -999999999999 ≤ i) (h2 : i ≤ 999999999999) : Shows (.int i) := by
  refine ⟨?_, rfl, by show 0 ≤ 40; decide, Nat.le_trans (PyData.shown_int_le2 h1 h2) (by decide)⟩
  show decide (i.natAbs.log2 < 1920) = true
  refine decide_eq_true ?_
  by_cases z : i.natAbs = 0
  · rw [z]
    decide
  · refine (Nat.log2_lt z).mpr (Nat.lt_of_lt_of_le (show i.natAbs < 2 ^ 40 by omega) (Nat.pow_le_pow_right (n := 2) (by decide) (by decide)))
theorem shows_int2 {i j : Int} (h1 : -999999999999 ≤ i) (h2 : i ≤ 999999999999) (h3 : -999999999999 ≤ j) (h4 : j ≤ 999999999999) : Shows (.tuple [.int i, .int j]) := by
  have a := (shows_int h1 h2).ok
  have b := (shows_int h3 h4).ok
  refine ⟨?_, rfl, by show 1 ≤ 40; decide, PyData.shown_fits_bulk (B := 13) (by decide) (by decide) ?_ (by show 0 + 1 + (0 + 1 + 0) ≤ 2 ^ 20; decide)⟩
  · simp only [PyData.showable, PyData.showableAll] at a b ⊢
    rw [a, b]
    rfl
  · simp only [PyData.leavesShort, PyData.leavesShortAll, PyData.shown_int_le2 h1 h2, PyData.shown_int_le2 h3 h4, decide_true, Bool.and_true]
section
variable {P : Program} {w : World} {K : PySem.W.Frag} {mg : Str → Option Value} {base : Heap} {f : Addr} {fd : FuncData}
theorem ok_law_alike (F : Fun K "_law_alike" "_law_alike" s_law_alike f fd) (z : Z mg) : FnG P w K mg base 1 f fd ["one", "two"] (spAlike K) := by
  refine FnG.mk' F sc_law_alike (fun vs H Q E h => ?_) (fun cdv A outer s H vs Q gd hr h => ?_)
  · obtain ⟨x, y, d, e, rfl, _⟩ := h
    rfl
  · obtain ⟨x, y, d, e, rfl, hd, he, gd1, gd2, q⟩ := h
    refine ⟨_, (pss_one (ps_ret (pe_cmpR op_eq (pe_callB (call_reprD gd hr.units) (by rfl) z.repr (by decide +kernel) (pa_cons (pv 0) pa_nil)) (pe_callB (call_reprD gd hr.units) (by rfl) z.repr (by decide +kernel) (pa_cons (pv 1) pa_nil)) (nomark _)))), ?_⟩
    refine ⟨x, rfl, x, d, rfl, hd, gd1.ok, gd1.nd, gd1.dep, gd1.sz, y, rfl, y, e, rfl, he, gd2.ok, gd2.nd, gd2.dep, gd2.sz, rfl, ?_⟩
    have eq : decide (V.str d.shown = V.str e.shown) = decide (d.shown = e.shown) := by
      by_cases h : d.shown = e.shown
      · rw [decide_eq_true h, h]
        exact decide_eq_true rfl
      · rw [decide_eq_false h]
        exact decide_eq_false fun e => h (V.str.inj e)
    show Q (.bl (decide (V.str d.shown = V.str e.shown))) H
    rw [eq]
    exact q
end
end K61

namespace K61
open PySem PySem.Spec PyProof.Rows L2 Pg
theorem names8_ok : ∀ z ∈ names8, z.length ≤ 2 ∧ z.cps.toList.all safeB = true := by decide +kernel
/-- what a text is made of -/
def parts (nm : Str) : List Str := [("<" ++ nm) ++ ">", ("<" ++ nm) ++ ">", ("<@" ++ nm) ++ ">", ("<@" ++ nm) ++ ">", ("[" ++ nm) ++ "]", ("[" ++ nm) ++ "]", "x", nm, "y z", "!", "<", "[>]"]
theorem parts_ok : ∀ nm ∈ names8, ∀ z ∈ parts nm, z.length ≤ 5 ∧ z.cps.toList.all safeB = true := by decide +kernel
theorem sum1 {x nm : Str} (hx : x.length ≤ 2) (h : nm.length ≤ 2) : x.length + nm.length ≤ sizeLine := sizeLine_big (by omega)
theorem sum2 {x nm y : Str} (hx : x.length ≤ 2) (h : nm.length ≤ 2) (hy : y.length ≤ 1) : (x ++ nm).length + y.length ≤ sizeLine := by
  rw [len_app]
  exact sizeLine_big (by omega)
def spText : Sp := fun vs H Q _ => ∃ (b : Addr) (most : Nat), vs = [.ref b, .int (most : Nat)] ∧ most ≤ 100 ∧ Box H b ∧ ∀ (z : Str) (H' : Hp), z.length ≤ 60 → Safe z → Drew b H H' → Q (.str z) H'
/-- a name: 1 to 6 letters -/
def nameB (z : Str) : Bool := z.cps.toList.all (fun c => decide (97 ≤ c ∧ c ≤ 122)) && decide (1 ≤ z.length ∧ z.length ≤ 6)
def spIsName : Sp := fun vs H Q _ => ∃ z : Str, vs = [.str z] ∧ z.length ≤ 1000 ∧ Q (.bl (nameB z)) H
def alphabet : Str := "abcdefghijklmnopqrstuvwxyz"
theorem alphabet_has : ∀ c : Nat, c ∈ alphabet.cps.toList ↔ 97 ≤ c ∧ c ≤ 122 := by
  have e : alphabet.cps.toList = List.range' 97 26 := by decide +kernel
  intro c
  rw [e, List.mem_range'_1]
  omega
section
variable {P : Program} {w : World} {K : PySem.W.Frag} {mg : Str → Option Value} {base : Heap} {f : Addr} {fd : FuncData}
theorem ok_law_name (F : Fun K "_law_name" "_law_name" s_law_name f fd) (z : Z mg) (claw_draw : Cal P w K mg base "_law_draw" 1 ["box", "many"] spDraw) : FnOk P w K mg base CX0 2 f fd ["box"] spName := by
  refine F.ok sc_law_name (fun vs H Q E h => ?_) (fun cdv A outer s H vs Q E hr h => ?_)
  · obtain ⟨b, rfl, _⟩ := h
    rfl
  · obtain ⟨b, rfl, hb, q⟩ := h
    refine ⟨_, (pss_one (ps_ret (pe_ix ix_list (pe_lst (pa_cons pe_str (pa_cons pe_str (pa_cons pe_str (pa_cons pe_str (pa_cons pe_str (pa_cons pe_str (pa_cons pe_str (pa_cons pe_str pa_nil))))))))) (pe_cal claw_draw (hr.mono (by decide)) (by rfl) (pa_cons (pv 0) (pa_cons pe_int pa_nil))) (fun _ _ => rfl)))), ?_⟩
    refine ⟨by show 8 ≤ sizeLine; decide, fun p np => ?_⟩
    refine ⟨.ref b, rfl, b, 8, rfl, by decide, hb.same (same_new np), fun r H' r0 r1 dr => ?_⟩
    have hp : H' p = some (.lst (names8.map V.str)) := dr.keep p _ (hb.ne np) upd_same
    obtain ⟨v, hv, at_v⟩ := at_in (xs := names8.map V.str) r0 r1
    obtain ⟨z, hz, rfl⟩ := List.mem_map.mp hv
    exact ⟨p, _, _, _, rfl, rfl, .inl (.inl hp), at_v, q z H' hz (dr.pre (same_new np))⟩
end
end K61

namespace K61
open PySem PySem.Spec PyProof.Rows L2 Pg
theorem Drew.put {b L : Addr} {H H' : Hp} {o : HO} (hb : Box H b) (x : Drew b H H') (hL : H L = none) : Drew b H (upd H' L o) := by
  have dg : ∀ d, BoxAt H b d → BoxAt (upd H' L o) b d := fun d e => (x.dig d e).upd (e.ne hL).1 (e.ne hL).2
  obtain ⟨d, e⟩ := hb
  exact ⟨⟨d, dg d e⟩, dg, fun p u n h => by rw [upd_ne (ne_of_none h hL)]; exact x.keep p u n h⟩
theorem Drew.fresh {b t : Addr} {H H' : Hp} (x : Drew b H H') (nt : H' t = none) : H t = none := by
  cases e : H t with
  | none => rfl
  | some o =>
    by_cases tb : t = b
    · obtain ⟨d, ⟨ds, n, h1, _⟩⟩ := x.box
      rw [tb, h1] at nt
      cases nt
    · rw [x.keep t o tb e] at nt
      cases nt
theorem inV_strs (x : Str) (ys : List Str) : inV (.str x) (ys.map V.str) = decide (x ∈ ys) := by
  unfold inV
  rw [List.any_map, Bool.eq_iff_iff, List.any_eq_true, decide_eq_true_eq]
  constructor
  · rintro ⟨y, hy, e⟩
    have e' : (y == x) = true := e
    rw [← eq_of_beq e']
    exact hy
  · intro h
    exact ⟨x, h, (beq_self_eq_true x : (x == x) = true)⟩
theorem flat_strs (ys : List Str) : (ys.map V.str).all flatV = true := by
  rw [List.all_map, List.all_eq_true]
  intro x _
  rfl
/-- drawn pages: names, each once -/
def spPagesL : Sp := fun vs H Q _ => ∃ b : Addr, vs = [.ref b] ∧ Box H b ∧ ∀ (t : Addr) (xs : List Str) (H' : Hp), H t = none → H' t = some (.tup (xs.map V.str)) → xs.Nodup → (∀ x ∈ xs, x ∈ names8) → xs.length ≤ 6 → Drew b H H' → Q (.ref t) H'
/-- a dict of texts -/
def DictS (H : Hp) (a : Addr) (kvs : List (Str × Str)) : Prop := H a = some (.dK (enc V.str kvs))
/-- drawn sources -/
def spSources : Sp := fun vs H Q _ => ∃ (b : Addr) (most : Nat), vs = [.ref b, .int (most : Nat)] ∧ most ≤ 100 ∧ Box H b ∧ ∀ (d : Addr) (kvs : List (Str × Str)) (H' : Hp), H d = none → DictS H' d kvs → (kvs.map (·.1)).Nodup → (∀ p ∈ kvs, p.1 ∈ names8 ∧ p.2.length ≤ 60 ∧ Safe p.2) → Drew b H H' → Q (.ref d) H'
section
variable {P : Program} {w : World} {K : PySem.W.Frag} {mg : Str → Option Value} {base : Heap} {f : Addr} {fd : FuncData}
theorem ok_law_pages (F : Fun K "_law_pages" "_law_pages" s_law_pages f fd) (z : Z mg) (claw_draw : Cal P w K mg base "_law_draw" 1 ["box", "many"] spDraw) (claw_name : Cal P w K mg base "_law_name" 2 ["box"] spName) :
    FnOk P w K mg base CX0 3 f fd ["box"] spPagesL := by
  refine F.ok sc_law_pages (fun vs H Q E h => ?_) (fun cdv A outer s H vs Q E hr h => ?_)
  · obtain ⟨b, rfl, _⟩ := h
    rfl
  · obtain ⟨b, rfl, hb, q⟩ := h
    refine ⟨_, (pss_cons (ps_set (i := 1) sc_law_pages.nd rfl (Or.inl rfl) (pe_lst pa_nil))
      (pss_cons (ps_for PassesOwn.never rfl (pi_range1 (by rfl) z.range (pa_cons (pe_cal claw_draw (hr.mono (by decide)) (by rfl) (pa_cons (pv 0) (pa_cons pe_int pa_nil))) pa_nil)) (pg_name (i := 2) sc_law_pages.nd rfl (Or.inl rfl))
        (pss_cons (ps_set (i := 3) sc_law_pages.nd rfl (Or.inl rfl) (pe_cal claw_name (hr.mono (by decide)) (by rfl) (pa_cons (pv 0) pa_nil)))
        (pss_one (ps_if (pt_cmpR op_notIn_seq (pv 3) (pv 1) (by rfl))
          (pss_one (ps_expr (pe_bm PySem.F.plainAttrs_list PySem.F.slot_list_append PySem.F.type_list_append mt_append (pv 1) (pa_cons (pv 3) pa_nil))))
          pss_nil))))
      (pss_one (ps_ret (pe_callTy call_tuple_of (by rfl) z.tuple (by decide +kernel) (pa_cons (pv 1) pa_nil)))))), ?_⟩
    refine ⟨Nat.zero_le _, fun L nL => ?_⟩
    have d0 : Drew b H (upd H L (.lst [])) := (Drew.of hb (Same.refl _)).put hb nL
    refine ⟨.ref b, rfl, b, 7, rfl, by decide, d0.box, fun n H1 n0 n1 d1 => ⟨n, rfl, by omega, by omega, ?_⟩⟩
    refine for_range (lo := 0) (n := n.toNat) (fun j σ H3 => ∃ (y2 y3 : Option V) (xs : List Str), σ = [some (.ref b), some (.ref L), y2, y3] ∧ H3 L = some (.lst (xs.map V.str)) ∧ xs.Nodup ∧ (∀ x ∈ xs, x ∈ names8) ∧ xs.length ≤ j ∧ Drew b H H3)
      ⟨_, _, [], rfl, d1.keep L _ (hb.ne nL) upd_same, List.nodup_nil, (by intro x hx; cases hx), Nat.le_refl _, d0.trans d1⟩ ?_ ?_
    · rintro j σ H3 hj ⟨y2, y3, xs, rfl, hL, nd, all, le, d3⟩
      refine ⟨.ref b, rfl, b, rfl, d3.box, fun nm H4 hn d4 => ?_⟩
      have hL4 := d4.keep L _ (hb.ne nL) hL
      refine ⟨_, rfl, .ref L, rfl, L, _, rfl, .inl (.inl (.inl hL4)), rfl, flat_strs xs, _, rfl, ?_⟩
      rw [inV_strs]
      refine ite2 (fun e => ?_) (fun e => ?_)
      · have nin : nm ∉ xs := by simpa using e
        refine ⟨.ref L, rfl, .inl ⟨rfl, _, .inl (.inl hL4)⟩, _, rfl, L, _, _, rfl, rfl, hL4, by rw [List.length_map]; exact small5 (by omega), ?_⟩
        refine ⟨_, _, xs ++ [nm], rfl, by rw [upd_same, List.map_append]; rfl, ?_, ?_, by rw [List.length_append]; show xs.length + 1 ≤ _; omega, (d3.trans d4).put hb nL⟩
        · rw [List.nodup_append]
          exact ⟨nd, by simp, fun a ha c hc => by rw [List.mem_singleton.mp hc]; rintro rfl; exact nin ha⟩
        · intro x hx
          rcases List.mem_append.mp hx with h | h
          · exact all x h
          · rw [List.mem_singleton.mp h]; exact hn
      · exact ⟨_, _, xs, rfl, hL4, nd, all, by omega, d3.trans d4⟩
    · rintro σ H3 ⟨y2, y3, xs, rfl, hL, nd, all, le, d3⟩
      refine ⟨.ref L, rfl, L, _, rfl, .inl ⟨.inl (.inl hL), fun t nt => ?_⟩⟩
      have nt0 := d3.fresh nt
      exact q t xs _ nt0 upd_same nd all (by omega) (d3.put hb nt0)
end
end K61

namespace K61
open PySem PySem.Spec PyProof.Rows L2 Pg
/-! ### a mirror, by what is known -/
structure MVer where
  n : Int
  c : Int
  t : Int
  pages : List (Str × Str)
  bh : PyData
def pairD (p : Str × Str) : PyData := .tuple [.str p.1, .str p.2]
def MVer.d (v : MVer) : PyData := .tuple [.int v.n, .int v.c, .int v.t, .tuple (v.pages.map pairD), v.bh]
def MVer.zero : MVer := ⟨0, 0, 0, [], .tuple []⟩
structure Mir where
  tx : Int → Str → Option Str
  ct : Int → Option (List Str × PyData)
  tm : Int → Option (Int → Option Int)
  sh : MVer
def Mir.zero : Mir := ⟨fun _ _ => none, fun _ => none, fun _ => none, MVer.zero⟩
def upF {β : Type} (f : Int → Option β) (n : Int) (v : β) : Int → Option β := fun j => if j = n then some v else f j
/-- a dict with numbers as keys -/
def DI (H : Hp) (a : Addr) (f : Int → Option V) (k : Nat) : Prop := ∃ kvs : List (Key × V), H a = some (.dK kvs) ∧ kvs.length ≤ k ∧ (∀ kv ∈ kvs, ∃ n : Int, kv.1 = Sum.inl n) ∧ ∀ n : Int, valV kvs (Sum.inl n) = f n
/-- a dict with a number and a text as key -/
def DX (H : Hp) (a : Addr) (f : Int → Str → Option Str) (k : Nat) : Prop := ∃ kvs : List (List Key × V), H a = some (.dT kvs) ∧ kvs.length ≤ k ∧ ∀ (n : Int) (s : Str), valV kvs [Sum.inl n, Sum.inr s] = (f n s).map V.str
theorem putK_mem {κ : Type} [DecidableEq κ] {kvs : List (κ × V)} {k : κ} {v : V} {kv : κ × V} (h : kv ∈ putK kvs k v) : kv.1 = k ∨ ∃ y, (kv.1, y) ∈ kvs := by
  unfold putK at h
  split at h
  · obtain ⟨z, hz, rfl⟩ := List.mem_map.mp h
    split
    · rename_i e; exact .inl e
    · exact .inr ⟨z.2, hz⟩
  · rcases List.mem_append.mp h with h | h
    · exact .inr ⟨kv.2, h⟩
    · rw [List.mem_singleton.mp h]; exact .inl rfl
theorem DI.put {H : Hp} {a : Addr} {f : Int → Option V} {k : Nat} {kvs : List (Key × V)} (l : kvs.length ≤ k) (i : ∀ kv ∈ kvs, ∃ n : Int, kv.1 = Sum.inl n) (g : ∀ n : Int, valV kvs (Sum.inl n) = f n) (n : Int) (v : V) :
    DI (upd H a (.dK (putK kvs (Sum.inl n) v))) a (upF f n v) (k + 1) := by
  refine ⟨_, upd_same, Nat.le_trans (length_putK kvs (Sum.inl n) v) (by omega), fun kv h => ?_, fun j => ?_⟩
  · rcases putK_mem h with e | ⟨y, e⟩
    · exact ⟨n, e⟩
    · obtain ⟨n', hn⟩ := i (kv.1, y) e
      exact ⟨n', hn⟩
  · rw [valV_put, g]
    unfold upF
    by_cases e : j = n
    · rw [if_pos e, if_pos (by rw [e])]
    · rw [if_neg e, if_neg fun h => e (Sum.inl.inj h)]
theorem DI.mono {H : Hp} {a : Addr} {f : Int → Option V} {k j : Nat} (x : DI H a f k) (h : k ≤ j) : DI H a f j :=
  let ⟨kvs, h1, l, i, g⟩ := x
  ⟨kvs, h1, Nat.le_trans l h, i, g⟩
theorem DX.mono {H : Hp} {a : Addr} {f : Int → Str → Option Str} {k j : Nat} (x : DX H a f k) (h : k ≤ j) : DX H a f j :=
  let ⟨kvs, h1, l, g⟩ := x
  ⟨kvs, h1, Nat.le_trans l h, g⟩
theorem DI.keep {H H' : Hp} {a : Addr} {f : Int → Option V} {k : Nat} (x : DI H a f k) (e : ∀ o, H a = some o → H' a = some o) : DI H' a f k :=
  let ⟨kvs, h1, l⟩ := x
  ⟨kvs, e _ h1, l⟩
theorem DX.keep {H H' : Hp} {a : Addr} {f : Int → Str → Option Str} {k : Nat} (x : DX H a f k) (e : ∀ o, H a = some o → H' a = some o) : DX H' a f k :=
  let ⟨kvs, h1, l⟩ := x
  ⟨kvs, e _ h1, l⟩
theorem DI.empty {H : Hp} {a : Addr} (h : H a = some (.dK [])) : DI H a (fun _ => none) 0 := ⟨[], h, Nat.le_refl _, fun kv h => (by cases h), fun _ => rfl⟩
def contD (c : List Str × PyData) : PyData := .tuple [.tuple (c.1.map PyData.str), c.2]
/-- names and what stays behind, within bounds -/
structure ContOk (c : List Str × PyData) : Prop where
  few : c.1.length ≤ 20
  ok : ∀ x ∈ c.1, Codes x ∧ x.length ≤ 20
  bh : Pd 6 3000 c.2
  tup : ∃ ds, c.2 = .tuple ds
theorem names_pd {l : List Str} (h : ∀ x ∈ l, Codes x ∧ x.length ≤ 20) (f : l.length ≤ 20) : PdA 0 (20 * (20 + 1)) (l.map PyData.str) := PdA.all (fun d hd => by
  obtain ⟨x, hx, rfl⟩ := List.mem_map.mp hd
  exact Pd.str (h x hx).1 (h x hx).2) (by rw [List.length_map]; exact f)
theorem cont_pd {c : List Str × PyData} (h : ContOk c) : Pd 7 4000 (contD c) :=
  ((PdA.cons ((names_pd h.ok h.few).tup.mono (by decide) (Nat.le_refl _)) (PdA.cons h.bh PdA.nil)).tup).mono (by decide) (by decide)
/-- the version that is shown, at v -/
def ShownAt (K : PySem.W.Frag) (H : Hp) (v : V) (x : MVer) : Prop := ∃ (s pg : Addr) (vb : V) (ob : Obj) (ps : List Addr), v = .ref s ∧ H s = some (.tup [.int x.n, .int x.c, .int x.t, .ref pg, vb]) ∧ H pg = some (.frz ob (.tup (ps.map V.ref))) ∧ ob.dict = none ∧
  Paired (fun (q : Addr) (kv : Str × Str) => SqT K H q [.str kv.1, .str kv.2]) ps x.pages ∧ Dp K H vb x.bh ∧ noL x.bh = true
theorem pairs_dp {K : PySem.W.Frag} {H : Hp} {ps : List Addr} {l : List (Str × Str)} (h : Paired (fun (q : Addr) (kv : Str × Str) => SqT K H q [.str kv.1, .str kv.2]) ps l) : DpAll K H (ps.map V.ref) (l.map pairD) := by
  induction h with
  | nil => exact .nil
  | cons h _ ih => exact .cons (.tup h (.cons (.str _) (.cons (.str _) .nil))) ih
theorem ShownAt.dp {K : PySem.W.Frag} {H : Hp} {v : V} {x : MVer} (s : ShownAt K H v x) : Dp K H v x.d := by
  obtain ⟨s, pg, vb, ob, ps, rfl, h1, h2, _, h3, h4, _⟩ := s
  exact .tup (.inl (.inl h1)) (.cons (.int _) (.cons (.int _) (.cons (.int _) (.cons (.tup (.inl (.inr ⟨ob, h2⟩)) (pairs_dp h3)) (.cons h4 .nil)))))
/-- things that change -/
def MutD : HO → Prop
  | .ins _ _ _ => True
  | .dK _ => True
  | .dT _ => True
  | _ => False
/-- all but a mirror is as it was -/
structure ChM (fp fp' : Addr → Prop) (H H' : Hp) : Prop where
  keep : ∀ q o, ¬ fp q → H q = some o → H' q = some o
  new : ∀ q, fp' q → fp q ∨ H q = none
  mono : ∀ q, fp q → fp' q
def LiveM (fp : Addr → Prop) (H : Hp) : Prop := ∀ q, fp q → ∃ o, H q = some o ∧ MutD o
theorem ChM.of {fp : Addr → Prop} {H H' : Hp} (s : Same H H') : ChM fp fp H H' := ⟨fun q o _ e => s _ _ e, fun q h => .inl h, fun q h => h⟩
theorem back0 {H H' : Hp} {q : Addr} (s : Same H H') (n : H' q = none) : H q = none := by
  cases w : H q with
  | none => rfl
  | some o => rw [s _ _ w] at n; cases n
theorem ChM.trans {fp fp1 fp2 : Addr → Prop} {H H1 H2 : Hp} (a : ChM fp fp1 H H1) (b : ChM fp1 fp2 H1 H2) : ChM fp fp2 H H2 := by
  refine ⟨fun q o n e => ?_, fun q h => ?_, fun q h => b.mono q (a.mono q h)⟩
  · refine b.keep q o (fun h => ?_) (a.keep q o n e)
    rcases a.new q h with h | h
    · exact n h
    · rw [e] at h; cases h
  · rcases b.new q h with h | h
    · exact a.new q h
    · by_cases hq : fp q
      · exact .inl hq
      · refine .inr ?_
        cases w : H q with
        | none => rfl
        | some o => rw [a.keep q o hq w] at h; cases h
theorem ChM.pre {fp fp' : Addr → Prop} {H H1 H2 : Hp} (s : Same H H1) (c : ChM fp fp' H1 H2) : ChM fp fp' H H2 := (ChM.of s).trans c
theorem ChM.same {fp fp' : Addr → Prop} {H H1 H2 : Hp} (c : ChM fp fp' H H1) (s : Same H1 H2) : ChM fp fp' H H2 := c.trans (ChM.of s)
theorem ChM.keepT {K : PySem.W.Frag} {fp fp' : Addr → Prop} {H H' : Hp} (c : ChM fp fp' H H') (l : LiveM fp H) : KeepT K H H' := by
  rintro a xs ((h | ⟨o, h⟩) | h)
  · refine .inl (.inl (c.keep a _ (fun f => ?_) h))
    obtain ⟨o, e, m⟩ := l a f
    rw [h] at e; cases e; exact m
  · refine .inl (.inr ⟨o, c.keep a _ (fun f => ?_) h⟩)
    obtain ⟨o, e, m⟩ := l a f
    rw [h] at e; cases e; exact m
  · exact .inr h
theorem ShownAt.keep {K : PySem.W.Frag} {H H' : Hp} {v : V} {x : MVer} (s : ShownAt K H v x) (k : ∀ q o, H q = some o → ¬ MutD o → H' q = some o) (kt : KeepT K H H') : ShownAt K H' v x := by
  obtain ⟨s, pg, vb, ob, ps, e, h1, h2, hd, h3, h4, h5⟩ := s
  exact ⟨s, pg, vb, ob, ps, e, k _ _ h1 (fun h => h), k _ _ h2 (fun h => h), hd, Paired.mapP h3 fun _ _ h => kt _ _ h, Dp.keepT kt _ _ h5 h4, h5⟩
/-- a mirror at p: its own places are fp -/
structure MirAt (K : PySem.W.Frag) (C : Addr) (H : Hp) (p : Addr) (fp : Addr → Prop) (m : Mir) (k : Nat) (dx aT aC aM : Addr) (sv : V) (fC fM : Int → Option V) : Prop where
  hp : H p = some (.ins C dx [(("_texts" : Str), .ref aT), (("_contents" : Str), .ref aC), (("_times" : Str), .ref aM), (("_shown" : Str), sv)])
  hT : DX H aT m.tx k
  hC : DI H aC fC k
  hM : DI H aM fM k
  c0 : ∀ n, fC n = none ↔ m.ct n = none
  cs : ∀ n v, fC n = some v → ∃ c, m.ct n = some c ∧ ContOk c ∧ Dp K H v (contD c)
  t0 : ∀ n, fM n = none ↔ m.tm n = none
  ts : ∀ n v, fM n = some v → ∃ (a : Addr) (g : Int → Option Int), v = .ref a ∧ m.tm n = some g ∧ fp a ∧ a ≠ aC ∧ a ≠ aM ∧ DI H a (fun c => (g c).map V.int) k
  inj : ∀ n j a, fM n = some (.ref a) → fM j = some (.ref a) → n = j
  sh : ShownAt K H sv m.sh
  own : fp p ∧ fp aT ∧ fp aC ∧ fp aM
  ne : aC ≠ aM
  live : LiveM fp H
def MirA (K : PySem.W.Frag) (C : Addr) (H : Hp) (p : Addr) (fp : Addr → Prop) (m : Mir) (k : Nat) : Prop := ∃ dx aT aC aM sv fC fM, MirAt K C H p fp m k dx aT aC aM sv fC fM
theorem MirAt.keep {K : PySem.W.Frag} {C p dx aT aC aM : Addr} {H H' : Hp} {fp : Addr → Prop} {m : Mir} {k : Nat} {sv : V} {fC fM : Int → Option V} (x : MirAt K C H p fp m k dx aT aC aM sv fC fM) (e : ∀ q o, fp q → H q = some o → H' q = some o) (s : ∀ q o, H q = some o → ¬ MutD o → H' q = some o) (kt : KeepT K H H') :
    MirAt K C H' p fp m k dx aT aC aM sv fC fM := by
  obtain ⟨o1, o2, o3, o4⟩ := x.own
  refine ⟨e _ _ o1 x.hp, x.hT.keep fun o => e _ o o2, x.hC.keep fun o => e _ o o3, x.hM.keep fun o => e _ o o4, x.c0, fun n v h => ?_, x.t0, fun n v h => ?_, x.inj, x.sh.keep s kt, x.own, x.ne, fun q h => ?_⟩
  · obtain ⟨c, h1, h2, h3⟩ := x.cs n v h
    exact ⟨c, h1, h2, (cont_pd h2).keep kt h3⟩
  · obtain ⟨a, g, h1, h2, h3, h4, h5, h6⟩ := x.ts n v h
    exact ⟨a, g, h1, h2, h3, h4, h5, h6.keep fun o => e _ o h3⟩
  · obtain ⟨o, h1, h2⟩ := x.live q h
    exact ⟨o, e _ _ h h1, h2⟩
theorem MirAt.same {K : PySem.W.Frag} {C p dx aT aC aM : Addr} {H H' : Hp} {fp : Addr → Prop} {m : Mir} {k : Nat} {sv : V} {fC fM : Int → Option V} (x : MirAt K C H p fp m k dx aT aC aM sv fC fM) (s : Same H H') : MirAt K C H' p fp m k dx aT aC aM sv fC fM :=
  x.keep (fun q o _ e => s _ _ e) (fun q o e _ => s _ _ e) (Same.keepT s)
theorem MirA.same {K : PySem.W.Frag} {C p : Addr} {H H' : Hp} {fp : Addr → Prop} {m : Mir} {k : Nat} (x : MirA K C H p fp m k) (s : Same H H') : MirA K C H' p fp m k :=
  let ⟨dx, aT, aC, aM, sv, fC, fM, y⟩ := x
  ⟨dx, aT, aC, aM, sv, fC, fM, y.same s⟩
def getP (pages : List (Str × Str)) (name : Str) : Option Str := (pages.find? fun p => decide (p.1 = name)).map (·.2)
def spMInit (K : PySem.W.Frag) (C : Addr) : Sp := fun vs H Q _ => ∃ (p dx : Addr), vs = [.ref p] ∧ H p = some (.ins C dx []) ∧ ∀ (H' : Hp) (fp : Addr → Prop), MirA K C H' p fp Mir.zero 0 → (∀ q o, H q = some o → q ≠ p → H' q = some o) → (∀ q, fp q → q = p ∨ H q = none) → Q .non H'
def spMShown (K : PySem.W.Frag) (C : Addr) : Sp := fun vs H Q _ => ∃ (p : Addr) (fp : Addr → Prop) (m : Mir) (k : Nat), vs = [.ref p] ∧ MirA K C H p fp m k ∧ ∀ v, Dp K H v m.sh.d → Q v H
def spMPage (K : PySem.W.Frag) (C : Addr) : Sp := fun vs H Q _ => ∃ (p : Addr) (fp : Addr → Prop) (m : Mir) (k : Nat) (name : Str), vs = [.ref p, .str name] ∧ MirA K C H p fp m k ∧ (m.sh.pages.map (·.1)).Nodup ∧ ∀ H', Same H H' → Q (((getP m.sh.pages name).map V.str).getD .non) H'
section
variable {P : Program} {w : World} {K : PySem.W.Frag} {mg : Str → Option Value} {base : Heap} {f CMirror ulC : Addr} {fd : FuncData}
theorem ok_Mirror_init (F : Fun K "__init__" "Mirror.__init__" s_Mirror_init f fd) (z : Z mg) (T : T_Mirror K mg CMirror) : FnOk P w K mg base CX0 1 f fd ["self"] (spMInit K CMirror) := by
  refine F.ok sc_Mirror_init (fun vs H Q E h => ?_) (fun cdv A outer s H vs Q E hr h => ?_)
  · obtain ⟨p, dx, rfl, _⟩ := h
    rfl
  · obtain ⟨p, dx, rfl, hp, q⟩ := h
    refine ⟨_, (pss_cons (ps_fld (pv 0) pe_dnewT rfl)
      (pss_cons (ps_fld (pv 0) pe_dnewK rfl)
      (pss_cons (ps_fld (pv 0) pe_dnewK rfl)
      (pss_one (ps_fld (pv 0) (pe_tup (pa_cons pe_int (pa_cons pe_int (pa_cons pe_int (pa_cons (pe_tupF pa_nil) (pa_cons (pe_tupF pa_nil) pa_nil)))))) rfl))))), ?_⟩
    intro aT nT
    have np1 : p ≠ aT := ne_of_none hp nT
    refine ⟨_, rfl, p, CMirror, dx, [], rfl, (by rw [upd_ne np1]; exact hp), T.cl, T.n_texts, (by show 0 < 1000; decide), ?_⟩
    generalize eG1 : upd (upd H aT (.dT [])) p (.ins CMirror dx (putF "_texts" (.ref aT) [])) = G1
    have g1 : G1 p = some (.ins CMirror dx [(("_texts" : Str), .ref aT)]) := by rw [← eG1]; exact upd_same
    have t1 : G1 aT = some (.dT []) := by rw [← eG1, upd_ne np1.symm]; exact upd_same
    have k1 : ∀ q o, H q = some o → q ≠ p → G1 q = some o := fun q o e n => by rw [← eG1, upd_ne n, upd_ne (ne_of_none e nT)]; exact e
    clear eG1
    intro aC nC
    have np2 : p ≠ aC := ne_of_none g1 nC
    have TC : aT ≠ aC := ne_of_none t1 nC
    refine ⟨_, rfl, p, CMirror, dx, _, rfl, (by rw [upd_ne np2]; exact g1), T.cl, T.n_contents, (by show 1 < 1000; decide), ?_⟩
    generalize eG2 : upd (upd G1 aC (.dK [])) p (.ins CMirror dx (putF "_contents" (.ref aC) [(("_texts" : Str), .ref aT)])) = G2
    have g2 : G2 p = some (.ins CMirror dx [(("_texts" : Str), .ref aT), (("_contents" : Str), .ref aC)]) := by rw [← eG2]; exact upd_same
    have t2 : G2 aT = some (.dT []) := by rw [← eG2, upd_ne np1.symm, upd_ne TC]; exact t1
    have c2 : G2 aC = some (.dK []) := by rw [← eG2, upd_ne np2.symm]; exact upd_same
    have k2 : ∀ q o, H q = some o → q ≠ p → G2 q = some o := fun q o e n => by
      have := k1 q o e n
      rw [← eG2, upd_ne n, upd_ne (ne_of_none this nC)]; exact this
    clear eG2
    intro aM nM
    have np3 : p ≠ aM := ne_of_none g2 nM
    have TM : aT ≠ aM := ne_of_none t2 nM
    have CM : aC ≠ aM := ne_of_none c2 nM
    refine ⟨_, rfl, p, CMirror, dx, _, rfl, (by rw [upd_ne np3]; exact g2), T.cl, T.n_times, (by show 2 < 1000; decide), ?_⟩
    generalize eG3 : upd (upd G2 aM (.dK [])) p (.ins CMirror dx (putF "_times" (.ref aM) [(("_texts" : Str), .ref aT), (("_contents" : Str), .ref aC)])) = G3
    have g3 : G3 p = some (.ins CMirror dx [(("_texts" : Str), .ref aT), (("_contents" : Str), .ref aC), (("_times" : Str), .ref aM)]) := by rw [← eG3]; exact upd_same
    have t3 : G3 aT = some (.dT []) := by rw [← eG3, upd_ne np1.symm, upd_ne TM]; exact t2
    have c3 : G3 aC = some (.dK []) := by rw [← eG3, upd_ne np2.symm, upd_ne CM]; exact c2
    have m3 : G3 aM = some (.dK []) := by rw [← eG3, upd_ne np3.symm]; exact upd_same
    have k3 : ∀ q o, H q = some o → q ≠ p → G3 q = some o := fun q o e n => by
      have := k2 q o e n
      rw [← eG3, upd_ne n, upd_ne (ne_of_none this nM)]; exact this
    clear eG3
    refine ⟨Nat.zero_le _, fun e1 o1 d1 n1 => ⟨Nat.zero_le _, fun e2 o2 d2 n2 => ⟨by show 5 ≤ sizeLine; decide, fun s ns => ?_⟩⟩⟩
    have s1 := same_new (o := .frz o1 (.tup [])) n1
    have s2 := same_new (o := .frz o2 (.tup [])) n2
    have s3 := same_new (o := .tup [.int 0, .int 0, .int 0, .ref e1, .ref e2]) ns
    have sA := s1.trans (s2.trans s3)
    have he1 := s3 _ _ (s2 _ _ upd_same)
    have he2 := s3 _ _ upd_same
    have hs : (upd (upd (upd G3 e1 (.frz o1 (.tup []))) e2 (.frz o2 (.tup []))) s (.tup [.int 0, .int 0, .int 0, .ref e1, .ref e2])) s = some (.tup [.int 0, .int 0, .int 0, .ref e1, .ref e2]) := upd_same
    replace g3 := sA _ _ g3
    replace t3 := sA _ _ t3
    replace c3 := sA _ _ c3
    replace m3 := sA _ _ m3
    replace k3 : ∀ q o, H q = some o → q ≠ p → (upd (upd (upd G3 e1 (.frz o1 (.tup []))) e2 (.frz o2 (.tup []))) s (.tup [.int 0, .int 0, .int 0, .ref e1, .ref e2])) q = some o := fun q o e n => sA _ _ (k3 q o e n)
    clear s1 s2 s3 sA n1 n2 ns
    generalize upd (upd (upd G3 e1 (.frz o1 (.tup []))) e2 (.frz o2 (.tup []))) s (.tup [.int 0, .int 0, .int 0, .ref e1, .ref e2]) = G4 at *
    refine ⟨_, rfl, p, CMirror, dx, _, rfl, g3, T.cl, T.n_shown, (by show 3 < 1000; decide), ?_⟩
    have off : ∀ {q : Addr} {o : HO}, G4 q = some o → q ≠ p → (upd G4 p (.ins CMirror dx (putF "_shown" (.ref s) [(("_texts" : Str), .ref aT), (("_contents" : Str), .ref aC), (("_times" : Str), .ref aM)]))) q = some o := fun {q o} e n => by rw [upd_ne n]; exact e
    have nts : s ≠ p := fun h => by rw [h, g3] at hs; cases hs
    have nte : e1 ≠ p := fun h => by rw [h, g3] at he1; cases he1
    have nte2 : e2 ≠ p := fun h => by rw [h, g3] at he2; cases he2
    refine q _ (fun q => q = p ∨ q = aT ∨ q = aC ∨ q = aM) ⟨dx, aT, aC, aM, .ref s, fun _ => none, fun _ => none, ?_⟩ (fun q o e n => off (k3 q o e n) n) fun q h => ?_
    · refine ⟨upd_same, ⟨[], off t3 np1.symm, Nat.le_refl _, fun _ _ => rfl⟩, DI.empty (off c3 np2.symm), DI.empty (off m3 np3.symm), fun _ => ⟨fun _ => rfl, fun _ => rfl⟩, fun _ _ h => (by cases h), fun _ => ⟨fun _ => rfl, fun _ => rfl⟩, fun _ _ h => (by cases h), fun _ _ _ h => (by cases h), ?_, ⟨.inl rfl, .inr (.inl rfl), .inr (.inr (.inl rfl)), .inr (.inr (.inr rfl))⟩, CM, fun q h => ?_⟩
      · exact ⟨s, e1, .ref e2, o1, [], rfl, off hs nts, off he1 nte, d1, .nil, .tup (.inl (.inr ⟨o2, off he2 nte2⟩)) .nil, rfl⟩
      · rcases h with rfl | rfl | rfl | rfl
        · exact ⟨_, upd_same, trivial⟩
        · exact ⟨_, off t3 np1.symm, trivial⟩
        · exact ⟨_, off c3 np2.symm, trivial⟩
        · exact ⟨_, off m3 np3.symm, trivial⟩
    · have fr : ∀ a, a ≠ p → (∀ o, H a = some o → False) → H a = none := fun a _ h => by
        cases w : H a with
        | none => rfl
        | some o => exact (h o w).elim
      rcases h with rfl | rfl | rfl | rfl
      · exact .inl rfl
      · exact .inr nT
      · exact .inr (fr _ np2.symm fun o e => by rw [k1 _ _ e np2.symm] at nC; cases nC)
      · exact .inr (fr _ np3.symm fun o e => by rw [k2 _ _ e np3.symm] at nM; cases nM)
theorem ok_Mirror_shown (F : Fun K "shown" "Mirror.shown" s_Mirror_shown f fd) (z : Z mg) (T : T_Mirror K mg CMirror) : FnOk P w K mg base CX0 1 f fd ["self"] (spMShown K CMirror) := by
  refine F.ok sc_Mirror_shown (fun vs H Q E h => ?_) (fun cdv A outer s H vs Q E hr h => ?_)
  · obtain ⟨p, fp, m, k, rfl, _⟩ := h
    rfl
  · obtain ⟨p, fp, m, k, rfl, ⟨dx, aT, aC, aM, sv, fC, fM, x⟩, q⟩ := h
    refine ⟨_, (pss_one (ps_ret (pe_fld (pv 0) rfl))), ?_⟩
    exact ⟨_, rfl, p, CMirror, dx, _, _, rfl, x.hp, T.cl, T.n_shown, rfl, q sv x.sh.dp⟩
theorem merge_nodup : ∀ (kvs acc : List (Key × V)), ((acc ++ kvs).map (·.1)).Nodup → mergeK acc kvs = acc ++ kvs
  | [], acc, _ => by rw [List.append_nil]; rfl
  | kv :: r, acc, h => by
    show mergeK (putK acc kv.1 kv.2) r = _
    have nin : kv.1 ∉ acc.map (·.1) := fun m => by
      rw [List.map_append, List.nodup_append] at h
      exact h.2.2 _ m _ (by rw [List.map_cons]; exact List.mem_cons_self) rfl
    have e : valV acc kv.1 = none := by
      unfold valV
      rw [Option.map_eq_none_iff, List.find?_eq_none]
      intro y hy m
      exact nin (List.mem_map.mpr ⟨y, hy, of_decide_eq_true m⟩)
    rw [putK_new _ e, merge_nodup r (acc ++ [(kv.1, kv.2)]) (by rw [List.append_assoc]; exact h), List.append_assoc]
    rfl
theorem val_pages (name : Str) : ∀ l : List (Str × Str), valV (l.map fun p => ((Sum.inr p.1 : Key), V.str p.2)) (Sum.inr name) = (getP l name).map V.str
  | [] => rfl
  | p :: r => by
    unfold getP
    rw [List.map_cons, List.find?_cons]
    by_cases e : p.1 = name
    · rw [valV_pos (by rw [e]), decide_eq_true e]; rfl
    · rw [valV_neg (fun h => e (Sum.inr.inj h)), decide_eq_false e]
      exact val_pages name r
theorem ok_Mirror_page (F : Fun K "page" "Mirror.page" s_Mirror_page f fd) (z : Z mg) (T : T_Mirror K mg CMirror) : FnOk P w K mg base CX0 1 f fd ["self", "name"] (spMPage K CMirror) := by
  refine F.ok sc_Mirror_page (fun vs H Q E h => ?_) (fun cdv A outer s H vs Q E hr h => ?_)
  · obtain ⟨p, fp, m, k, name, rfl, _⟩ := h
    rfl
  · obtain ⟨p, fp, m, k, name, rfl, ⟨dx, aT, aC, aM, sv, fC, fM, x⟩, nd, q⟩ := h
    refine ⟨_, (pss_one (ps_ret (pe_dget1 (hu_of hr) (pe_callTy (call_dictF rfl) (by rfl) z.dict (by decide +kernel) (pa_cons (pe_ix ix_tup (pe_fld (pv 0) rfl) pe_int (fun _ _ => rfl)) pa_nil)) (pv 1) ⟨by rfl, by rfl, by rfl, by rfl⟩))), ?_⟩
    obtain ⟨s0, pg, vb, ob, ps, rfl, h1, h2, hd, h3, h4, h5⟩ := x.sh
    refine ⟨_, rfl, p, CMirror, dx, _, _, rfl, x.hp, T.cl, T.n_shown, rfl, s0, _, _, .ref pg, rfl, rfl, .inl (.inl h1), atI_nat (j := 3) rfl, ?_⟩
    have pr : Paired (fun (p : Addr) (kv : Key × V) => SqT K H p [kV kv.1, kv.2]) ps (m.sh.pages.map fun p => ((Sum.inr p.1 : Key), V.str p.2)) := by
      clear h2 q nd h1
      generalize m.sh.pages = l at h3 ⊢
      induction h3 with
      | nil => exact .nil
      | cons h _ ih => exact .cons h ih
    refine ⟨pg, ob, ps, _, rfl, hd, h2, pr, fun d nd2 => ?_⟩
    rw [merge_nodup _ [] (by
      rw [List.nil_append, List.map_map]
      have : ((fun x : Key × V => x.1) ∘ fun p : Str × Str => ((Sum.inr p.1 : Key), V.str p.2)) = (Sum.inr ∘ fun p : Str × Str => p.1) := rfl
      rw [this, ← List.map_map]
      exact List.pairwise_map.mpr (nd.imp fun h e => h (Sum.inr.inj e))), List.nil_append]
    refine ⟨d, rfl, .inl ⟨_, .inl upd_same⟩, _, rfl, _, DGet.k (k := Sum.inr name) upd_same, ?_⟩
    rw [val_pages]
    exact q _ (same_new nd2)
end
end K61

namespace K61
open PySem PySem.Spec PyProof.Rows L2 Pg
/-- a page's text heard -/
def txP (m : Mir) (n : Int) (s t : Str) : Mir := { m with tx := fun j r => if j = n ∧ r = s then some t else m.tx j r }
/-- a seal heard -/
def slP (m : Mir) (n c t : Int) (nm : List Str × PyData) : Mir := { m with ct := upF m.ct n nm, tm := upF m.tm n (upF ((m.tm n).getD fun _ => none) c t) }
def okS (m : Mir) (n c t : Int) (nm : List Str × PyData) : Prop := (m.ct n).getD nm = nm ∧ (((m.tm n).getD fun _ => none) c).getD t = t
def spMHearP (K : PySem.W.Frag) (C ul : Addr) : Sp := fun vs H Q E => ∃ (p : Addr) (fp : Addr → Prop) (m : Mir) (k : Nat) (n : Int) (s t : Str), vs = [.ref p, .int n, .str s, .str t] ∧ MirA K C H p fp m k ∧ k < 1000 ∧
  ((m.tx n s).getD t = t → ∀ H', MirA K C H' p fp (txP m n s t) (k + 1) → ChM fp fp H H' → Q .non H') ∧ ((m.tx n s).getD t ≠ t → ∀ H', MirA K C H' p fp m k → ChM fp fp H H' → E (.ref ul) none H')
def spMHearS (K : PySem.W.Frag) (C ul : Addr) : Sp := fun vs H Q E => ∃ (p : Addr) (fp : Addr → Prop) (m : Mir) (k : Nat) (n c t : Int) (nv bv : V) (nm : List Str × PyData), vs = [.ref p, .int n, .int c, .int t, nv, bv] ∧ MirA K C H p fp m k ∧ k < 1000 ∧
  Dp K H nv (.tuple (nm.1.map PyData.str)) ∧ Dp K H bv nm.2 ∧ ContOk nm ∧
  (okS m n c t nm → ∀ (H' : Hp) (fp' : Addr → Prop), MirA K C H' p fp' (slP m n c t nm) (k + 2) → ChM fp fp' H H' → Q .non H') ∧ (¬ okS m n c t nm → ∀ H', MirA K C H' p fp m k → ChM fp fp H H' → E (.ref ul) none H')
theorem DX.put {H : Hp} {a : Addr} {f : Int → Str → Option Str} {k : Nat} {kvs : List (List Key × V)} (l : kvs.length ≤ k) (g : ∀ (n : Int) (s : Str), valV kvs [Sum.inl n, Sum.inr s] = (f n s).map V.str) (n : Int) (s t : Str) :
    DX (upd H a (.dT (putK kvs [Sum.inl n, Sum.inr s] (.str t)))) a (fun j r => if j = n ∧ r = s then some t else f j r) (k + 1) := by
  refine ⟨_, upd_same, Nat.le_trans (length_putK kvs _ _) (by omega), fun j r => ?_⟩
  rw [valV_put, g]
  show _ = Option.map V.str (if j = n ∧ r = s then some t else f j r)
  by_cases e : j = n ∧ r = s
  · rw [if_pos e, if_pos (by rw [e.1, e.2])]; rfl
  · rw [if_neg e, if_neg fun h => e (by
      obtain ⟨h1, h2⟩ := List.cons.inj h
      exact ⟨Sum.inl.inj h1, Sum.inr.inj (List.cons.inj h2).1⟩)]
/-- one of a mirror's own places is written anew -/
theorem ChM.upd {fp : Addr → Prop} {H : Hp} {a : Addr} {o : HO} (h : fp a) : ChM fp fp H (upd H a o) := ⟨fun q o n e => by rw [upd_ne (fun z : q = a => n (z ▸ h))]; exact e, fun q h => .inl h, fun q h => h⟩
theorem LiveM.upd {fp : Addr → Prop} {H : Hp} {a : Addr} {o : HO} (l : LiveM fp H) (m : MutD o) : LiveM fp (L2.upd H a o) := fun q h => by
  by_cases e : q = a
  · exact ⟨o, by rw [e, upd_same], m⟩
  · obtain ⟨o', h1, h2⟩ := l q h
    exact ⟨o', by rw [upd_ne e]; exact h1, h2⟩
theorem mut_keep {H : Hp} {a : Addr} {o o' : HO} (ha : H a = some o) (m : MutD o) : ∀ q u, H q = some u → ¬ MutD u → L2.upd H a o' q = some u := fun q u e n => by
  rw [upd_ne (fun z : q = a => n (by rw [z, ha] at e; cases e; exact m))]; exact e
theorem mut_keepT {K : PySem.W.Frag} {H : Hp} {a : Addr} {o o' : HO} (ha : H a = some o) (m : MutD o) : KeepT K H (L2.upd H a o') := by
  rintro q xs ((h | ⟨b, h⟩) | h)
  · exact .inl (.inl (mut_keep ha m q _ h fun z => z))
  · exact .inl (.inr ⟨b, mut_keep ha m q _ h fun z => z⟩)
  · exact .inr h
section
variable {K : PySem.W.Frag} {C p dx aT aC aM : Addr} {H : Hp} {fp : Addr → Prop} {m : Mir} {k : Nat} {sv : V} {fC fM : Int → Option V}
theorem MirAt.text (x : MirAt K C H p fp m k dx aT aC aM sv fC fM) {kvs : List (List Key × V)} (h : H aT = some (.dT kvs)) (l : kvs.length ≤ k) (g : ∀ (n : Int) (s : Str), valV kvs [Sum.inl n, Sum.inr s] = (m.tx n s).map V.str) (n : Int) (s t : Str) :
    MirAt K C (upd H aT (.dT (putK kvs [Sum.inl n, Sum.inr s] (.str t)))) p fp (txP m n s t) (k + 1) dx aT aC aM sv fC fM := by
  have kt : KeepT K H (upd H aT (.dT (putK kvs [Sum.inl n, Sum.inr s] (.str t)))) := mut_keepT h trivial
  have off : ∀ {q : Addr} {o : HO}, H q = some o → q ≠ aT → upd H aT (.dT (putK kvs [Sum.inl n, Sum.inr s] (.str t))) q = some o := fun {q o} e n => by rw [upd_ne n]; exact e
  have hC0 := x.hC
  have hM0 := x.hM
  obtain ⟨kC, hC, _⟩ := hC0
  obtain ⟨kM, hM, _⟩ := hM0
  have n1 : p ≠ aT := fun e => by have := x.hp; rw [e, h] at this; cases this
  have n2 : aC ≠ aT := fun e => by rw [e, h] at hC; cases hC
  have n3 : aM ≠ aT := fun e => by rw [e, h] at hM; cases hM
  refine ⟨off x.hp n1, DX.put l g n s t, (x.hC.keep fun o e => off e n2).mono (by omega), (x.hM.keep fun o e => off e n3).mono (by omega), x.c0, fun j v e => ?_, x.t0, fun j v e => ?_, x.inj, x.sh.keep (mut_keep h trivial) kt, x.own, x.ne, x.live.upd trivial⟩
  · obtain ⟨c, h1, h2, h3⟩ := x.cs j v e
    exact ⟨c, h1, h2, (cont_pd h2).keep kt h3⟩
  · obtain ⟨a, f, h1, h2, h3, h4, h5, h6⟩ := x.ts j v e
    refine ⟨a, f, h1, h2, h3, h4, h5, (h6.keep fun o e => off e ?_).mono (by omega)⟩
    obtain ⟨ka, ha, _⟩ := h6
    rintro rfl
    rw [h] at ha; cases ha
/-- another content of a number -/
theorem MirAt.cont (x : MirAt K C H p fp m k dx aT aC aM sv fC fM) {kvs : List (Key × V)} (h : H aC = some (.dK kvs)) (l : kvs.length ≤ k) (i : ∀ kv ∈ kvs, ∃ n : Int, kv.1 = Sum.inl n) (g : ∀ n : Int, valV kvs (Sum.inl n) = fC n) (n : Int) {v : V} {c : List Str × PyData} (ok : ContOk c) (dv : Dp K H v (contD c)) :
    MirAt K C (upd H aC (.dK (putK kvs (Sum.inl n) v))) p fp { m with ct := upF m.ct n c } (k + 1) dx aT aC aM sv (upF fC n v) fM := by
  have kt : KeepT K H (upd H aC (.dK (putK kvs (Sum.inl n) v))) := mut_keepT h trivial
  have off : ∀ {q : Addr} {o : HO}, H q = some o → q ≠ aC → upd H aC (.dK (putK kvs (Sum.inl n) v)) q = some o := fun {q o} e n => by rw [upd_ne n]; exact e
  have hT0 := x.hT
  obtain ⟨kT, hT, _⟩ := hT0
  have n1 : p ≠ aC := fun e => by have := x.hp; rw [e, h] at this; cases this
  have n2 : aT ≠ aC := fun e => by rw [e, h] at hT; cases hT
  refine ⟨off x.hp n1, (x.hT.keep fun o e => off e n2).mono (by omega), DI.put l i g n v, (x.hM.keep fun o e => off e x.ne.symm).mono (by omega), fun j => ?_, fun j u e => ?_, x.t0, fun j u e => ?_, x.inj, x.sh.keep (mut_keep h trivial) kt, x.own, x.ne, x.live.upd trivial⟩
  · show upF fC n v j = none ↔ upF m.ct n c j = none
    unfold upF
    by_cases e : j = n
    · rw [if_pos e, if_pos e]; exact ⟨fun h => (by cases h), fun h => (by cases h)⟩
    · rw [if_neg e, if_neg e]; exact x.c0 j
  · show ∃ c', upF m.ct n c j = some c' ∧ _
    unfold upF at e ⊢
    by_cases ej : j = n
    · rw [if_pos ej] at e ⊢
      obtain rfl := Option.some.inj e
      exact ⟨c, rfl, ok, (cont_pd ok).keep kt dv⟩
    · rw [if_neg ej] at e ⊢
      obtain ⟨c', h1, h2, h3⟩ := x.cs j u e
      exact ⟨c', h1, h2, (cont_pd h2).keep kt h3⟩
  · obtain ⟨a, f, h1, h2, h3, h4, h5, h6⟩ := x.ts j u e
    exact ⟨a, f, h1, h2, h3, h4, h5, (h6.keep fun o e => off e h4).mono (by omega)⟩
/-- another time of a number and count -/
theorem MirAt.time (x : MirAt K C H p fp m k dx aT aC aM sv fC fM) {n : Int} {τ : Addr} {kt : List (Key × V)} (hτ : H τ = some (.dK kt)) (l : kt.length ≤ k) (it : ∀ kv ∈ kt, ∃ n : Int, kv.1 = Sum.inl n) (gt : ∀ c : Int, valV kt (Sum.inl c) = (((m.tm n).getD fun _ => none) c).map V.int)
    (cas : fM n = some (.ref τ) ∨ (fM n = none ∧ ¬ fp τ)) {kM : List (Key × V)} (hM : H aM = some (.dK kM)) (lM : kM.length ≤ k) (iM : ∀ kv ∈ kM, ∃ n : Int, kv.1 = Sum.inl n) (gM : ∀ j : Int, valV kM (Sum.inl j) = fM j) (ne1 : τ ≠ aC) (ne2 : τ ≠ aM) (c t : Int) :
    MirAt K C (upd (upd H τ (.dK (putK kt (Sum.inl c) (.int t)))) aM (.dK (putK kM (Sum.inl n) (.ref τ)))) p (fun q => fp q ∨ q = τ) { m with tm := upF m.tm n (upF ((m.tm n).getD fun _ => none) c t) } (k + 1) dx aT aC aM sv fC (upF fM n (.ref τ)) := by
  have hM1 : upd H τ (.dK (putK kt (Sum.inl c) (.int t))) aM = some (.dK kM) := by rw [upd_ne ne2.symm]; exact hM
  have kt1 : KeepT K H (upd (upd H τ (.dK (putK kt (Sum.inl c) (.int t)))) aM (.dK (putK kM (Sum.inl n) (.ref τ)))) := fun a xs h => mut_keepT (K := K) hM1 trivial a xs (mut_keepT (K := K) hτ trivial a xs h)
  have nm : ∀ q o, H q = some o → ¬ MutD o → (upd (upd H τ (.dK (putK kt (Sum.inl c) (.int t)))) aM (.dK (putK kM (Sum.inl n) (.ref τ)))) q = some o := fun q o e h => mut_keep hM1 trivial q o (mut_keep hτ trivial q o e h) h
  have off : ∀ {q : Addr} {o : HO}, H q = some o → q ≠ τ → q ≠ aM → (upd (upd H τ (.dK (putK kt (Sum.inl c) (.int t)))) aM (.dK (putK kM (Sum.inl n) (.ref τ)))) q = some o := fun {q o} e n1 n2 => by rw [upd_ne n2, upd_ne n1]; exact e
  have hT0 := x.hT
  obtain ⟨kT, hT, _⟩ := hT0
  have n1 : p ≠ τ := fun e => by have := x.hp; rw [e, hτ] at this; cases this
  have n2 : p ≠ aM := fun e => by have := x.hp; rw [e, hM] at this; cases this
  have n3 : aT ≠ τ := fun e => by rw [e, hτ] at hT; cases hT
  have n4 : aT ≠ aM := fun e => by rw [e, hM] at hT; cases hT
  obtain ⟨o1, o2, o3, o4⟩ := x.own
  refine ⟨off x.hp n1 n2, (x.hT.keep fun o e => off e n3 n4).mono (by omega), (x.hC.keep fun o e => off e ne1.symm x.ne).mono (by omega), DI.put lM iM gM n (.ref τ), x.c0, fun j u e => ?_, fun j => ?_, fun j u e => ?_, fun j i a e1 e2 => ?_, x.sh.keep nm kt1, ⟨.inl o1, .inl o2, .inl o3, .inl o4⟩, x.ne, fun q h => ?_⟩
  · obtain ⟨c', h1, h2, h3⟩ := x.cs j u e
    exact ⟨c', h1, h2, (cont_pd h2).keep kt1 h3⟩
  · show upF fM n (.ref τ) j = none ↔ upF m.tm n _ j = none
    unfold upF
    by_cases e : j = n
    · rw [if_pos e, if_pos e]; exact ⟨fun h => (by cases h), fun h => (by cases h)⟩
    · rw [if_neg e, if_neg e]; exact x.t0 j
  · show ∃ (a : Addr) (g : Int → Option Int), u = .ref a ∧ upF m.tm n _ j = some g ∧ _
    unfold upF at e ⊢
    by_cases ej : j = n
    · rw [if_pos ej] at e ⊢
      obtain rfl := Option.some.inj e
      refine ⟨τ, _, rfl, rfl, .inr rfl, ne1, ne2, ?_⟩
      have d := DI.put (H := H) (a := τ) l it gt c (.int t)
      obtain ⟨kv, h1, h2, h3, h4⟩ := d
      refine ⟨kv, by rw [upd_ne ne2]; exact (by rw [upd_same] at h1 ⊢; exact h1), h2, h3, fun i => ?_⟩
      rw [h4]
      show (if i = c then some (V.int t) else (((m.tm n).getD fun _ => none) i).map V.int) = Option.map V.int (if i = c then some t else ((m.tm n).getD fun _ => none) i)
      by_cases ei : i = c
      · rw [if_pos ei, if_pos ei]; rfl
      · rw [if_neg ei, if_neg ei]
    · rw [if_neg ej] at e ⊢
      obtain ⟨a, f, h1, h2, h3, h4, h5, h6⟩ := x.ts j u e
      refine ⟨a, f, h1, h2, .inl h3, h4, h5, (h6.keep fun o e' => off e' (fun z => ?_) h5).mono (by omega)⟩
      rcases cas with q | ⟨q, nf⟩
      · rw [h1] at e
        rw [z] at e
        exact ej (x.inj _ _ _ e q)
      · exact nf (z ▸ h3)
  · unfold upF at e1 e2
    by_cases ej : j = n
    · by_cases ei : i = n
      · rw [ej, ei]
      · rw [if_pos ej] at e1
        rw [if_neg ei] at e2
        have ea : τ = a := V.ref.inj (Option.some.inj e1)
        rw [← ea] at e2
        rcases cas with q | ⟨q, nf⟩
        · exact absurd (x.inj _ _ _ e2 q) ei
        · obtain ⟨a', f, h1, h2, h3, _⟩ := x.ts i _ e2
          exact absurd (by rw [V.ref.inj h1]; exact h3) nf
    · rw [if_neg ej] at e1
      by_cases ei : i = n
      · rw [if_pos ei] at e2
        have ea : τ = a := V.ref.inj (Option.some.inj e2)
        rw [← ea] at e1
        rcases cas with q | ⟨q, nf⟩
        · exact absurd (x.inj _ _ _ e1 q) ej
        · obtain ⟨a', f, h1, h2, h3, _⟩ := x.ts j _ e1
          exact absurd (by rw [V.ref.inj h1]; exact h3) nf
      · rw [if_neg ei] at e2
        exact x.inj _ _ _ e1 e2
  · by_cases eM : q = aM
    · exact ⟨.dK _, by rw [eM]; exact upd_same, trivial⟩
    · by_cases eτ : q = τ
      · exact ⟨.dK _, by rw [upd_ne eM, eτ]; exact upd_same, trivial⟩
      · rcases h with h | h
        · obtain ⟨o, h1, h2⟩ := x.live q h
          exact ⟨o, off h1 eτ eM, h2⟩
        · exact absurd h eτ
end
section
variable {P : Program} {w : World} {K : PySem.W.Frag} {mg : Str → Option Value} {base : Heap} {f CMirror ulC : Addr} {fd : FuncData}
theorem ok_Mirror_hear_page (F : Fun K "_hear_page" "Mirror._hear_page" s_Mirror_hear_page f fd) (z : Z mg) (T : T_Mirror K mg CMirror) (ul : ErrTxt K mg "UnlikeLetters" ulC) : FnOk P w K mg base (L2.CX P w) 5 f fd ["self", "number", "name", "text"] (spMHearP K CMirror ulC) := by
  refine F.okX sc_Mirror_hear_page (fun vs H Q E h => ?_) (fun cdv A outer s H vs Q E hr h => ?_)
  · obtain ⟨p, fp, m, k, n, s, t, rfl, _⟩ := h
    rfl
  · obtain ⟨p, fp, m, k, n, s0, t, rfl, ⟨dx, aT, aC, aM, sv, fC, fM, x⟩, few, q1, q2⟩ := h
    refine ⟨_, (pss_cons (ps_if (pt_cmpR op_ne (pe_dget2 (hu_of hr) (pe_fld (pv 0) rfl) (pe_tup (pa_cons (pv 1) (pa_cons (pv 2) pa_nil))) (pv 3) ⟨by rfl, by rfl, by rfl, by rfl⟩) (pv 3) (nomark _))
        (pss_one (ps_raiseErr rfl ul (takes_of rfl rfl rfl rfl)))
        pss_nil)
      (pss_one (ps_dput (hu_of hr) (pe_fld (pv 0) rfl) (pe_tup (pa_cons (pv 1) (pa_cons (pv 2) pa_nil))) (pv 3) rfl))), ?_⟩
    obtain ⟨kvs, hX, lX, gX⟩ := x.hT
    refine ⟨_, rfl, p, CMirror, dx, _, _, rfl, x.hp, T.cl, T.n_texts, rfl, aT, rfl, .inr ⟨_, .inl hX⟩, _, rfl, _, rfl, by show 2 ≤ sizeLine; decide, fun b nb => ?_⟩
    have sb := same_new (o := .tup [.int n, .str s0]) nb
    refine ⟨_, rfl, _, DGet.t (k := [Sum.inl n, Sum.inr s0]) (sb _ _ hX) upd_same, ?_⟩
    rw [gX, show ((m.tx n s0).map V.str).getD (.str t) = V.str ((m.tx n s0).getD t) by cases m.tx n s0 <;> rfl]
    refine ⟨_, rfl, rfl, _, rfl, ite2 (fun e => ?_) (fun e => ?_)⟩
    · have e' : (m.tx n s0).getD t ≠ t := fun h => by rw [h] at e; simp at e
      exact q2 e' _ ⟨dx, aT, aC, aM, sv, fC, fM, x.same sb⟩ (ChM.of sb)
    · have e' : (m.tx n s0).getD t = t := by
        by_cases h : (m.tx n s0).getD t = t
        · exact h
        · exact absurd (by simpa using fun q => h (V.str.inj q)) e
      have x1 := x.same sb
      obtain ⟨kvs1, hX1, lX1, gX1⟩ := x1.hT
      refine ⟨_, rfl, _, rfl, p, CMirror, dx, _, _, rfl, x1.hp, T.cl, T.n_texts, rfl, _, rfl, _, rfl, by show 2 ≤ sizeLine; decide, fun b2 nb2 => ?_⟩
      have sb2 := same_new (o := .tup [.int n, .str s0]) nb2
      have x2 := x1.same sb2
      obtain ⟨kvs2, hX2, lX2, gX2⟩ := x2.hT
      refine ⟨aT, _, rfl, DPut.t (k := [Sum.inl n, Sum.inr s0]) hX2 upd_same (small1000 (by omega)), ?_⟩
      exact q1 e' _ ⟨dx, aT, aC, aM, sv, fC, fM, x2.text hX2 lX2 gX2 n s0 t⟩ ((ChM.upd x2.own.2.1).pre (sb.trans sb2))
theorem ok_Mirror_hear_seal (F : Fun K "_hear_seal" "Mirror._hear_seal" s_Mirror_hear_seal f fd) (z : Z mg) (T : T_Mirror K mg CMirror) (ul : ErrTxt K mg "UnlikeLetters" ulC) : FnOk P w K mg base (L2.CX P w) 5 f fd ["self", "number", "count", "time", "names", "behind"] (spMHearS K CMirror ulC) := by
  refine F.okX sc_Mirror_hear_seal (fun vs H Q E h => ?_) (fun cdv A outer s H vs Q E hr h => ?_)
  · obtain ⟨p, fp, m, k, n, c, t, nv, bv, nm, rfl, _⟩ := h
    rfl
  · obtain ⟨p, fp, m, k, n, c, t, nv, bv, nm, rfl, ⟨dx, aT, aC, aM, sv, fC, fM, x⟩, few, dn, db, ok, q1, q2⟩ := h
    refine ⟨_, (pss_cons (ps_set (i := 6) sc_Mirror_hear_seal.nd rfl (Or.inl rfl) (pe_tup (pa_cons (pv 4) (pa_cons (pv 5) pa_nil))))
      (pss_cons (ps_set (i := 7) sc_Mirror_hear_seal.nd rfl (Or.inl rfl) (pe_dget2 (hu_of hr) (pe_fld (pv 0) rfl) (pv 1) pe_dnewK ⟨by rfl, by rfl, by rfl, by rfl⟩))
      (pss_cons (ps_if (pt_cmpR (op_neD hr.units) (pe_dget2 (hu_of hr) (pe_fld (pv 0) rfl) (pv 1) (pv 6) ⟨by rfl, by rfl, by rfl, by rfl⟩) (pv 6) (nomark _))
        (pss_one (ps_raiseErr rfl ul (takes_of rfl rfl rfl rfl)))
        pss_nil)
      (pss_cons (ps_if (pt_cmpR op_ne (pe_dget2 (hu_of hr) (pv 7) (pv 2) (pv 3) ⟨by rfl, by rfl, by rfl, by rfl⟩) (pv 3) (nomark _))
        (pss_one (ps_raiseErr rfl ul (takes_of rfl rfl rfl rfl)))
        pss_nil)
      (pss_cons (ps_dput (hu_of hr) (pe_fld (pv 0) rfl) (pv 1) (pv 6) rfl)
      (pss_cons (ps_dput (hu_of hr) (pv 7) (pv 2) (pv 3) rfl)
      (pss_one (ps_dput (hu_of hr) (pe_fld (pv 0) rfl) (pv 1) (pv 7) rfl)))))))), ?_⟩
    refine ⟨_, rfl, _, rfl, by show 2 ≤ sizeLine; decide, fun a0 na => ?_⟩
    have s0 := same_new (o := .tup [nv, bv]) na
    have pn : Pd 1 421 (.tuple (nm.1.map PyData.str)) := ((names_pd ok.ok ok.few).tup).mono (by decide) (by decide)
    have dc : Dp K (upd H a0 (.tup [nv, bv])) (.ref a0) (contD nm) := .tup (.inl (.inl upd_same)) (.cons (pn.keep (Same.keepT s0) dn) (.cons (ok.bh.keep (Same.keepT s0) db) .nil))
    have x0 := x.same s0
    clear dn db
    generalize upd H a0 (.tup [nv, bv]) = H0 at *
    obtain ⟨kM, hM, lM, iM, gM⟩ := x0.hM
    refine ⟨_, rfl, p, CMirror, dx, _, _, rfl, x0.hp, T.cl, T.n_times, rfl, aM, rfl, .inl ⟨_, .inl hM⟩, _, rfl, fun e ne => ?_⟩
    have s1 := same_new (o := .dK []) ne
    refine ⟨_, DGet.k (k := Sum.inl n) (s1 _ _ hM), ?_⟩
    rw [gM]
    have x1 := x0.same s1
    have dc1 := (cont_pd ok).keep (Same.keepT s1) dc
    obtain ⟨τ, kt, eτ, hτ, lτ, iτ, gτ, cas, ne1, ne2, old⟩ : ∃ (τ : Addr) (kt : List (Key × V)), ((fM n).getD (.ref e)) = .ref τ ∧ (upd H0 e (.dK [])) τ = some (.dK kt) ∧ kt.length ≤ k ∧ (∀ kv ∈ kt, ∃ n : Int, kv.1 = Sum.inl n) ∧ (∀ c : Int, valV kt (Sum.inl c) = (((m.tm n).getD fun _ => none) c).map V.int) ∧
        (fM n = some (.ref τ) ∨ (fM n = none ∧ ¬ fp τ)) ∧ τ ≠ aC ∧ τ ≠ aM ∧ (fp τ ∨ H0 τ = none) := by
      cases ef : fM n with
      | none =>
        have em := (x0.t0 n).mp ef
        have nfp : ¬ fp e := fun h => by
          obtain ⟨o, h1, _⟩ := x0.live e h
          rw [ne] at h1; cases h1
        refine ⟨e, [], rfl, upd_same, Nat.zero_le _, fun kv h => (by cases h), fun c => by rw [em]; rfl, .inr ⟨rfl, nfp⟩, fun h => nfp (h ▸ x0.own.2.2.1), fun h => nfp (h ▸ x0.own.2.2.2), .inr ne⟩
      | some v =>
        obtain ⟨a, g, h1, h2, h3, h4, h5, h6⟩ := x1.ts n v ef
        obtain ⟨kt, g1, g2, g3, g4⟩ := h6
        exact ⟨a, kt, h1, g1, g2, g3, fun c => by rw [g4, h2]; rfl, .inl (by rw [h1]), h4, h5, .inl h3⟩
    rw [eτ]
    have sE := s0.trans s1
    have new1 : ∀ q, H0 q = none → H q = none := fun q h => back0 s0 h
    clear dc x0 s0 s1 hM lM iM gM
    generalize upd H0 e (.dK []) = H1 at *
    obtain ⟨kC, hC, lC, iC, gC⟩ := x1.hC
    refine ⟨_, rfl, p, CMirror, dx, _, _, rfl, x1.hp, T.cl, T.n_contents, rfl, aC, rfl, .inl ⟨_, .inl hC⟩, _, rfl, _, rfl, _, DGet.k (k := Sum.inl n) hC, ?_⟩
    rw [gC]
    obtain ⟨dold, okold⟩ : Dp K H1 ((fC n).getD (.ref a0)) (contD ((m.ct n).getD nm)) ∧ ContOk ((m.ct n).getD nm) := by
      cases ef : fC n with
      | none => rw [(x1.c0 n).mp ef]; exact ⟨dc1, ok⟩
      | some v =>
        obtain ⟨c', h1, h2, h3⟩ := x1.cs n v ef
        rw [h1]; exact ⟨h3, h2⟩
    have inv : ∀ a b : List Str × PyData, contD a = contD b → a = b := fun a b h => by
      obtain ⟨h1, h2⟩ := List.cons.inj (PyData.tuple.inj h)
      have h3 := (List.cons.inj h2).1
      have h4 := PyData.tuple.inj h1
      have h5 : a.1 = b.1 := by
        have := congrArg (List.map fun d : PyData => match d with | .str s => s | _ => ("" : Str)) h4
        rw [List.map_map, List.map_map] at this
        simpa [Function.comp_def] using this
      exact Prod.ext h5 h3
    have ceq : PyData.eqv (contD ((m.ct n).getD nm)) (contD nm) = true ↔ (m.ct n).getD nm = nm := by
      rw [(cont_pd okold).eqv (cont_pd ok)]
      exact ⟨inv _ _, fun h => by rw [h]⟩
    refine ⟨_, rfl, _, _, dold, dc1, (cont_pd okold).sz.shaped (by decide), (cont_pd ok).sz.shaped (by decide), _, rfl, ite2 (fun e1 => ?_) (fun e1 => ?_)⟩
    · exact q2 (fun o => by rw [ceq.mpr o.1] at e1; cases e1) H1 ⟨dx, aT, aC, aM, sv, fC, fM, x1⟩ (ChM.of sE)
    have o1 : (m.ct n).getD nm = nm := ceq.mp (by simpa using e1)
    refine ⟨_, rfl, τ, rfl, .inl ⟨_, .inl hτ⟩, _, rfl, _, rfl, _, DGet.k (k := Sum.inl c) hτ, ?_⟩
    rw [gτ, show (Option.map V.int (((m.tm n).getD fun _ => none) c)).getD (.int t) = V.int ((((m.tm n).getD fun _ => none) c).getD t) by cases ((m.tm n).getD fun _ => none) c <;> rfl]
    refine ⟨_, rfl, rfl, _, rfl, ite2 (fun e2 => ?_) (fun e2 => ?_)⟩
    · exact q2 (fun o => by rw [o.2] at e2; simp at e2) H1 ⟨dx, aT, aC, aM, sv, fC, fM, x1⟩ (ChM.of sE)
    have o2 : (((m.tm n).getD fun _ => none) c).getD t = t := by
      by_cases h : (((m.tm n).getD fun _ => none) c).getD t = t
      · exact h
      · exact absurd (by simpa using fun q => h (V.int.inj q)) e2
    clear dold okold ceq inv e1 e2
    refine ⟨_, rfl, _, rfl, p, CMirror, dx, _, _, rfl, x1.hp, T.cl, T.n_contents, rfl, _, rfl, aC, _, rfl, DPut.k (k := Sum.inl n) hC (small1000 (by omega)), ?_⟩
    have x2 := x1.cont hC lC iC gC n ok dc1
    have hτ2 : upd H1 aC (.dK (putK kC (Sum.inl n) (.ref a0))) τ = some (.dK kt) := by rw [upd_ne ne1]; exact hτ
    have ch2 : ChM fp fp H (upd H1 aC (.dK (putK kC (Sum.inl n) (.ref a0)))) := (ChM.upd x1.own.2.2.1).pre sE
    clear hτ hC gC dc1
    generalize upd H1 aC (.dK (putK kC (Sum.inl n) (.ref a0))) = H2 at *
    obtain ⟨kM, hM, lM, iM, gM⟩ := x2.hM
    refine ⟨_, rfl, _, rfl, _, rfl, τ, _, rfl, DPut.k (k := Sum.inl c) hτ2 (small1000 (by omega)), ?_⟩
    have hpτ : p ≠ τ := fun e => by have := x2.hp; rw [e, hτ2] at this; cases this
    have hM3 : upd H2 τ (.dK (putK kt (Sum.inl c) (.int t))) aM = some (.dK kM) := by rw [upd_ne ne2.symm]; exact hM
    refine ⟨_, rfl, _, rfl, p, CMirror, dx, _, _, rfl, by rw [upd_ne hpτ]; exact x2.hp, T.cl, T.n_times, rfl, _, rfl, aM, _, rfl, DPut.k (k := Sum.inl n) hM3 (small1000 (by omega)), ?_⟩
    have x3 := x2.time hτ2 (by omega) iτ gτ cas hM lM iM gM ne1 ne2 c t
    refine q1 ⟨o1, o2⟩ _ _ ⟨dx, aT, aC, aM, sv, _, _, x3⟩ ⟨fun q o nf e => ?_, fun q h => ?_, fun q h => .inl h⟩
    · have nq : q ≠ τ := fun h => by
        rcases old with f | f
        · exact nf (h ▸ f)
        · rw [h, new1 _ f] at e; cases e
      have nM : q ≠ aM := fun h => nf (h ▸ x2.own.2.2.2)
      rw [upd_ne nM, upd_ne nq]
      exact ch2.keep q o nf e
    · rcases h with h | h
      · exact .inl h
      · rcases old with f | f
        · exact .inl (h ▸ f)
        · exact .inr (by rw [h]; exact new1 _ f)
end
end K61

namespace K61
open PySem PySem.Spec PyProof.Rows L2 Pg
def lexGe (n c i j : Int) : Bool := if n = i then decide (j ≤ c) else decide (i ≤ n)
/-- what showing a number makes of a mirror -/
inductive ShowRel (m : Mir) (n : Int) : Mir → Prop
  | unknown : m.ct n = none → ShowRel m n m
  | missing (nm : List Str × PyData) : m.ct n = some nm → (∃ x ∈ nm.1, m.tx n x = none) → ShowRel m n m
  | older (nm : List Str × PyData) (g : Int → Option Int) (c t : Int) : m.ct n = some nm → (∀ x ∈ nm.1, (m.tx n x).isSome = true) → m.tm n = some g → g c = some t → (∀ i, (g i).isSome = true → i ≤ c) → lexGe n c m.sh.n m.sh.c = false → ShowRel m n m
  | newer (nm : List Str × PyData) (g : Int → Option Int) (c t : Int) : m.ct n = some nm → (∀ x ∈ nm.1, (m.tx n x).isSome = true) → m.tm n = some g → g c = some t → (∀ i, (g i).isSome = true → i ≤ c) → lexGe n c m.sh.n m.sh.c = true →
      ShowRel m n { m with sh := ⟨n, c, t, nm.1.map fun x => (x, (m.tx n x).getD ""), nm.2⟩ }
/-- letters -/
inductive Ltr
  | pg (n : Int) (s t : Str)
  | sl (n c t : Int) (nm : List Str × PyData)
def Ltr.d : Ltr → PyData
  | .pg n s t => .tuple [.str "page", .int n, .str s, .str t]
  | .sl n c t nm => .tuple [.str "seal", .int n, .int c, .int t, .tuple (nm.1.map PyData.str), nm.2]
def Ltr.n : Ltr → Int
  | .pg n _ _ => n
  | .sl n _ _ _ => n
def Ltr.ok : Ltr → Prop
  | .pg n s t => -99999999 ≤ n ∧ n ≤ 99999999 ∧ Codes s ∧ s.length ≤ 20 ∧ Codes t ∧ t.length ≤ 100
  | .sl n c t nm => -99999999 ≤ n ∧ n ≤ 99999999 ∧ -99999999 ≤ c ∧ c ≤ 99999999 ∧ -99999999 ≤ t ∧ t ≤ 99999999 ∧ ContOk nm
def okL (m : Mir) : Ltr → Prop
  | .pg n s t => (m.tx n s).getD t = t
  | .sl n c t nm => okS m n c t nm
def updL (m : Mir) : Ltr → Mir
  | .pg n s t => txP m n s t
  | .sl n c t nm => slP m n c t nm
def spMHear (K : PySem.W.Frag) (C ul : Addr) : Sp := fun vs H Q E => ∃ (p : Addr) (fp : Addr → Prop) (m : Mir) (k : Nat) (v : V) (l : Ltr), vs = [.ref p, v] ∧ MirA K C H p fp m k ∧ k < 900 ∧ Dp K H v l.d ∧ l.ok ∧ Pd 8 20000 m.sh.d ∧
  (okL m l → (∀ nm, (updL m l).ct l.n = some nm → ∃ g c t, (updL m l).tm l.n = some g ∧ g c = some t) ∧ ∀ m', ShowRel (updL m l) l.n m' → Pd 8 20000 m'.sh.d ∧ ∀ (H' : Hp) (fp' : Addr → Prop), MirA K C H' p fp' m' (k + 2) → ChM fp fp' H H' → Q (.bl (!PyData.eqv m'.sh.d m.sh.d)) H') ∧
  (¬ okL m l → ∀ H', MirA K C H' p fp m k → ChM fp fp H H' → E (.ref ul) none H')
theorem MirAt.mono {K : PySem.W.Frag} {C p dx aT aC aM : Addr} {H : Hp} {fp : Addr → Prop} {m : Mir} {k j : Nat} {sv : V} {fC fM : Int → Option V} (x : MirAt K C H p fp m k dx aT aC aM sv fC fM) (h : k ≤ j) : MirAt K C H p fp m j dx aT aC aM sv fC fM :=
  ⟨x.hp, x.hT.mono h, x.hC.mono h, x.hM.mono h, x.c0, x.cs, x.t0, fun n v e => let ⟨a, g, h1, h2, h3, h4, h5, h6⟩ := x.ts n v e; ⟨a, g, h1, h2, h3, h4, h5, h6.mono h⟩, x.inj, x.sh, x.own, x.ne, x.live⟩
def spMShow (K : PySem.W.Frag) (C : Addr) : Sp := fun vs H Q _ => ∃ (p : Addr) (fp : Addr → Prop) (m : Mir) (k : Nat) (n : Int), vs = [.ref p, .int n] ∧ MirA K C H p fp m k ∧ k < 2000 ∧ (∀ nm, m.ct n = some nm → ∃ g c t, m.tm n = some g ∧ g c = some t) ∧
  ∀ (m' : Mir) (H' : Hp), ShowRel m n m' → MirA K C H' p fp m' k → ChM fp fp H H' → Q .non H'
theorem strs_vals {K : PySem.W.Frag} {H : Hp} : ∀ {ws : List V} {l : List Str}, DpAll K H ws (l.map PyData.str) → ws = l.map V.str
  | _, [], .nil => rfl
  | _, x :: l, .cons h t => by
    cases h
    rw [List.map_cons, strs_vals t]
theorem MirAt.show {K : PySem.W.Frag} {C p dx aT aC aM : Addr} {H : Hp} {fp : Addr → Prop} {m : Mir} {k : Nat} {sv : V} {fC fM : Int → Option V} (x : MirAt K C H p fp m k dx aT aC aM sv fC fM) {v : V} {y : MVer} (s : ShownAt K H v y) :
    MirAt K C (upd H p (.ins C dx [(("_texts" : Str), .ref aT), (("_contents" : Str), .ref aC), (("_times" : Str), .ref aM), (("_shown" : Str), v)])) p fp { m with sh := y } k dx aT aC aM v fC fM := by
  have kt : KeepT K H (upd H p (.ins C dx [(("_texts" : Str), .ref aT), (("_contents" : Str), .ref aC), (("_times" : Str), .ref aM), (("_shown" : Str), v)])) := mut_keepT x.hp trivial
  have off : ∀ {q : Addr} {o : HO}, H q = some o → q ≠ p → (upd H p (.ins C dx [(("_texts" : Str), .ref aT), (("_contents" : Str), .ref aC), (("_times" : Str), .ref aM), (("_shown" : Str), v)])) q = some o := fun {q o} e n => by rw [upd_ne n]; exact e
  have hp := x.hp
  have hT0 := x.hT
  have hC0 := x.hC
  have hM0 := x.hM
  obtain ⟨kT, hT, _⟩ := hT0
  obtain ⟨kC, hC, _⟩ := hC0
  obtain ⟨kM, hM, _⟩ := hM0
  have n1 : aT ≠ p := fun e => by rw [e, hp] at hT; cases hT
  have n2 : aC ≠ p := fun e => by rw [e, hp] at hC; cases hC
  have n3 : aM ≠ p := fun e => by rw [e, hp] at hM; cases hM
  refine ⟨upd_same, x.hT.keep fun o e => off e n1, x.hC.keep fun o e => off e n2, x.hM.keep fun o e => off e n3, x.c0, fun j u e => ?_, x.t0, fun j u e => ?_, x.inj, s.keep (mut_keep x.hp trivial) kt, x.own, x.ne, x.live.upd trivial⟩
  · obtain ⟨c', h1, h2, h3⟩ := x.cs j u e
    exact ⟨c', h1, h2, (cont_pd h2).keep kt h3⟩
  · obtain ⟨a, f, h1, h2, h3, h4, h5, h6⟩ := x.ts j u e
    refine ⟨a, f, h1, h2, h3, h4, h5, h6.keep fun o e' => off e' ?_⟩
    obtain ⟨ka, ha, _⟩ := h6
    rintro rfl
    rw [hp] at ha; cases ha
section
variable {P : Program} {w : World} {K : PySem.W.Frag} {mg : Str → Option Value} {base : Heap} {f CMirror ulC : Addr} {fd : FuncData}
theorem ok_Mirror_show (F : Fun K "_show" "Mirror._show" s_Mirror_show f fd) (z : Z mg) (T : T_Mirror K mg CMirror) : FnOk P w K mg base CX0 1 f fd ["self", "number"] (spMShow K CMirror) := by
  refine F.ok sc_Mirror_show (fun vs H Q E h => ?_) (fun cdv A outer s H vs Q E hr h => ?_)
  · obtain ⟨p, fp, m, k, n, rfl, _⟩ := h
    rfl
  · obtain ⟨p, fp, m, k, n, rfl, ⟨dx, aT, aC, aM, sv, fC, fM, x⟩, few, pre, q⟩ := h
    refine ⟨_, (pss_cons (ps_if (pt_cmp (pc_dnotin (hu_of hr) (pv 1) (pe_fld (pv 0) rfl)))
        (pss_one ps_retN)
        pss_nil)
      (pss_cons (ps_asg (pe_dget (hu_of hr) (pe_fld (pv 0) rfl) (pv 1) (fun _ _ => rfl)) (pg_tup rfl (pgs_cons (pg_name (i := 2) sc_Mirror_show.nd rfl (Or.inl rfl)) (pgs_cons (pg_name (i := 3) sc_Mirror_show.nd rfl (Or.inl rfl)) pgs_nil))))
      (pss_cons (ps_if (pt_not (pt_val (pe_callB (cr_all rfl) (by rfl) z.all (by decide +kernel) (pa_cons (pe_lc (own := [("name", 6)]) (g := (gName 6)) (tt := tYes) rfl sc_Mirror_show.nd (pi_tup (pv 2)) (blkOk_by (own := [("name", 6)]) (N := ["self", "number", "names", "behind", "count", "pages", "name"]) (sc := defScope s_Mirror_show) (by decide +kernel)) (fun _ _ _ _ _ => pg_name (i := 6) sc_Mirror_show.nd rfl (Or.inl rfl)) (fun _ _ _ _ _ => pts_nil) (fun _ _ _ _ _ => (pe_cmp (pc_din (hu_of hr) (pe_tup (pa_cons (pv 1) (pa_cons (pv 6) pa_nil))) (pe_fldK (K := K) rfl (pv 0) rfl))))) pa_nil))))
        (pss_one ps_retN)
        pss_nil)
      (pss_cons (ps_set (i := 4) sc_Mirror_show.nd rfl (Or.inl rfl) (pe_callB (cr_max rfl) (by rfl) z.max (by decide +kernel) (pa_cons (pe_callTy (call_listD rfl) (by rfl) z.list (by decide +kernel) (pa_cons (pe_dget (hu_of hr) (pe_fld (pv 0) rfl) (pv 1) (fun _ _ => rfl)) pa_nil)) pa_nil)))
      (pss_one (ps_if (pt_cmpR (op_geT (u0 hr)) (pe_tup (pa_cons (pv 1) (pa_cons (pv 4) pa_nil))) (pe_slice sl_tupA (pe_fld (pv 0) rfl) po_none (po_some pe_int)) (nomark _))
        (pss_cons (ps_set (i := 5) sc_Mirror_show.nd rfl (Or.inl rfl) (pe_callTy call_tupF (by rfl) z.tuple (by decide +kernel) (pa_cons (pe_lc (own := [("name", 6)]) (g := (gName 6)) (tt := tYes) rfl sc_Mirror_show.nd (pi_tup (pv 2)) (blkOk_by (own := [("name", 6)]) (N := ["self", "number", "names", "behind", "count", "pages", "name"]) (sc := defScope s_Mirror_show) (by decide +kernel)) (fun _ _ _ _ _ => pg_name (i := 6) sc_Mirror_show.nd rfl (Or.inl rfl)) (fun _ _ _ _ _ => pts_nil) (fun _ _ _ _ _ => (pe_tup (pa_cons (pv 6) (pa_cons (pe_dget (hu_of hr) (pe_fldK (K := K) rfl (pv 0) rfl) (pe_tup (pa_cons (pv 1) (pa_cons (pv 6) pa_nil))) (fun _ _ => rfl)) pa_nil))))) pa_nil)))
        (pss_one (ps_fld (pv 0) (pe_tup (pa_cons (pv 1) (pa_cons (pv 4) (pa_cons (pe_dget (hu_of hr) (pe_dget (hu_of hr) (pe_fld (pv 0) rfl) (pv 1) (fun _ _ => rfl)) (pv 4) (fun _ _ => rfl)) (pa_cons (pv 5) (pa_cons (pv 3) pa_nil)))))) rfl)))
        pss_nil)))))), ?_⟩
    obtain ⟨kC, hC, lC, iC, gC⟩ := x.hC
    refine ⟨_, rfl, _, rfl, p, CMirror, dx, _, _, rfl, x.hp, T.cl, T.n_contents, rfl, aC, _, rfl, DGet.k (k := Sum.inl n) hC, ?_⟩
    rw [gC]
    cases ef : fC n with
    | none => exact ⟨_, rfl, iteT (q m H (.unknown ((x.c0 n).mp ef)) ⟨dx, aT, aC, aM, sv, fC, fM, x⟩ (ChM.of (Same.refl _)))⟩
    | some v =>
      refine ⟨_, rfl, iteF ?_⟩
      obtain ⟨nm, em, ok, dv⟩ := x.cs n v ef
      cases dv with
      | @tup ac xs _ sq dall =>
        cases dall with
        | @cons nv _ _ _ dn dall =>
          cases dall with
          | @cons bv _ _ _ db dall =>
            cases dall
            cases dn with
            | @tup na ws _ sqn dnames =>
              refine ⟨_, rfl, p, CMirror, dx, _, _, rfl, x.hp, T.cl, T.n_contents, rfl, _, rfl, aC, _, rfl, by have := DGet.k (k := Sum.inl n) hC; rw [gC, ef] at this; exact this, ?_⟩
              refine ⟨ac, _, rfl, sq, rfl, _, _, rfl, _, _, rfl, rfl, ?_⟩
              obtain rfl : ws = nm.1.map V.str := strs_vals dnames
              have lnm : nm.1.length ≤ 20 := ok.few
              -- are all pages known
              refine ⟨_, rfl, na, rfl, ⟨_, sqn⟩, fun D nD => ?_⟩
              refine lc_tup (K := K) (a := na) (xs := nm.1.map V.str) (fun i H' => Same H H' ∧ H' D = some (.lst ((nm.1.take i).map fun s => V.bl (m.tx n s).isSome))) ⟨same_new nD, upd_same⟩ (fun i H' _ ⟨s1, _⟩ => Pg.same_seqT s1 sqn) ?_ ?_
              · rintro i y H' hy ⟨s1, hD⟩
                rw [List.getElem?_map] at hy
                obtain ⟨s, hs, rfl⟩ : ∃ s, nm.1[i]? = some s ∧ V.str s = y := by
                  cases e : nm.1[i]? with
                  | none => rw [e] at hy; cases hy
                  | some s => rw [e] at hy; exact ⟨s, rfl, Option.some.inj hy⟩
                have tk : nm.1.take (i + 1) = nm.1.take i ++ [s] := by rw [List.take_add_one, hs]; rfl
                refine ⟨rfl, yes (iteT ?_)⟩
                refine ⟨_, rfl, _, rfl, by show 2 ≤ sizeLine; decide, fun b nb => ?_⟩
                have sb := s1.trans (same_new (o := .tup [.int n, .str s]) nb)
                have xb := x.same sb
                obtain ⟨kX, hX, lX, gX⟩ := xb.hT
                refine ⟨_, rfl, p, CMirror, dx, _, _, rfl, xb.hp, T.cl, T.n_texts, rfl, aT, _, rfl, DGet.t (k := [Sum.inl n, Sum.inr s]) hX upd_same, ?_⟩
                rw [gX, Option.isSome_map]
                refine ⟨_, same_new nb _ _ hD, by rw [List.length_map]; exact small5 (by have := List.length_take_le' i nm.1; omega), fun q o e => ?_, ?_⟩
                · rw [upd_ne (ne_of_none e nD)]; exact sb _ _ e
                · rw [upd_same, tk, List.map_append]; rfl
              · rintro H1 ⟨s1, hD⟩
                rw [List.length_map, List.take_length] at hD
                refine ⟨D, nm.1.map fun s => (m.tx n s).isSome, rfl, .inl (.inl (by rw [hD, List.map_map]; rfl)), _, rfl, ?_⟩
                have x1 := x.same s1
                cases ea : (nm.1.map fun s => (m.tx n s).isSome).all id with
                | false =>
                  refine iteT ?_
                  refine q m H1 (.missing nm em ?_) ⟨dx, aT, aC, aM, sv, fC, fM, x1⟩ (ChM.of s1)
                  rw [List.all_map, List.all_eq_false] at ea
                  obtain ⟨y, hy, e⟩ := ea
                  exact ⟨y, hy, by cases w : m.tx n y with
                    | none => rfl
                    | some _ => rw [Function.comp_apply, w] at e; exact absurd rfl e⟩
                | true =>
                  refine iteF ?_
                  have all : ∀ y ∈ nm.1, (m.tx n y).isSome = true := fun y hy => by
                    rw [List.all_map, List.all_eq_true] at ea
                    exact ea y hy
                  obtain ⟨g, c0, t0, tm, gc0⟩ := pre nm em
                  have hfM : ∃ v, fM n = some v := by
                    cases w : fM n with
                    | none => rw [(x.t0 n).mp w] at tm; cases tm
                    | some v => exact ⟨v, rfl⟩
                  obtain ⟨vM, eM⟩ := hfM
                  obtain ⟨τ, g', rfl, tm', _, _, _, dτ⟩ := x1.ts n vM eM
                  obtain rfl : g = g' := Option.some.inj (tm.symm.trans tm')
                  obtain ⟨kt, hτ, lt, it, gt⟩ := dτ
                  obtain ⟨kM, hM, lM, iM, gM⟩ := x1.hM
                  have gM1 : DGet H1 aM (.int n) (some (.ref τ)) := by have := DGet.k (k := Sum.inl n) hM; rw [gM, eM] at this; exact this
                  refine ⟨_, rfl, p, CMirror, dx, _, _, rfl, x1.hp, T.cl, T.n_times, rfl, _, rfl, aM, _, rfl, gM1, ?_⟩
                  refine ⟨τ, kt, rfl, .inl hτ, fun L nL => ?_⟩
                  obtain ⟨ns, ens, emem⟩ : ∃ ns : List Int, (kt.map fun kv => kV kv.1) = ns.map V.int ∧ ∀ i, i ∈ ns ↔ (g i).isSome = true := by
                    refine ⟨kt.map fun kv => match kv.1 with | .inl i => i | .inr _ => 0, ?_, fun i => ?_⟩
                    · rw [List.map_map]
                      refine List.map_congr_left fun kv hkv => ?_
                      obtain ⟨j, hj⟩ := it kv hkv
                      show kV kv.1 = V.int (match kv.1 with | .inl i => i | .inr _ => 0)
                      rw [hj]; rfl
                    · have e1 : (valV kt (Sum.inl i)).isSome = (g i).isSome := by rw [gt, Option.isSome_map]
                      rw [← e1, ← valV_any, List.any_eq_true, List.mem_map]
                      constructor
                      · rintro ⟨kv, hkv, e⟩
                        obtain ⟨j, hj⟩ := it kv hkv
                        refine ⟨kv, hkv, decide_eq_true ?_⟩
                        rw [hj] at e ⊢
                        exact congrArg Sum.inl e
                      · rintro ⟨kv, hkv, e⟩
                        refine ⟨kv, hkv, ?_⟩
                        rw [of_decide_eq_true e]
                  rw [ens]
                  have sL := same_new (o := .lst (ns.map V.int)) nL
                  refine ⟨L, ns, rfl, .inl (.inl upd_same), List.length_pos_of_mem ((emem c0).mpr (by rw [gc0]; rfl)), fun c hc hmax => ?_⟩
                  have gc := (emem c).mp hc
                  obtain ⟨t, gct⟩ := Option.isSome_iff_exists.mp gc
                  have cmax : ∀ i, (g i).isSome = true → i ≤ c := fun i hi => hmax i ((emem i).mpr hi)
                  have x2 := x1.same sL
                  have s2 := s1.trans sL
                  clear hD nL sL hM lM iM gM gM1 hτ gt it lt ens emem hc hmax
                  generalize upd H1 L (.lst (ns.map V.int)) = H2 at *
                  -- is it newer
                  refine ⟨_, rfl, _, rfl, by show 2 ≤ sizeLine; decide, fun a na2 => ?_⟩
                  have s3 := same_new (o := .tup [.int n, .int c]) na2
                  have x3 := x2.same s3
                  have ha : upd H2 a (.tup [.int n, .int c]) a = some (.tup [.int n, .int c]) := upd_same
                  replace s2 := s2.trans s3
                  clear x2 s3 na2
                  generalize upd H2 a (.tup [.int n, .int c]) = H3 at *
                  obtain ⟨sa, pg, vb, ob, ps, rfl, k1, k2, kd, k3, k4, k5⟩ := x3.sh
                  refine ⟨_, rfl, p, CMirror, dx, _, _, rfl, x3.hp, T.cl, T.n_shown, rfl, ?_⟩
                  refine ⟨2, rfl, sa, _, rfl, .inl (.inl k1), fun h => absurd h.2 (by show ¬ HT.sIx 5 5 (some 2) = 5; decide), fun _ b nb => ?_⟩
                  have s4 := same_new (o := .tup [.int m.sh.n, .int m.sh.c]) nb
                  have x4 := x3.same s4
                  have hb : upd H3 b (.tup [.int m.sh.n, .int m.sh.c]) b = some (.tup [.int m.sh.n, .int m.sh.c]) := upd_same
                  have ha4 := s4 _ _ ha
                  replace s2 := s2.trans s4
                  show rOrdT _ _ (.ref a) (.ref b) (upd H3 b (.tup [.int m.sh.n, .int m.sh.c])) _
                  clear x3 s4 nb k1 k2 k3 k4 ha
                  generalize upd H3 b (.tup [.int m.sh.n, .int m.sh.c]) = H4 at *
                  refine ⟨a, b, n, c, m.sh.n, m.sh.c, rfl, rfl, .inl (.inl ha4), .inl (.inl hb), _, rfl, ?_⟩
                  show if lexGe n c m.sh.n m.sh.c = true then _ else _
                  cases eg : lexGe n c m.sh.n m.sh.c with
                  | false =>
                    refine iteF ?_
                    exact q m H4 (.older nm g c t em all tm gct cmax eg) ⟨dx, aT, aC, aM, .ref sa, fC, fM, x4⟩ (ChM.of s2)
                  | true =>
                    refine iteT ?_
                    -- the pages
                    have sqn4 := Pg.same_seqT s2 sqn
                    refine ⟨_, rfl, na, rfl, ⟨_, sqn4⟩, fun D2 nD2 => ?_⟩
                    refine lc_tup (K := K) (a := na) (xs := nm.1.map V.str) (fun i H' => Same H4 H' ∧ ∃ qs : List Addr, H' D2 = some (.lst (qs.map V.ref)) ∧ Paired (fun (q : Addr) (kv : Str × Str) => SqT K H' q [.str kv.1, .str kv.2]) qs ((nm.1.take i).map fun y => (y, (m.tx n y).getD ""))) ⟨same_new nD2, [], upd_same, .nil⟩ (fun i H' _ ⟨s1, _⟩ => Pg.same_seqT s1 sqn4) ?_ ?_
                    · rintro i y H' hy ⟨s5, qs, hD2, pq⟩
                      rw [List.getElem?_map] at hy
                      obtain ⟨s, hs, rfl⟩ : ∃ s, nm.1[i]? = some s ∧ V.str s = y := by
                        cases e : nm.1[i]? with
                        | none => rw [e] at hy; cases hy
                        | some s => rw [e] at hy; exact ⟨s, rfl, Option.some.inj hy⟩
                      have tk : nm.1.take (i + 1) = nm.1.take i ++ [s] := by rw [List.take_add_one, hs]; rfl
                      have il := (List.getElem?_eq_some_iff.mp hs).1
                      have lq := Paired.length pq
                      rw [List.length_map, List.length_take] at lq
                      obtain ⟨tx, etx⟩ := Option.isSome_iff_exists.mp (all s (List.mem_of_getElem? hs))
                      have x5 := x4.same s5
                      refine ⟨rfl, yes (iteT ?_)⟩
                      refine ⟨_, rfl, _, rfl, p, CMirror, dx, _, _, rfl, x5.hp, T.cl, T.n_texts, rfl, _, rfl, _, rfl, by show 2 ≤ sizeLine; decide, fun u nu => ?_⟩
                      have s6 := same_new (o := .tup [.int n, .str s]) nu
                      obtain ⟨kX, hX, lX, gX⟩ := (x5.same s6).hT
                      have gT := DGet.t (k := [Sum.inl n, Sum.inr s]) hX (b := u) upd_same
                      rw [gX, etx] at gT
                      refine ⟨aT, _, rfl, gT, by show 2 ≤ sizeLine; decide, fun u2 nu2 => ?_⟩
                      have s7 := s6.trans (same_new (o := .tup [.str s, .str tx]) nu2)
                      have hD7 := s7 _ _ hD2
                      have off : ∀ {q : Addr} {o : HO}, (upd (upd H' u (.tup [.int n, .str s])) u2 (.tup [.str s, .str tx])) q = some o → q ≠ D2 → upd (upd (upd H' u (.tup [.int n, .str s])) u2 (.tup [.str s, .str tx])) D2 (.lst (qs.map V.ref ++ [.ref u2])) q = some o := fun {q o} h n => by rw [upd_ne n]; exact h
                      have kt : KeepT K (upd (upd H' u (.tup [.int n, .str s])) u2 (.tup [.str s, .str tx])) (upd (upd (upd H' u (.tup [.int n, .str s])) u2 (.tup [.str s, .str tx])) D2 (.lst (qs.map V.ref ++ [.ref u2]))) := KeepT.upd (by rw [hD7]; intro xs h; cases h) (by rw [hD7]; intro b xs h; cases h)
                      refine ⟨_, hD7, by rw [List.length_map]; exact small5 (by omega), fun q o e => off (s7 _ _ (s5 _ _ e)) (ne_of_none e nD2), qs ++ [u2], by rw [upd_same, List.map_append]; rfl, ?_⟩
                      rw [tk, List.map_append]
                      refine Paired.snoc (Paired.mapP pq fun q kv h => kt _ _ (Pg.same_seqT s7 h)) (kt _ _ (.inl (.inl ?_)))
                      rw [upd_same]
                      show some (HO.tup [V.str s, V.str tx]) = some (.tup [V.str s, V.str ((m.tx n s).getD "")])
                      rw [etx]
                      rfl
                    · rintro H5 ⟨s5, qs, hD2, pq⟩
                      rw [List.length_map, List.take_length] at pq
                      refine ⟨D2, _, rfl, .inl (.inl hD2), fun pg2 ob2 hd2 np2 => ?_⟩
                      have s6 := s5.trans (same_new (o := .frz ob2 (.tup (qs.map V.ref))) np2)
                      have x6 := x4.same s6
                      have hpg : upd H5 pg2 (.frz ob2 (.tup (qs.map V.ref))) pg2 = some (.frz ob2 (.tup (qs.map V.ref))) := upd_same
                      replace pq := Paired.mapP pq fun q kv h => Pg.same_seqT (same_new (o := .frz ob2 (.tup (qs.map V.ref))) np2) h
                      replace s2 := s2.trans s6
                      clear s6 s5 x4 hD2 np2 nD2
                      generalize upd H5 pg2 (.frz ob2 (.tup (qs.map V.ref))) = H6 at *
                      obtain ⟨kM6, hM6, _, _, gM6⟩ := x6.hM
                      have dM6 : DGet H6 aM (.int n) (some (.ref τ)) := by have := DGet.k (k := Sum.inl n) hM6; rw [gM6, eM] at this; exact this
                      obtain ⟨τ', g', eτ, tm', _, _, _, dτ⟩ := x6.ts n _ eM
                      obtain rfl : τ = τ' := V.ref.inj eτ
                      obtain rfl : g = g' := Option.some.inj (tm.symm.trans tm')
                      obtain ⟨kt6, hτ6, _, _, gt6⟩ := dτ
                      have dt6 : DGet H6 τ (.int c) (some (.int t)) := by
                        have h : DGet H6 τ (.int c) ((g c).map V.int) := by (have h := DGet.k (k := Sum.inl c) hτ6; rw [gt6] at h; exact h)
                        rw [gct] at h
                        exact h
                      refine ⟨_, rfl, _, rfl, _, rfl, p, CMirror, dx, _, _, rfl, x6.hp, T.cl, T.n_times, rfl, _, rfl, aM, _, rfl, dM6, _, rfl, τ, _, rfl, dt6, _, rfl, _, rfl, by show 5 ≤ sizeLine; decide, fun w nw => ?_⟩
                      have s7 := same_new (o := .tup [.int n, .int c, .int t, .ref pg2, bv]) nw
                      have x7 := x6.same s7
                      have hw : upd H6 w (.tup [.int n, .int c, .int t, .ref pg2, bv]) w = some (.tup [.int n, .int c, .int t, .ref pg2, bv]) := upd_same
                      have hpg7 := s7 _ _ hpg
                      have pq7 := Paired.mapP pq fun q kv h => Pg.same_seqT s7 h
                      replace s2 := s2.trans s7
                      clear x6 s7 pq hpg nw dt6 dM6 hM6 hτ6
                      generalize upd H6 w (.tup [.int n, .int c, .int t, .ref pg2, bv]) = H7 at *
                      refine ⟨_, rfl, p, CMirror, dx, _, rfl, x7.hp, T.cl, T.n_shown, by show 4 < 1000; decide, ?_⟩
                      refine q _ _ (.newer nm g c t em all tm gct cmax eg) ⟨dx, aT, aC, aM, .ref w, fC, fM, ?_⟩ ((ChM.upd x7.own.1).pre s2)
                      have := x7.show (v := .ref w) (y := ⟨n, c, t, nm.1.map fun y => (y, (m.tx n y).getD ""), nm.2⟩) ⟨w, pg2, bv, ob2, qs, rfl, hw, hpg7, hd2, pq7, ok.bh.keep (Same.keepT s2) db, ok.bh.nl⟩
                      exact this
theorem ok_Mirror_hear (F : Fun K "hear" "Mirror.hear" s_Mirror_hear f fd) (z : Z mg) (T : T_Mirror K mg CMirror) (cMirror_hear_page : CalMX P w K mg base CMirror "_hear_page" 5 ["self", "number", "name", "text"] (spMHearP K CMirror ulC))
    (cMirror_hear_seal : CalMX P w K mg base CMirror "_hear_seal" 5 ["self", "number", "count", "time", "names", "behind"] (spMHearS K CMirror ulC)) (cMirror_show : CalM P w K mg base CMirror "_show" 1 ["self", "number"] (spMShow K CMirror)) : FnOk P w K mg base (L2.CX P w) 6 f fd ["self", "letter"] (spMHear K CMirror ulC) := by
  refine F.okX sc_Mirror_hear (fun vs H Q E h => ?_) (fun cdv A outer s H vs Q E hr h => ?_)
  · obtain ⟨p, fp, m, k, v, l, rfl, _⟩ := h
    rfl
  · obtain ⟨p, fp, m, k, v, l, rfl, ⟨dx, aT, aC, aM, sv, fC, fM, x⟩, few, dv, lok, pm, q1, q2⟩ := h
    refine ⟨_, (pss_cons (ps_set (i := 2) sc_Mirror_hear.nd rfl (Or.inl rfl) (pe_fld (pv 0) rfl))
      (C8.pss_cut (ps_if (pt_cmpR op_eq (pe_ix ix_tup (pv 1) pe_int (fun _ _ => rfl)) pe_str (nomark _))
        (pss_cons (ps_asg (pv 1) (pg_tup rfl (pgs_cons (pg_name (i := 3) sc_Mirror_hear.nd rfl (Or.inl rfl)) (pgs_cons (pg_name (i := 4) sc_Mirror_hear.nd rfl (Or.inl rfl)) (pgs_cons (pg_name (i := 5) sc_Mirror_hear.nd rfl (Or.inl rfl)) (pgs_cons (pg_name (i := 6) sc_Mirror_hear.nd rfl (Or.inl rfl)) pgs_nil))))))
        (pss_one (ps_expr (pe_calMX cMirror_hear_page (hr.mono (by decide)) (fun σ => passAt (takes_of rfl rfl rfl rfl) σ) (pv 0) (pa_cons (pv 4) (pa_cons (pv 5) (pa_cons (pv 6) pa_nil)))))))
        (pss_cons (ps_asg (pv 1) (pg_tup rfl (pgs_cons (pg_name (i := 3) sc_Mirror_hear.nd rfl (Or.inl rfl)) (pgs_cons (pg_name (i := 4) sc_Mirror_hear.nd rfl (Or.inl rfl)) (pgs_cons (pg_name (i := 7) sc_Mirror_hear.nd rfl (Or.inl rfl)) (pgs_cons (pg_name (i := 8) sc_Mirror_hear.nd rfl (Or.inl rfl)) (pgs_cons (pg_name (i := 9) sc_Mirror_hear.nd rfl (Or.inl rfl)) (pgs_cons (pg_name (i := 10) sc_Mirror_hear.nd rfl (Or.inl rfl)) pgs_nil))))))))
        (pss_one (ps_expr (pe_calMX cMirror_hear_seal (hr.mono (by decide)) (fun σ => passAt (takes_of rfl rfl rfl rfl) σ) (pv 0) (pa_cons (pv 4) (pa_cons (pv 7) (pa_cons (pv 8) (pa_cons (pv 9) (pa_cons (pv 10) pa_nil))))))))))
      (pss_cons (ps_expr (pe_calM cMirror_show (hr.mono (by decide)) (pv 0) (pa_cons (pv 4) pa_nil)))
      (pss_one (ps_ret (pe_cmpR (op_neD hr.units) (pe_fld (pv 0) rfl) (pv 2) (nomark _))))))), ?_⟩
    refine ⟨_, rfl, p, CMirror, dx, _, _, rfl, x.hp, T.cl, T.n_shown, rfl, ?_⟩
    refine ⟨fun σ' H' => ∃ (y3 y5 y6 y7 y8 y9 y10 : Option V) (fp1 : Addr → Prop), σ' = [some (.ref p), some v, some sv, y3, some (.int l.n), y5, y6, y7, y8, y9, y10] ∧ okL m l ∧ MirA K CMirror H' p fp1 (updL m l) (k + 2) ∧ ChM fp fp1 H H', ?_, ?_⟩
    · cases l with
      | pg n s0 t =>
        cases dv with
        | @tup lv xs _ sq dall =>
          cases dall with
          | cons d0 dall =>
            cases d0
            cases dall with
            | cons d1 dall =>
              cases d1
              cases dall with
              | cons d2 dall =>
                cases d2
                cases dall with
                | cons d3 dall =>
                  cases d3
                  cases dall
                  refine ⟨_, rfl, lv, _, _, _, rfl, rfl, sq, atI_nat (j := 0) rfl, rfl, _, rfl, ite2 (fun _ => ?_) (fun e => absurd (by decide +kernel) e)⟩
                  refine ⟨_, rfl, lv, _, rfl, sq, rfl, _, _, rfl, _, _, rfl, _, _, rfl, _, _, rfl, rfl, ?_⟩
                  refine ⟨_, rfl, p, dx, _, rfl, x.hp, rfl, _, rfl, _, rfl, _, rfl, p, fp, m, k, n, s0, t, rfl, ⟨dx, aT, aC, aM, sv, fC, fM, x⟩, by omega, fun ok H1 x1 ch1 => ?_, fun ok H1 x1 ch1 => q2 ok H1 x1 ch1⟩
                  obtain ⟨dx1, aT1, aC1, aM1, sv1, fC1, fM1, x1⟩ := x1
                  exact ⟨_, _, _, _, _, _, _, fp, rfl, ok, ⟨dx1, aT1, aC1, aM1, sv1, fC1, fM1, x1.mono (by omega)⟩, ch1⟩
      | sl n c t nm =>
        cases dv with
        | @tup lv xs _ sq dall =>
          cases dall with
          | cons d0 dall =>
            cases d0
            cases dall with
            | cons d1 dall =>
              cases d1
              cases dall with
              | cons d2 dall =>
                cases d2
                cases dall with
                | cons d3 dall =>
                  cases d3
                  cases dall with
                  | cons d4 dall =>
                    cases dall with
                    | cons d5 dall =>
                      cases dall
                      refine ⟨_, rfl, lv, _, _, _, rfl, rfl, sq, atI_nat (j := 0) rfl, rfl, _, rfl, ite2 (fun e => absurd e (by decide +kernel)) (fun _ => ?_)⟩
                      refine ⟨_, rfl, lv, _, rfl, sq, rfl, _, _, rfl, _, _, rfl, _, _, rfl, _, _, rfl, _, _, rfl, _, _, rfl, rfl, ?_⟩
                      refine ⟨_, rfl, p, dx, _, rfl, x.hp, rfl, _, rfl, _, rfl, _, rfl, _, rfl, _, rfl, p, fp, m, k, n, c, t, _, _, nm, rfl, ⟨dx, aT, aC, aM, sv, fC, fM, x⟩, by omega, d4, d5, lok.2.2.2.2.2.2, fun ok H1 fp1 x1 ch1 => ?_, fun ok H1 x1 ch1 => q2 ok H1 x1 ch1⟩
                      exact ⟨_, _, _, _, _, _, _, fp1, rfl, ok, x1, ch1⟩
    · rintro σ H1 ⟨y3, y5, y6, y7, y8, y9, y10, fp1, rfl, ok, ⟨dx1, aT1, aC1, aM1, sv1, fC1, fM1, x1⟩, ch1⟩
      obtain ⟨pre, q1'⟩ := q1 ok
      refine ⟨_, rfl, p, dx1, _, rfl, x1.hp, rfl, _, rfl, p, fp1, _, _, _, rfl, ⟨dx1, aT1, aC1, aM1, sv1, fC1, fM1, x1⟩, by omega, pre, fun m' H2 sr x2 ch2 => ?_⟩
      obtain ⟨pm', q1''⟩ := q1' m' sr
      have ch := ch1.trans ch2
      obtain ⟨dx2, aT2, aC2, aM2, sv2, fC2, fM2, x2'⟩ := x2
      refine ⟨_, rfl, p, CMirror, dx2, _, _, rfl, x2'.hp, T.cl, T.n_shown, rfl, _, rfl, _, _, x2'.sh.dp, pm.keep (ch.keepT x.live) x.sh.dp, pm'.sz.shaped (by decide), pm.sz.shaped (by decide), ?_⟩
      exact q1'' H2 fp1 ⟨dx2, aT2, aC2, aM2, sv2, fC2, fM2, x2'⟩ ch
end
end K61

namespace K61
open PySem PySem.Spec PyProof.Rows L2 Pg
/-! ### versions, their letters, and which is shown -/
def namesV (v : MVer) : List Str × PyData := (v.pages.map (·.1), v.bh)
def lettersV (v : MVer) : List Ltr := v.pages.map (fun p => Ltr.pg v.n p.1 p.2) ++ [.sl v.n v.c v.t (namesV v)]
def allL (vs : List MVer) : List Ltr := vs.flatMap lettersV
def complete (ls : List Ltr) (v : MVer) : Prop := ∀ l ∈ lettersV v, l ∈ ls
/-- versions one behind another -/
def After (v u : MVer) : Prop := v.c < u.c ∧ v.n ≤ u.n ∧ (v.n = u.n → v.pages = u.pages ∧ v.bh = u.bh)
structure VOk (v : MVer) : Prop where
  n1 : 1 ≤ v.n
  n2 : v.n ≤ 1000
  c : 0 ≤ v.c ∧ v.c ≤ 100000
  t : 0 ≤ v.t ∧ v.t ≤ 100000
  few : v.pages.length ≤ 6
  nd : (v.pages.map (·.1)).Nodup
  pg : ∀ p ∈ v.pages, Codes p.1 ∧ p.1.length ≤ 10 ∧ Codes p.2 ∧ p.2.length ≤ 10
  bh : ∃ ds, v.bh = .tuple ds ∧ ds.length ≤ 4 ∧ ∀ d ∈ ds, Pd 3 200 d
structure VsOk (vs : List MVer) : Prop where
  ok : ∀ v ∈ vs, VOk v
  pw : vs.Pairwise After
theorem pw_two {α : Type} {R : α → α → Prop} : ∀ {l : List α}, l.Pairwise R → ∀ {a b : α}, a ∈ l → b ∈ l → a = b ∨ R a b ∨ R b a
  | [], _, a, b, h, _ => by cases h
  | x :: r, p, a, b, ha, hb => by
    obtain ⟨h1, h2⟩ := List.pairwise_cons.mp p
    rcases List.mem_cons.mp ha with e | ha
    · rcases List.mem_cons.mp hb with e2 | hb
      · exact .inl (by rw [e, e2])
      · exact .inr (.inl (by rw [e]; exact h1 _ hb))
    · rcases List.mem_cons.mp hb with e2 | hb
      · exact .inr (.inr (by rw [e2]; exact h1 _ ha))
      · exact pw_two h2 ha hb
section
variable {vs : List MVer}
theorem VsOk.same (o : VsOk vs) {v u : MVer} (hv : v ∈ vs) (hu : u ∈ vs) (e : v.n = u.n) : v.pages = u.pages ∧ v.bh = u.bh := by
  rcases pw_two o.pw hv hu with h | h | h
  · rw [h]; exact ⟨rfl, rfl⟩
  · exact h.2.2 e
  · obtain ⟨h1, h2⟩ := h.2.2 e.symm
    exact ⟨h1.symm, h2.symm⟩
theorem VsOk.one (o : VsOk vs) {v u : MVer} (hv : v ∈ vs) (hu : u ∈ vs) (e : v.c = u.c) : v = u := by
  rcases pw_two o.pw hv hu with h | h | h
  · exact h
  · have := h.1; omega
  · have := h.1; omega
theorem VsOk.lt (o : VsOk vs) {v u : MVer} (hv : v ∈ vs) (hu : u ∈ vs) (e : v.n < u.n) : v.c < u.c := by
  rcases pw_two o.pw hv hu with h | h | h
  · rw [h] at e; omega
  · exact h.1
  · have := h.2.1; omega
theorem mem_all {l : Ltr} : l ∈ allL vs ↔ ∃ v ∈ vs, l ∈ lettersV v := List.mem_flatMap
theorem pg_in {n : Int} {s t : Str} {v : MVer} (h : Ltr.pg n s t ∈ lettersV v) : n = v.n ∧ (s, t) ∈ v.pages := by
  rcases List.mem_append.mp h with h | h
  · obtain ⟨p, hp, e⟩ := List.mem_map.mp h
    cases e
    exact ⟨rfl, hp⟩
  · cases List.mem_singleton.mp h
theorem sl_in {n c t : Int} {nm : List Str × PyData} {v : MVer} (h : Ltr.sl n c t nm ∈ lettersV v) : n = v.n ∧ c = v.c ∧ t = v.t ∧ nm = namesV v := by
  rcases List.mem_append.mp h with h | h
  · obtain ⟨p, hp, e⟩ := List.mem_map.mp h
    cases e
  · cases List.mem_singleton.mp h
    exact ⟨rfl, rfl, rfl, rfl⟩
theorem n_in {l : Ltr} {v : MVer} (h : l ∈ lettersV v) : l.n = v.n := by
  cases l with
  | pg n s t => exact (pg_in h).1
  | sl n c t nm => exact (sl_in h).1
theorem sl_mem (v : MVer) : Ltr.sl v.n v.c v.t (namesV v) ∈ lettersV v := List.mem_append_right _ (List.mem_singleton.mpr rfl)
theorem pg_mem {v : MVer} {p : Str × Str} (h : p ∈ v.pages) : Ltr.pg v.n p.1 p.2 ∈ lettersV v := List.mem_append_left _ (List.mem_map.mpr ⟨p, h, rfl⟩)
theorem key_uniq {l : List (Str × Str)} (nd : (l.map (·.1)).Nodup) : ∀ {p q : Str × Str}, p ∈ l → q ∈ l → p.1 = q.1 → p = q := by
  induction l with
  | nil => intro p q h; cases h
  | cons z r ih =>
    intro p q hp hq e
    obtain ⟨n1, n2⟩ := List.nodup_cons.mp nd
    rcases List.mem_cons.mp hp with e1 | h1
    · rcases List.mem_cons.mp hq with e2 | h2
      · rw [e1, e2]
      · rw [e1] at e
        exact absurd (show z.1 ∈ r.map (·.1) from List.mem_map.mpr ⟨q, h2, e.symm⟩) n1
    · rcases List.mem_cons.mp hq with e2 | h2
      · rw [e2] at e
        exact absurd (show z.1 ∈ r.map (·.1) from List.mem_map.mpr ⟨p, h1, e⟩) n1
      · exact ih n2 h1 h2 e
theorem VsOk.pg1 (o : VsOk vs) {n : Int} {s t t' : Str} (h : Ltr.pg n s t ∈ allL vs) (h' : Ltr.pg n s t' ∈ allL vs) : t = t' := by
  obtain ⟨v, hv, a⟩ := mem_all.mp h
  obtain ⟨u, hu, b⟩ := mem_all.mp h'
  obtain ⟨a1, a2⟩ := pg_in a
  obtain ⟨b1, b2⟩ := pg_in b
  have e := (o.same hv hu (by rw [← a1, ← b1])).1
  rw [← e] at b2
  have := key_uniq (o.ok v hv).nd a2 b2 rfl
  exact (Prod.mk.inj this).2
theorem VsOk.sl1 (o : VsOk vs) {n c t c' t' : Int} {nm nm' : List Str × PyData} (h : Ltr.sl n c t nm ∈ allL vs) (h' : Ltr.sl n c' t' nm' ∈ allL vs) : nm = nm' ∧ (c = c' → t = t') := by
  obtain ⟨v, hv, a⟩ := mem_all.mp h
  obtain ⟨u, hu, b⟩ := mem_all.mp h'
  obtain ⟨a1, a2, a3, a4⟩ := sl_in a
  obtain ⟨b1, b2, b3, b4⟩ := sl_in b
  obtain ⟨e1, e2⟩ := o.same hv hu (by rw [← a1, ← b1])
  refine ⟨by rw [a4, b4]; unfold namesV; rw [e1, e2], fun e => ?_⟩
  have := o.one hv hu (by rw [← a2, ← b2]; exact e)
  rw [a3, b3, this]
/-- what the mirror knows of the letters heard -/
structure Rel (ls : List Ltr) (m : Mir) : Prop where
  tx : ∀ n s t, m.tx n s = some t ↔ Ltr.pg n s t ∈ ls
  ct : ∀ n nm, m.ct n = some nm ↔ ∃ c t, Ltr.sl n c t nm ∈ ls
  tm : ∀ n c t, (∃ g, m.tm n = some g ∧ g c = some t) ↔ ∃ nm, Ltr.sl n c t nm ∈ ls
/-- v is the one that is shown -/
def IsShown (ls : List Ltr) (vs : List MVer) (v : MVer) : Prop := (v = MVer.zero ∧ ∀ u ∈ vs, ¬ complete ls u) ∨ (v ∈ vs ∧ complete ls v ∧ ∀ u ∈ vs, complete ls u → u.c ≤ v.c)
theorem VsOk.shown1 (o : VsOk vs) {ls : List Ltr} {v u : MVer} (a : IsShown ls vs v) (b : IsShown ls vs u) : v = u := by
  rcases a with ⟨a1, a2⟩ | ⟨a1, a2, a3⟩ <;> rcases b with ⟨b1, b2⟩ | ⟨b1, b2, b3⟩
  · rw [a1, b1]
  · exact absurd b2 (a2 u b1)
  · exact absurd a2 (b2 v a1)
  · have h1 := a3 u b1 b2
    have h2 := b3 v a1 a2
    exact o.one a1 b1 (by omega)
theorem Rel.zero : Rel [] Mir.zero := ⟨fun n s t => ⟨fun h => (by cases h), fun h => (by cases h)⟩, fun n nm => ⟨fun h => (by cases h), fun ⟨_, _, h⟩ => (by cases h)⟩, fun n c t => ⟨fun ⟨_, h, _⟩ => (by cases h), fun ⟨_, h⟩ => (by cases h)⟩⟩
theorem shown_zero (vs : List MVer) : IsShown [] vs MVer.zero := .inl ⟨rfl, fun u _ h => by cases h _ (sl_mem u)⟩
/-- a letter of a version is taken -/
theorem VsOk.takes (o : VsOk vs) {ls : List Ltr} {m : Mir} (r : Rel ls m) (sub : ∀ l ∈ ls, l ∈ allL vs) {l : Ltr} (hl : l ∈ allL vs) : okL m l := by
  cases l with
  | pg n s t =>
    show (m.tx n s).getD t = t
    cases e : m.tx n s with
    | none => rfl
    | some t' => exact o.pg1 (sub _ ((r.tx n s t').mp e)) hl
  | sl n c t nm =>
    refine ⟨?_, ?_⟩
    · cases e : m.ct n with
      | none => rfl
      | some nm' =>
        obtain ⟨c', t', h⟩ := (r.ct n nm').mp e
        exact (o.sl1 (sub _ h) hl).1
    · cases e : m.tm n with
      | none => rfl
      | some g =>
        show (g c).getD t = t
        cases e2 : g c with
        | none => rfl
        | some t' =>
          obtain ⟨nm', h⟩ := (r.tm n c t').mp ⟨g, e, e2⟩
          exact (o.sl1 (sub _ h) hl).2 rfl
theorem Rel.upd (o : VsOk vs) {ls : List Ltr} {m : Mir} (r : Rel ls m) (sub : ∀ l ∈ ls, l ∈ allL vs) {l : Ltr} (hl : l ∈ allL vs) : Rel (ls ++ [l]) (updL m l) := by
  cases l with
  | pg n s t =>
    refine ⟨fun j q u => ?_, fun j nm => ?_, fun j c u => ?_⟩
    · show (if j = n ∧ q = s then some t else m.tx j q) = some u ↔ _
      rw [List.mem_append, List.mem_singleton]
      by_cases e : j = n ∧ q = s
      · rw [if_pos e, e.1, e.2]
        constructor
        · intro h; rw [Option.some.inj h]; exact .inr rfl
        · rintro (h | h)
          · rw [o.pg1 (sub _ h) hl]
          · cases h; rfl
      · rw [if_neg e, r.tx]
        constructor
        · exact .inl
        · rintro (h | h)
          · exact h
          · cases h; exact absurd ⟨rfl, rfl⟩ e
    · show m.ct j = some nm ↔ _
      rw [r.ct]
      constructor
      · rintro ⟨c, u, h⟩; exact ⟨c, u, List.mem_append_left _ h⟩
      · rintro ⟨c, u, h⟩
        rcases List.mem_append.mp h with h | h
        · exact ⟨c, u, h⟩
        · cases List.mem_singleton.mp h
    · show (∃ g, m.tm j = some g ∧ g c = some u) ↔ _
      rw [r.tm]
      constructor
      · rintro ⟨nm, h⟩; exact ⟨nm, List.mem_append_left _ h⟩
      · rintro ⟨nm, h⟩
        rcases List.mem_append.mp h with h | h
        · exact ⟨nm, h⟩
        · cases List.mem_singleton.mp h
  | sl n c t nm =>
    refine ⟨fun j q u => ?_, fun j nm' => ?_, fun j c' u => ?_⟩
    · show m.tx j q = some u ↔ _
      rw [r.tx]
      constructor
      · exact fun h => List.mem_append_left _ h
      · intro h
        rcases List.mem_append.mp h with h | h
        · exact h
        · cases List.mem_singleton.mp h
    · show upF m.ct n nm j = some nm' ↔ _
      unfold upF
      by_cases e : j = n
      · rw [if_pos e, e]
        constructor
        · intro h; rw [← Option.some.inj h]; exact ⟨c, t, List.mem_append_right _ (List.mem_singleton.mpr rfl)⟩
        · rintro ⟨c', u, h⟩
          rcases List.mem_append.mp h with h | h
          · rw [(o.sl1 (sub _ h) hl).1]
          · cases List.mem_singleton.mp h; rfl
      · rw [if_neg e, r.ct]
        constructor
        · rintro ⟨c', u, h⟩; exact ⟨c', u, List.mem_append_left _ h⟩
        · rintro ⟨c', u, h⟩
          rcases List.mem_append.mp h with h | h
          · exact ⟨c', u, h⟩
          · cases List.mem_singleton.mp h; exact absurd rfl e
    · show (∃ g, upF m.tm n (upF ((m.tm n).getD fun _ => none) c t) j = some g ∧ g c' = some u) ↔ _
      unfold upF
      by_cases e : j = n
      · rw [if_pos e, e]
        constructor
        · rintro ⟨g, h1, h2⟩
          rw [← Option.some.inj h1] at h2
          replace h2 : (if c' = c then some t else ((m.tm n).getD fun _ => none) c') = some u := h2
          by_cases ec : c' = c
          · rw [if_pos ec] at h2
            rw [ec, ← Option.some.inj h2]
            exact ⟨nm, List.mem_append_right _ (List.mem_singleton.mpr rfl)⟩
          · rw [if_neg ec] at h2
            cases em : m.tm n with
            | none => rw [em] at h2; cases h2
            | some g' =>
              rw [em] at h2
              obtain ⟨nm', h⟩ := (r.tm n c' u).mp ⟨g', em, h2⟩
              exact ⟨nm', List.mem_append_left _ h⟩
        · rintro ⟨nm', h⟩
          refine ⟨_, rfl, ?_⟩
          show (if c' = c then some t else ((m.tm n).getD fun _ => none) c') = some u
          rcases List.mem_append.mp h with h | h
          · by_cases ec : c' = c
            · rw [if_pos ec, (o.sl1 hl (sub _ h)).2 ec.symm]
            · rw [if_neg ec]
              obtain ⟨g', h1, h2⟩ := (r.tm n c' u).mpr ⟨nm', h⟩
              rw [h1]; exact h2
          · cases List.mem_singleton.mp h
            rw [if_pos rfl]
      · rw [if_neg e, r.tm]
        constructor
        · rintro ⟨nm', h⟩; exact ⟨nm', List.mem_append_left _ h⟩
        · rintro ⟨nm', h⟩
          rcases List.mem_append.mp h with h | h
          · exact ⟨nm', h⟩
          · cases List.mem_singleton.mp h; exact absurd rfl e
theorem upd_sh (m : Mir) (l : Ltr) : (updL m l).sh = m.sh := by cases l <;> rfl
theorem Rel.pre {ls : List Ltr} {m : Mir} (r : Rel ls m) (n : Int) (nm : List Str × PyData) (h : m.ct n = some nm) : ∃ g c t, m.tm n = some g ∧ g c = some t := by
  obtain ⟨c, t, h⟩ := (r.ct n nm).mp h
  obtain ⟨g, h1, h2⟩ := (r.tm n c t).mpr ⟨nm, h⟩
  exact ⟨g, c, t, h1, h2⟩
theorem Rel.of_sh {ls : List Ltr} {m : Mir} (r : Rel ls m) (x : MVer) : Rel ls { m with sh := x } := ⟨r.tx, r.ct, r.tm⟩
/-- a version that a letter makes complete has its number -/
theorem comp_old {ls : List Ltr} {l : Ltr} {u : MVer} (h : complete (ls ++ [l]) u) (ne : u.n ≠ l.n) : complete ls u := fun x hx => by
  rcases List.mem_append.mp (h x hx) with h | h
  · exact h
  · rw [List.mem_singleton.mp h] at hx
    exact absurd (n_in hx).symm ne
theorem comp_more {ls : List Ltr} {l : Ltr} {u : MVer} (h : complete ls u) : complete (ls ++ [l]) u := fun x hx => List.mem_append_left _ (h x hx)
theorem map_self {f : Str → Str} : ∀ {l : List (Str × Str)}, (∀ p ∈ l, f p.1 = p.2) → (l.map (·.1)).map (fun x => (x, f x)) = l
  | [], _ => rfl
  | p :: r, h => by
    rw [List.map_cons, List.map_cons, map_self fun q hq => h q (List.mem_cons_of_mem _ hq), h p List.mem_cons_self]
theorem VsOk.shows (o : VsOk vs) {ls : List Ltr} {m m' : Mir} {l : Ltr} (r : Rel (ls ++ [l]) (updL m l)) (sub : ∀ x ∈ ls ++ [l], x ∈ allL vs) (hs : IsShown ls vs m.sh) (sr : ShowRel (updL m l) l.n m') : IsShown (ls ++ [l]) vs m'.sh ∧ Rel (ls ++ [l]) m' := by
  have keep : (∀ u ∈ vs, complete (ls ++ [l]) u → u.n = l.n → ∃ w ∈ vs, complete ls w ∧ w = m.sh ∧ u.c ≤ w.c) → IsShown (ls ++ [l]) vs m.sh := fun h => by
    rcases hs with ⟨e, no⟩ | ⟨h1, h2, h3⟩
    · refine .inl ⟨e, fun u hu cu => ?_⟩
      by_cases en : u.n = l.n
      · obtain ⟨w, hw, cw, _⟩ := h u hu cu en
        exact no w hw cw
      · exact no u hu (comp_old cu en)
    · refine .inr ⟨h1, comp_more h2, fun u hu cu => ?_⟩
      by_cases en : u.n = l.n
      · obtain ⟨w, hw, cw, e, le⟩ := h u hu cu en
        rw [← e]; exact le
      · exact h3 u hu (comp_old cu en)
  cases sr with
  | unknown e =>
    rw [upd_sh]
    refine ⟨keep fun u hu cu en => ?_, r⟩
    have := (r.ct l.n (namesV u)).mpr ⟨u.c, u.t, by rw [← en]; exact cu _ (sl_mem u)⟩
    rw [e] at this; cases this
  | missing nm e h =>
    rw [upd_sh]
    refine ⟨keep fun u hu cu en => ?_, r⟩
    obtain ⟨x, hx, ex⟩ := h
    have e2 := (r.ct l.n (namesV u)).mpr ⟨u.c, u.t, by rw [← en]; exact cu _ (sl_mem u)⟩
    rw [e] at e2
    rw [Option.some.inj e2] at hx
    obtain ⟨p, hp, rfl⟩ := List.mem_map.mp hx
    have := (r.tx l.n p.1 p.2).mpr (by rw [← en]; exact cu _ (pg_mem hp))
    rw [ex] at this; cases this
  | older nm g c t e all tm gc mx lt =>
    rw [upd_sh] at lt ⊢
    refine ⟨keep fun u hu cu en => ?_, r⟩
    have lu : u.c ≤ c := by
      obtain ⟨g', h1, h2⟩ := (r.tm l.n u.c u.t).mpr ⟨namesV u, by rw [← en]; exact cu _ (sl_mem u)⟩
      rw [tm] at h1
      rw [← Option.some.inj h1] at h2
      exact mx _ (by rw [h2]; rfl)
    rcases hs with ⟨e0, no⟩ | ⟨h1, h2, h3⟩
    · exfalso
      have n1 := (o.ok u hu).n1
      rw [e0] at lt
      unfold lexGe at lt
      rw [if_neg (by show ¬ l.n = 0; omega)] at lt
      exact absurd (show (0 : Int) ≤ l.n by omega) (of_decide_eq_false lt)
    · refine ⟨m.sh, h1, h2, rfl, ?_⟩
      unfold lexGe at lt
      by_cases en2 : l.n = m.sh.n
      · rw [if_pos en2] at lt
        have := of_decide_eq_false lt
        omega
      · rw [if_neg en2] at lt
        have h4 := of_decide_eq_false lt
        have := o.lt hu h1 (by omega)
        omega
  | newer nm g c t e all tm gc mx ge =>
    rw [upd_sh] at ge
    refine ⟨?_, r.of_sh _⟩
    obtain ⟨nm', hl⟩ := (r.tm l.n c t).mp ⟨g, tm, gc⟩
    obtain ⟨v, hv, iv⟩ := mem_all.mp (sub _ hl)
    obtain ⟨a1, a2, a3, a4⟩ := sl_in iv
    have enm : nm = namesV v := by
      have := (r.ct l.n nm').mpr ⟨c, t, hl⟩
      rw [e] at this
      rw [Option.some.inj this, a4]
    have cv : complete (ls ++ [l]) v := fun x hx => by
      cases x with
      | pg n s u =>
        obtain ⟨b1, b2⟩ := pg_in hx
        have hs2 : s ∈ nm.1 := by rw [enm]; exact List.mem_map.mpr ⟨_, b2, rfl⟩
        obtain ⟨u', eu⟩ := Option.isSome_iff_exists.mp (all s hs2)
        have h5 := (r.tx l.n s u').mp eu
        have h6 : Ltr.pg l.n s u ∈ allL vs := mem_all.mpr ⟨v, hv, by rw [a1]; exact pg_mem b2⟩
        rw [b1, ← a1, o.pg1 h6 (sub _ h5)]
        exact h5
      | sl n c' t' nm2 =>
        obtain ⟨b1, b2, b3, b4⟩ := sl_in hx
        rw [b1, b2, b3, b4, ← a1, ← a2, ← a3, ← a4]
        exact hl
    have ev : ({ n := l.n, c := c, t := t, pages := nm.1.map fun x => (x, ((updL m l).tx l.n x).getD ""), bh := nm.2 } : MVer) = v := by
      have ep : (nm.1.map fun x => (x, ((updL m l).tx l.n x).getD "")) = v.pages := by
        rw [enm]
        refine map_self fun p hp => ?_
        have := (r.tx l.n p.1 p.2).mpr (by rw [a1]; exact cv _ (pg_mem hp))
        rw [this]; rfl
      rw [ep, a1, a2, a3, enm]
      rfl
    show IsShown (ls ++ [l]) vs { n := l.n, c := c, t := t, pages := nm.1.map fun x => (x, ((updL m l).tx l.n x).getD ""), bh := nm.2 }
    rw [ev]
    refine .inr ⟨hv, cv, fun u hu cu => ?_⟩
    by_cases en : u.n = l.n
    · obtain ⟨g', h1, h2⟩ := (r.tm l.n u.c u.t).mpr ⟨namesV u, by rw [← en]; exact cu _ (sl_mem u)⟩
      rw [tm] at h1
      rw [← Option.some.inj h1] at h2
      rw [← a2]
      exact mx _ (by rw [h2]; rfl)
    · have cu0 := comp_old cu en
      rcases hs with ⟨e0, no⟩ | ⟨h1, h2, h3⟩
      · exact absurd cu0 (no u hu)
      · have le := h3 u hu cu0
        unfold lexGe at ge
        by_cases en2 : l.n = m.sh.n
        · rw [if_pos en2] at ge
          have := of_decide_eq_true ge
          omega
        · rw [if_neg en2] at ge
          have h4 := of_decide_eq_true ge
          have := o.lt h1 hv (by omega)
          omega
/-- the law's own way to it -/
theorem shown_next {ls : List Ltr} {ps : List MVer} {f v : MVer} (o : VsOk (ps ++ [v])) (h : IsShown ls ps f) :
    (complete ls v → (if v.n = f.n then decide (f.c < v.c) else decide (f.n < v.n)) = true ∧ IsShown ls (ps ++ [v]) v) ∧ (¬ complete ls v → IsShown ls (ps ++ [v]) f) := by
  have hv : v ∈ ps ++ [v] := List.mem_append_right _ (List.mem_singleton.mpr rfl)
  have ahead : ∀ u ∈ ps, After u v := fun u hu => (List.pairwise_append.mp o.pw).2.2 u hu v (List.mem_singleton.mpr rfl)
  refine ⟨fun c => ⟨?_, .inr ⟨hv, c, fun u hu _ => ?_⟩⟩, fun nc => ?_⟩
  · rcases h with ⟨e, _⟩ | ⟨h1, _, _⟩
    · have n1 := (o.ok v hv).n1
      rw [e, if_neg (by show ¬ v.n = 0; omega)]
      exact decide_eq_true (show (0 : Int) < v.n by omega)
    · have a := ahead f h1
      by_cases en : v.n = f.n
      · rw [if_pos en]; exact decide_eq_true a.1
      · rw [if_neg en]; exact decide_eq_true (by have := a.2.1; omega)
  · rcases List.mem_append.mp hu with h1 | h1
    · have := (ahead u h1).1; omega
    · rw [List.mem_singleton.mp h1]; exact Int.le_refl _
  · rcases h with ⟨e, no⟩ | ⟨h1, h2, h3⟩
    · refine .inl ⟨e, fun u hu cu => ?_⟩
      rcases List.mem_append.mp hu with h1 | h1
      · exact no u h1 cu
      · rw [List.mem_singleton.mp h1] at cu; exact nc cu
    · refine .inr ⟨List.mem_append_left _ h1, h2, fun u hu cu => ?_⟩
      rcases List.mem_append.mp hu with h4 | h4
      · exact h3 u h4 cu
      · rw [List.mem_singleton.mp h4] at cu; exact absurd cu nc
end
end K61

namespace K61
open PySem PySem.Spec PyProof.Rows L2 Pg
theorem pdl {z : Str} (h : z.cps.toList.all (fun c => decide (c < 1114112)) = true) (l : z.length ≤ 10) : Pd 0 10 (.str z) := Pd.str (fun c hc => of_decide_eq_true (List.all_eq_true.mp h c hc)) l
theorem VOk.bhd {v : MVer} (o : VOk v) : ∃ ds, v.bh = .tuple ds ∧ PdA 4 1000 ds := by
  obtain ⟨ds, e, l, h⟩ := o.bh
  exact ⟨ds, e, (PdA.all h l).mono (by decide) (by decide)⟩
theorem VOk.cont {v : MVer} (o : VOk v) : ContOk (namesV v) := by
  obtain ⟨ds, e, pd⟩ := o.bhd
  refine ⟨by show (v.pages.map (·.1)).length ≤ 20; rw [List.length_map]; have := o.few; omega, fun x hx => ?_, ?_, ⟨ds, e⟩⟩
  · obtain ⟨p, hp, rfl⟩ := List.mem_map.mp hx
    obtain ⟨h1, h2, _⟩ := o.pg p hp
    exact ⟨h1, by omega⟩
  · show Pd 6 3000 v.bh
    rw [e]
    exact pd.tup.mono (by decide) (by decide)
theorem pairs_pd {l : List (Str × Str)} (h : ∀ p ∈ l, Codes p.1 ∧ p.1.length ≤ 10 ∧ Codes p.2 ∧ p.2.length ≤ 10) (f : l.length ≤ 6) : PdA 1 (6 * (22 + 1)) (l.map pairD) := PdA.all (fun d hd => by
  obtain ⟨p, hp, rfl⟩ := List.mem_map.mp hd
  obtain ⟨h1, h2, h3, h4⟩ := h p hp
  exact (PdA.cons (Pd.str h1 h2) (PdA.cons (Pd.str h3 h4) PdA.nil)).tup) (by rw [List.length_map]; exact f)
theorem VOk.pd {v : MVer} (o : VOk v) : Pd 8 20000 v.d := by
  obtain ⟨ds, e, pd⟩ := o.bhd
  have i : ∀ {i : Int}, -99999999 ≤ i → i ≤ 99999999 → Pd 5 0 (.int i) := fun h1 h2 => (Pd.int (by omega) (by omega)).mono (Nat.zero_le _) (Nat.le_refl _)
  have h1 := o.n1
  have h2 := o.n2
  have h3 := o.c
  have h4 := o.t
  refine ((PdA.cons (i (by omega) (by omega)) (PdA.cons (i (by omega) (by omega)) (PdA.cons (i (by omega) (by omega)) (PdA.cons ((pairs_pd o.pg o.few).tup.mono (by decide) (Nat.le_refl _)) (PdA.cons ((e ▸ pd.tup : Pd 5 1000 v.bh)) PdA.nil))))).tup).mono (by decide) (by decide)
theorem zero_pd : Pd 8 20000 MVer.zero.d := ((PdA.cons ((Pd.int (by decide) (by decide)).mono (Nat.zero_le 1) (Nat.le_refl _)) (PdA.cons ((Pd.int (by decide) (by decide)).mono (Nat.zero_le 1) (Nat.le_refl _)) (PdA.cons ((Pd.int (by decide) (by decide)).mono (Nat.zero_le 1) (Nat.le_refl _)) (PdA.cons PdA.nil.tup (PdA.cons PdA.nil.tup PdA.nil))))).tup).mono (by decide) (by decide)
theorem VOk.letters {v : MVer} (o : VOk v) {l : Ltr} (h : l ∈ lettersV v) : l.ok := by
  have h1 := o.n1
  have h2 := o.n2
  have h3 := o.c
  have h4 := o.t
  cases l with
  | pg n s t =>
    obtain ⟨a1, a2⟩ := pg_in h
    obtain ⟨b1, b2, b3, b4⟩ := o.pg _ a2
    exact ⟨by omega, by omega, b1, by simp only at b2; omega, b3, by simp only at b4; omega⟩
  | sl n c t nm =>
    obtain ⟨a1, a2, a3, a4⟩ := sl_in h
    exact ⟨by omega, by omega, by omega, by omega, by omega, by omega, by rw [a4]; exact o.cont⟩
theorem ltr_pd {l : Ltr} (o : l.ok) : Pd 8 6000 l.d := by
  have i : ∀ {i : Int}, -99999999 ≤ i → i ≤ 99999999 → Pd 7 0 (.int i) := fun h1 h2 => (Pd.int (by omega) (by omega)).mono (Nat.zero_le _) (Nat.le_refl _)
  cases l with
  | pg n s t =>
    obtain ⟨a1, a2, a3, a4, a5, a6⟩ := o
    exact ((PdA.cons ((pdl (z := "page") (by decide +kernel) (by decide)).mono (Nat.zero_le 7) (Nat.le_refl _)) (PdA.cons (i a1 a2) (PdA.cons ((Pd.str a3 a4).mono (Nat.zero_le 7) (Nat.le_refl _)) (PdA.cons ((Pd.str a5 a6).mono (Nat.zero_le 7) (Nat.le_refl _)) PdA.nil)))).tup).mono (by decide) (by decide)
  | sl n c t nm =>
    obtain ⟨a1, a2, a3, a4, a5, a6, a7⟩ := o
    exact ((PdA.cons ((pdl (z := "seal") (by decide +kernel) (by decide)).mono (Nat.zero_le 7) (Nat.le_refl _)) (PdA.cons (i a1 a2) (PdA.cons (i a3 a4) (PdA.cons (i a5 a6) (PdA.cons ((names_pd a7.ok a7.few).tup.mono (by decide) (Nat.le_refl _)) (PdA.cons (a7.bh.mono (by decide) (Nat.le_refl _)) PdA.nil)))))).tup).mono (by decide) (by decide)
theorem ver_parts {K : PySem.W.Frag} {H : Hp} {v : V} {x : MVer} (h : Dp K H v x.d) : ∃ (a pa : Addr) (bv : V) (us : List V), v = .ref a ∧ SqT K H a [.int x.n, .int x.c, .int x.t, .ref pa, bv] ∧ SqT K H pa us ∧ DpAll K H us (x.pages.map pairD) ∧ Dp K H bv x.bh := by
  cases h with
  | @tup a xs _ sq dall =>
    cases dall with
    | cons d0 dall =>
      cases d0
      cases dall with
      | cons d1 dall =>
        cases d1
        cases dall with
        | cons d2 dall =>
          cases d2
          cases dall with
          | cons d3 dall =>
            cases dall with
            | cons d4 dall =>
              cases dall
              cases d3 with
              | @tup pa us _ sp dp => exact ⟨a, pa, _, us, rfl, sq, sp, dp, d4⟩
theorem pair_parts {K : PySem.W.Frag} {H : Hp} {v : V} {p : Str × Str} (h : Dp K H v (pairD p)) : ∃ q, v = .ref q ∧ SqT K H q [.str p.1, .str p.2] := by
  cases h with
  | @tup a xs _ sq dall =>
    cases dall with
    | cons d0 dall =>
      cases d0
      cases dall with
      | cons d1 dall =>
        cases d1
        cases dall
        exact ⟨a, rfl, sq⟩
theorem firsts_dp {K : PySem.W.Frag} {H : Hp} : ∀ l : List (Str × Str), DpAll K H (l.map fun p => V.str p.1) (l.map fun p => PyData.str p.1)
  | [] => .nil
  | _ :: r => .cons (.str _) (firsts_dp r)
def spLetters (K : PySem.W.Frag) : Sp := fun vs H Q _ => ∃ (v : V) (x : MVer), vs = [v] ∧ Dp K H v x.d ∧ VOk x ∧ ∀ (H' : Hp) (l : Addr), Same H H' → H l = none → LAt K H' l ((lettersV x).map Ltr.d) → Q (.ref l) H'
def spLHear (K : PySem.W.Frag) (C ul : Addr) : Sp := fun vs H Q E => ∃ (p : Addr) (fp : Addr → Prop) (m : Mir) (k : Nat) (v : V) (l : Ltr), vs = [.ref p, v] ∧ MirA K C H p fp m k ∧ k < 900 ∧ Dp K H v l.d ∧ l.ok ∧ Pd 8 20000 m.sh.d ∧
  (okL m l → (∀ nm, (updL m l).ct l.n = some nm → ∃ g c t, (updL m l).tm l.n = some g ∧ g c = some t) ∧ ∀ m', ShowRel (updL m l) l.n m' → Pd 8 20000 m'.sh.d ∧ ∀ (H' : Hp) (fp' : Addr → Prop), MirA K C H' p fp' m' (k + 2) → ChM fp fp' H H' → Q (.bl (!PyData.eqv m'.sh.d m.sh.d)) H') ∧
  (¬ okL m l → ∀ (H' : Hp) (t : Addr), MirA K C H' p fp m k → ChM fp fp H H' → H' t = some (.tup [.str "refused", .bl true]) → Q (.ref t) H')
/-- a letter that is unlike one that was heard -/
def Unlike (l l' : Ltr) : Prop := match l with
  | .pg n s t => ∃ t', l' = .pg n s t' ∧ t' ≠ t
  | .sl n c t nm => ∃ c' t' nm', l' = .sl n c' t' nm' ∧ (nm' ≠ nm ∨ (nm' = nm ∧ c' = c ∧ t' ≠ t))
def spUnlike (K : PySem.W.Frag) : Sp := fun vs H Q _ => ∃ (b : Addr) (v : V) (x : MVer) (l : Ltr), vs = [.ref b, v] ∧ Box H b ∧ Dp K H v l.d ∧ l ∈ lettersV x ∧ VOk x ∧ ∀ (H' : Hp) (v' : V) (l' : Ltr), Drew b H H' → Unlike l l' → l'.ok → Dp K H' v' l'.d → Q v' H'
theorem drew_kt {K : PySem.W.Frag} {b : Addr} {H H' : Hp} (x : Drew b H H') (hb : Box H b) : KeepT K H H' := by
  obtain ⟨dg, ds, n, h1, h2, _⟩ := hb
  rintro a xs ((h | ⟨o, h⟩) | h)
  · exact .inl (.inl (x.keep a _ (by rintro rfl; rw [h1] at h; cases h) h))
  · exact .inl (.inr ⟨o, x.keep a _ (by rintro rfl; rw [h1] at h; cases h) h⟩)
  · exact .inr h
theorem vstr_dp {K : PySem.W.Frag} {H : Hp} : ∀ l : List Str, DpAll K H (l.map V.str) (l.map PyData.str)
  | [] => .nil
  | _ :: r => .cons (.str _) (vstr_dp r)
theorem nolist_app {ds es : List PyData} (a : noLAll ds = true) (b : noLAll es = true) : noLAll (ds ++ es) = true := by
  induction ds with
  | nil => exact b
  | cons d r ih =>
    rw [noLAll, Bool.and_eq_true] at a
    rw [List.cons_append, noLAll, a.1, ih a.2]
    rfl
theorem app_keep {K : PySem.W.Frag} {H H' : Hp} {v : V} {D M D' M' : Nat} {ds es : List PyData} (a : PdA D M ds) (b : PdA D' M' es) (k : KeepT K H H') (h : Dp K H v (.tuple (ds ++ es))) : Dp K H' v (.tuple (ds ++ es)) :=
  Dp.keepT k _ _ (by show noLAll (ds ++ es) = true; exact nolist_app a.nl b.nl) h
def zzD : PyData := .tuple [.str "zzz", .tuple [.str "failed", .str "zzz"]]
theorem zz_pd : PdA 3 200 [zzD] := by
  have f : PdA 0 22 [PyData.str "failed", .str "zzz"] := PdA.cons (pdl (by decide +kernel) (by decide)) (PdA.cons (pdl (by decide +kernel) (by decide)) PdA.nil)
  exact (PdA.cons ((PdA.cons ((pdl (z := "zzz") (by decide +kernel) (by decide)).mono (Nat.zero_le 1) (Nat.le_refl _)) (PdA.cons f.tup PdA.nil)).tup.mono (by decide) (Nat.le_refl _)) PdA.nil).mono (Nat.le_refl 3) (by decide)
theorem pg_parts {K : PySem.W.Frag} {H : Hp} {v : V} {n : Int} {s t : Str} (h : Dp K H v (Ltr.pg n s t).d) : ∃ a, v = .ref a ∧ SqT K H a [.str "page", .int n, .str s, .str t] := by
  cases h with
  | @tup a xs _ sq dall =>
    cases dall with
    | cons d0 dall =>
      cases d0
      cases dall with
      | cons d1 dall =>
        cases d1
        cases dall with
        | cons d2 dall =>
          cases d2
          cases dall with
          | cons d3 dall =>
            cases d3
            cases dall
            exact ⟨a, rfl, sq⟩
theorem sl_parts {K : PySem.W.Frag} {H : Hp} {v : V} {n c t : Int} {nm : List Str × PyData} (h : Dp K H v (Ltr.sl n c t nm).d) : ∃ (a na : Addr) (bv : V), v = .ref a ∧ SqT K H a [.str "seal", .int n, .int c, .int t, .ref na, bv] ∧ SqT K H na (nm.1.map V.str) ∧ Dp K H bv nm.2 := by
  cases h with
  | @tup a xs _ sq dall =>
    cases dall with
    | cons d0 dall =>
      cases d0
      cases dall with
      | cons d1 dall =>
        cases d1
        cases dall with
        | cons d2 dall =>
          cases d2
          cases dall with
          | cons d3 dall =>
            cases d3
            cases dall with
            | cons d4 dall =>
              cases dall with
              | cons d5 dall =>
                cases dall
                cases d4 with
                | @tup na ws _ sqn dn =>
                  obtain rfl := strs_vals dn
                  exact ⟨a, na, _, rfl, sq, sqn, d5⟩
theorem catA_dp {K : PySem.W.Frag} {H : Hp} {a b : Addr} {xs ys : List V} {ds es : List PyData} {D M N : Nat} {Q : V → Hp → Prop} (ha : SqT K H a xs) (hb : SqT K H b ys) (da : DpAll K H xs ds) (db : DpAll K H ys es) (pa : PdA D M ds) (pb : PdA D N es) (z : xs.length + ys.length ≤ 1000)
    (q : ∀ (v : V) (H' : Hp), Same H H' → Dp K H' v (.tuple (ds ++ es)) → Q v H') : rCatA K (.ref a) (.ref b) H Q := by
  refine ⟨a, b, xs, ys, rfl, rfl, ha, hb, sizeLine_big (by omega), fun e => ?_, fun _ e => ?_, fun _ _ p np => ?_⟩
  · subst e
    cases da
    exact q _ _ (Same.refl _) (.tup hb db)
  · subst e
    cases db
    exact q _ _ (Same.refl _) (by rw [List.append_nil]; exact .tup ha da)
  · have s := same_new (o := .tup (xs ++ ys)) np
    exact q _ _ s (.tup (.inl (.inl upd_same)) (dpAll_app (pa.keep (Same.keepT s) da) (pb.keep (Same.keepT s) db)))
section
variable {P : Program} {w : World} {K : PySem.W.Frag} {mg : Str → Option Value} {base : Heap} {f CMirror ulC pgC nkC : Addr} {fd : FuncData}
theorem ok_law_letters (F : Fun K "_law_letters" "_law_letters" s_law_letters f fd) (z : Z mg) : FnOk P w K mg base CX0 1 f fd ["version"] (spLetters K) := by
  refine F.ok sc_law_letters (fun vs H Q E h => ?_) (fun cdv A outer s H vs Q E hr h => ?_)
  · obtain ⟨v, x, rfl, _⟩ := h
    rfl
  · obtain ⟨v, x, rfl, dv, o, q⟩ := h
    refine ⟨_, (pss_cons (ps_setLc (i := 1) (own := [("name", 3), ("text", 4)]) (g := (gTup K 2 (gCons (gName 3) (gCons (gName 4) gNil)))) (tt := tYes) rfl sc_law_letters.nd rfl rfl (sw_true rfl rfl rfl (by decide +kernel)) (pi_tup (pe_ix ix_tup (pv 0) pe_int (fun _ _ => rfl))) (blkOk_by (own := [("name", 3), ("text", 4)]) (N := ["version", "letters", "names", "name", "text"]) (sc := defScope s_law_letters) (by decide +kernel)) (fun _ _ _ _ _ => (pg_tupK (K := K) rfl rfl (pgs_cons (pg_name (i := 3) sc_law_letters.nd rfl (Or.inl rfl)) (pgs_cons (pg_name (i := 4) sc_law_letters.nd rfl (Or.inl rfl)) pgs_nil)))) (fun _ _ _ _ _ => pts_nil) (fun _ _ _ _ _ => (pe_tup (pa_cons pe_str (pa_cons (pe_ix (ix_tupK (K := K) rfl) (pv 0) pe_int (fun _ _ => rfl)) (pa_cons (pv 3) (pa_cons (pv 4) pa_nil)))))))
      (pss_cons (ps_set (i := 2) sc_law_letters.nd rfl (Or.inl rfl) (pe_callTy call_tuple_of (by rfl) z.tuple (by decide +kernel) (pa_cons (pe_lc (own := [("name", 3), ("text", 4)]) (g := (gTup K 2 (gCons (gName 3) (gCons (gName 4) gNil)))) (tt := tYes) rfl sc_law_letters.nd (pi_tup (pe_ix ix_tup (pv 0) pe_int (fun _ _ => rfl))) (blkOk_by (own := [("name", 3), ("text", 4)]) (N := ["version", "letters", "names", "name", "text"]) (sc := defScope s_law_letters) (by decide +kernel)) (fun _ _ _ _ _ => (pg_tupK (K := K) rfl rfl (pgs_cons (pg_name (i := 3) sc_law_letters.nd rfl (Or.inl rfl)) (pgs_cons (pg_name (i := 4) sc_law_letters.nd rfl (Or.inl rfl)) pgs_nil)))) (fun _ _ _ _ _ => pts_nil) (fun _ _ _ _ _ => (pv 3))) pa_nil)))
      (pss_one (ps_ret (pe_op op_cat (pv 1) (pe_lst (pa_cons (pe_tup (pa_cons pe_str (pa_cons (pe_ix ix_tup (pv 0) pe_int (fun _ _ => rfl)) (pa_cons (pe_ix ix_tup (pv 0) pe_int (fun _ _ => rfl)) (pa_cons (pe_ix ix_tup (pv 0) pe_int (fun _ _ => rfl)) (pa_cons (pv 2) (pa_cons (pe_ix ix_tup (pv 0) pe_int (fun _ _ => rfl)) pa_nil))))))) pa_nil))))))), ?_⟩
    obtain ⟨a, pa, bv, us, rfl, sq, sp, dp, db⟩ := ver_parts dv
    have lu := dpAll_len dp
    rw [List.length_map] at lu
    have few := o.few
    refine ⟨.ref a, rfl, a, _, _, .ref pa, rfl, rfl, sq, atI_nat (j := 3) rfl, pa, rfl, ⟨_, sp⟩, fun D nD => ?_⟩
    refine lc_tup (K := K) (a := pa) (xs := us) (fun i H' => Same H H' ∧ ∃ ws, H' D = some (.lst ws) ∧ ws.length ≤ i ∧ DpAll K H' ws ((x.pages.take i).map fun p => (Ltr.pg x.n p.1 p.2).d)) ⟨same_new nD, [], upd_same, Nat.le_refl _, .nil⟩ (fun i H' _ ⟨s1, _⟩ => Pg.same_seqT s1 sp) ?_ ?_
    · rintro i y H' hy ⟨s1, ws, hD, lw, da⟩
      obtain ⟨d, hd, dy⟩ := dpAll_get' dp hy
      rw [List.getElem?_map] at hd
      obtain ⟨p, hp, rfl⟩ : ∃ p, x.pages[i]? = some p ∧ pairD p = d := by
        cases e : x.pages[i]? with
        | none => rw [e] at hd; cases hd
        | some p => rw [e] at hd; exact ⟨p, rfl, Option.some.inj hd⟩
      obtain ⟨r, rfl, sr⟩ := pair_parts dy
      have tk : x.pages.take (i + 1) = x.pages.take i ++ [p] := by rw [List.take_add_one, hp]; rfl
      have il := (List.getElem?_eq_some_iff.mp hp).1
      refine ⟨r, _, rfl, Pg.same_seqT s1 sr, rfl, _, _, rfl, _, _, rfl, rfl, rfl, yes (iteT ?_)⟩
      refine ⟨.ref a, rfl, a, _, _, .int x.n, rfl, rfl, Pg.same_seqT s1 sq, atI_nat (j := 0) rfl, _, rfl, _, rfl, by show 4 ≤ sizeLine; decide, fun b nb => ?_⟩
      have sb := same_new (o := .tup [.str "page", .int x.n, .str p.1, .str p.2]) nb
      have hDb := sb _ _ hD
      have kt : KeepT K (upd H' b (.tup [.str "page", .int x.n, .str p.1, .str p.2])) (upd (upd H' b (.tup [.str "page", .int x.n, .str p.1, .str p.2])) D (.lst (ws ++ [.ref b]))) := KeepT.upd (by rw [hDb]; intro xs h; cases h) (by rw [hDb]; intro b xs h; cases h)
      refine ⟨ws, hDb, small5 (by omega), fun q o e => by rw [upd_ne (ne_of_none e nD)]; exact sb _ _ (s1 _ _ e), ws ++ [.ref b], upd_same, by rw [List.length_append]; show ws.length + 1 ≤ _; omega, ?_⟩
      rw [tk, List.map_append]
      have pda : PdA 8 (6 * (6000 + 1)) ((x.pages.take i).map fun p => (Ltr.pg x.n p.1 p.2).d) := PdA.all (fun d hd => by
        obtain ⟨p', hp', rfl⟩ := List.mem_map.mp hd
        exact ltr_pd (o.letters (pg_mem (List.mem_of_mem_take hp')))) (by rw [List.length_map, List.length_take]; omega)
      exact dpAll_app (pda.keep (fun u xs h => kt u xs (Same.keepT sb u xs h)) da) (.cons (.tup (kt _ _ (.inl (.inl upd_same))) (.cons (.str _) (.cons (.int _) (.cons (.str _) (.cons (.str _) .nil))))) .nil)
    · rintro H1 ⟨s1, ws, hD, lw, da⟩
      rw [lu, List.take_length] at da
      have sq1 := Pg.same_seqT s1 sq
      have sp1 := Pg.same_seqT s1 sp
      refine ⟨.ref a, rfl, a, _, _, .ref pa, rfl, rfl, sq1, atI_nat (j := 3) rfl, pa, rfl, ⟨_, sp1⟩, fun D2 nD2 => ?_⟩
      refine lc_tup (K := K) (a := pa) (xs := us) (fun i H' => Same H1 H' ∧ H' D2 = some (.lst ((x.pages.take i).map fun p => V.str p.1))) ⟨same_new nD2, upd_same⟩ (fun i H' _ ⟨s2, _⟩ => Pg.same_seqT s2 sp1) ?_ ?_
      · rintro i y H' hy ⟨s2, hD2⟩
        obtain ⟨d, hd, dy⟩ := dpAll_get' dp hy
        rw [List.getElem?_map] at hd
        obtain ⟨p, hp, rfl⟩ : ∃ p, x.pages[i]? = some p ∧ pairD p = d := by
          cases e : x.pages[i]? with
          | none => rw [e] at hd; cases hd
          | some p => rw [e] at hd; exact ⟨p, rfl, Option.some.inj hd⟩
        obtain ⟨r, rfl, sr⟩ := pair_parts dy
        have tk : x.pages.take (i + 1) = x.pages.take i ++ [p] := by rw [List.take_add_one, hp]; rfl
        have il := (List.getElem?_eq_some_iff.mp hp).1
        refine ⟨r, _, rfl, Pg.same_seqT s2 (Pg.same_seqT s1 sr), rfl, _, _, rfl, _, _, rfl, rfl, rfl, yes (iteT ?_)⟩
        refine ⟨_, rfl, _, hD2, by rw [List.length_map]; exact small5 (by have := List.length_take_le' i x.pages; omega), fun q o e => by rw [upd_ne (ne_of_none e nD2)]; exact s2 _ _ e, ?_⟩
        rw [upd_same, tk, List.map_append]
        rfl
      · rintro H2 ⟨s2, hD2⟩
        rw [lu, List.take_length] at hD2
        refine ⟨D2, _, rfl, .inl ⟨.inl (.inl hD2), fun t nt => ?_⟩⟩
        have st := same_new (o := .tup (x.pages.map fun p => V.str p.1)) nt
        have s3 := s2.trans st
        have sq3 := Pg.same_seqT s3 sq1
        refine ⟨_, rfl, .ref a, rfl, a, _, _, .int x.n, rfl, rfl, sq3, atI_nat (j := 0) rfl, .ref a, rfl, a, _, _, .int x.c, rfl, rfl, sq3, atI_nat (j := 1) rfl, .ref a, rfl, a, _, _, .int x.t, rfl, rfl, sq3, atI_nat (j := 2) rfl, _, rfl, .ref a, rfl, a, _, _, bv, rfl, rfl, sq3, atI_nat (j := 4) rfl, by show 6 ≤ sizeLine; decide, fun u nu => ⟨by show 1 ≤ sizeLine; decide, fun L nL => ?_⟩⟩
        have s4 := same_new (o := .tup [.str "seal", .int x.n, .int x.c, .int x.t, .ref t, bv]) nu
        have s5 := same_new (o := .lst [.ref u]) nL
        have s45 := s4.trans s5
        have hD5 := s45 _ _ (s3 _ _ hD)
        refine ⟨D, L, _, _, rfl, rfl, hD5, upd_same, sizeLine_big (by show ws.length + 1 ≤ _; omega), fun R nR => ?_⟩
        have s6 := same_new (o := .lst (ws ++ [.ref u])) nR
        have sA := s3.trans (s45.trans s6)
        have nR0 : H R = none := back0 (s1.trans (s3.trans s45)) nR
        refine q _ R (s1.trans sA) nR0 ⟨ws ++ [.ref u], upd_same, ?_⟩
        unfold lettersV
        rw [List.map_append, List.map_map]
        have pda : PdA 8 (6 * (6000 + 1)) (x.pages.map fun p => (Ltr.pg x.n p.1 p.2).d) := PdA.all (fun d hd => by
          obtain ⟨p', hp', rfl⟩ := List.mem_map.mp hd
          exact ltr_pd (o.letters (pg_mem hp'))) (by rw [List.length_map]; exact few)
        refine dpAll_app (pda.keep (Same.keepT sA) da) (.cons (.tup (.inl (.inl (s6 _ _ (s5 _ _ upd_same)))) (.cons (.str _) (.cons (.int _) (.cons (.int _) (.cons (.int _) (.cons (.tup (.inl (.inl (s45.trans s6 _ _ upd_same))) ?_) (.cons ?_ .nil))))))) .nil)
        · have : ((namesV x).1.map PyData.str) = x.pages.map fun p => PyData.str p.1 := by unfold namesV; rw [List.map_map]; rfl
          rw [this]
          exact firsts_dp x.pages
        · obtain ⟨ds, e, pd⟩ := o.bhd
          have pb : Pd 5 1000 x.bh := by rw [e]; exact pd.tup
          exact pb.keep (Same.keepT (s1.trans sA)) db
theorem ok_law_hear (F : Fun K "_law_hear" "_law_hear" s_law_hear f fd) (z : Z mg) (ul : ErrTxt K mg "UnlikeLetters" ulC) (pg : ErrTxt K mg "PageError" pgC) (nk : ErrTxt K mg "NotKept" nkC) (ulX : ExcC K ulC) (y1 : PySem.W.exmOne K (.ref ulC) (.ref pgC) = some true) (y2 : PySem.W.kitOne K (.ref ulC) (.ref ulC) = some true) (y4 : PySem.W.kitOne K (.ref ulC) (.ref nkC) = some false)
    (cMirror_hear : CalMX P w K mg base CMirror "hear" 6 ["self", "letter"] (spMHear K CMirror ulC)) : FnOk P w K mg base CX0 7 f fd ["mirror", "letter"] (spLHear K CMirror ulC) := by
  refine F.ok sc_law_hear (fun vs H Q E h => ?_) (fun cdv A outer s H vs Q E hr h => ?_)
  · obtain ⟨p, fp, m, k, v, l, rfl, _⟩ := h
    rfl
  · obtain ⟨p, fp, m, k, v, l, rfl, ⟨dx, aT, aC, aM, sv, fC, fM, x⟩, few, dv, lok, pm, q1, q2⟩ := h
    refine ⟨_, (pss_one (ps_tryL rfl rfl sc_law_hear.nd takes0
        (fun W pn xe tk _ => (pss_one (ps_ret (pe_calMX cMirror_hear (hr.mono (by decide)) (fun σ => passAt tk σ) (pv 0) (pa_cons (pv 1) pa_nil)))))
        (.as_ (i := 2) ⟨rfl, by decide, Or.inl pg.g⟩ rfl rfl (fun a oe cls d pn hz hf => (pss_one (ps_ret (pe_tup (pa_cons pe_str (pa_cons (pe_and (pe_callB (call_isEW ulX hz hf) (by rfl) z.isinstance (by decide +kernel) (pa_cons (pv 2) (pa_cons (pe_glob (v := .ref _) (by rfl) ul.g rfl) pa_nil))) (pe_one (pe_not (pe_callB (call_isEW ulX hz hf) (by rfl) z.isinstance (by decide +kernel) (pa_cons (pv 2) (pa_cons (pe_glob (v := .ref _) (by rfl) nk.g rfl) pa_nil)))))) pa_nil)))))) .nil))), ?_⟩
    refine ⟨_, rfl, p, dx, _, rfl, x.hp, rfl, _, rfl, p, fp, m, k, v, l, rfl, ⟨dx, aT, aC, aM, sv, fC, fM, x⟩, few, dv, lok, pm, q1, fun nok H1 x1 ch1 => ?_⟩
    refine ⟨true, y1, fun _ a na => ?_, fun h => by cases h⟩
    refine ⟨_, rfl, rfl, rfl, _, _, true, rfl, fun u r => r, y2, true, rfl, iteT ?_⟩
    exact ⟨_, rfl, rfl, rfl, _, _, false, rfl, fun u r => r, y4, false, rfl, by show 2 ≤ sizeLine; decide, fun t nt => q2 nok _ t (x1.same (same_new nt)) (ch1.same (same_new nt)) upd_same⟩
theorem ok_law_unlike (F : Fun K "_law_unlike" "_law_unlike" s_law_unlike f fd) (z : Z mg) (claw_draw : Cal P w K mg base "_law_draw" 1 ["box", "many"] spDraw) : FnOk P w K mg base CX0 2 f fd ["box", "letter"] (spUnlike K) := by
  refine F.ok sc_law_unlike (fun vs H Q E h => ?_) (fun cdv A outer s H vs Q E hr h => ?_)
  · obtain ⟨b, v, x, l, rfl, _⟩ := h
    rfl
  · obtain ⟨b, v, x, l, rfl, hb, dv, hl, o, q⟩ := h
    refine ⟨_, (pss_cons (ps_if (pt_cmpR op_eq (pe_ix ix_tup (pv 1) pe_int (fun _ _ => rfl)) pe_str (nomark _))
        (pss_one (ps_ret (pe_tup (pa_cons pe_str (pa_cons (pe_ix ix_tup (pv 1) pe_int (fun _ _ => rfl)) (pa_cons (pe_ix ix_tup (pv 1) pe_int (fun _ _ => rfl)) (pa_cons (pe_op op_add_str (pe_ix ix_tup (pv 1) pe_int (fun _ _ => rfl)) pe_str) pa_nil)))))))
        pss_nil)
      (pss_cons (ps_set (i := 2) sc_law_unlike.nd rfl (Or.inl rfl) (pe_cal claw_draw (hr.mono (by decide)) (by rfl) (pa_cons (pv 0) (pa_cons pe_int pa_nil))))
      (pss_cons (ps_if (pt_cmpR op_eq (pv 2) pe_int (nomark _))
        (pss_one (ps_ret (pe_tup (pa_cons pe_str (pa_cons (pe_ix ix_tup (pv 1) pe_int (fun _ _ => rfl)) (pa_cons (pe_ix ix_tup (pv 1) pe_int (fun _ _ => rfl)) (pa_cons (pe_ix ix_tup (pv 1) pe_int (fun _ _ => rfl)) (pa_cons (pe_op op_catA (pe_ix ix_tup (pv 1) pe_int (fun _ _ => rfl)) (pe_tup (pa_cons pe_str pa_nil))) (pa_cons (pe_ix ix_tup (pv 1) pe_int (fun _ _ => rfl)) pa_nil)))))))))
        pss_nil)
      (pss_cons (ps_if (pt_cmpR op_eq (pv 2) pe_int (nomark _))
        (pss_one (ps_ret (pe_tup (pa_cons pe_str (pa_cons (pe_ix ix_tup (pv 1) pe_int (fun _ _ => rfl)) (pa_cons (pe_op op_add (pe_ix ix_tup (pv 1) pe_int (fun _ _ => rfl)) (pe_cal claw_draw (hr.mono (by decide)) (by rfl) (pa_cons (pv 0) (pa_cons pe_int pa_nil)))) (pa_cons (pe_ix ix_tup (pv 1) pe_int (fun _ _ => rfl)) (pa_cons (pe_ix ix_tup (pv 1) pe_int (fun _ _ => rfl)) (pa_cons (pe_op op_catA (pe_ix ix_tup (pv 1) pe_int (fun _ _ => rfl)) (pe_tup (pa_cons (pe_tup (pa_cons pe_str (pa_cons (pe_tup (pa_cons pe_str (pa_cons pe_str pa_nil))) pa_nil))) pa_nil))) pa_nil)))))))))
        pss_nil)
      (pss_cons (ps_if (pt_cmpR op_eq (pv 2) pe_int (nomark _))
        (pss_one (ps_ret (pe_tup (pa_cons pe_str (pa_cons (pe_ix ix_tup (pv 1) pe_int (fun _ _ => rfl)) (pa_cons (pe_op op_add (pe_ix ix_tup (pv 1) pe_int (fun _ _ => rfl)) pe_int) (pa_cons (pe_op op_add (pe_ix ix_tup (pv 1) pe_int (fun _ _ => rfl)) pe_int) (pa_cons (pe_op op_catA (pe_ix ix_tup (pv 1) pe_int (fun _ _ => rfl)) (pe_tup (pa_cons pe_str pa_nil))) (pa_cons (pe_ix ix_tup (pv 1) pe_int (fun _ _ => rfl)) pa_nil)))))))))
        pss_nil)
      (pss_one (ps_ret (pe_tup (pa_cons pe_str (pa_cons (pe_ix ix_tup (pv 1) pe_int (fun _ _ => rfl)) (pa_cons (pe_ix ix_tup (pv 1) pe_int (fun _ _ => rfl)) (pa_cons (pe_op op_add (pe_ix ix_tup (pv 1) pe_int (fun _ _ => rfl)) pe_int) (pa_cons (pe_ix ix_tup (pv 1) pe_int (fun _ _ => rfl)) (pa_cons (pe_ix ix_tup (pv 1) pe_int (fun _ _ => rfl)) pa_nil)))))))))))))), ?_⟩
    have lok := o.letters hl
    cases l with
    | pg n s0 t =>
      obtain ⟨a, rfl, sq⟩ := pg_parts dv
      refine ⟨.ref a, rfl, a, _, _, .str "page", rfl, rfl, sq, atI_nat (j := 0) rfl, rfl, _, rfl, ite2 (fun _ => ?_) (fun e => absurd (by decide +kernel) e)⟩
      refine ⟨.ref a, rfl, a, _, _, .int n, rfl, rfl, sq, atI_nat (j := 1) rfl, .ref a, rfl, a, _, _, .str s0, rfl, rfl, sq, atI_nat (j := 2) rfl, .ref a, rfl, a, _, _, .str t, rfl, rfl, sq, atI_nat (j := 3) rfl, _, _, rfl, rfl, sizeLine_big (by have := lok.2.2.2.2.2; show t.length + 1 ≤ _; omega), by show 4 ≤ sizeLine; decide, fun u nu => ?_⟩
      obtain ⟨a1, a2, a3, a4, a5, a6⟩ := lok
      have tl := (o.pg _ (pg_in hl).2).2.2.2
      refine q _ (.ref u) (.pg n s0 (t ++ "x")) (Drew.of hb (same_new nu)) ⟨_, rfl, fun e => ?_⟩ ⟨a1, a2, a3, a4, ?_, ?_⟩ (.tup (.inl (.inl upd_same)) (.cons (.str _) (.cons (.int _) (.cons (.str _) (.cons (.str _) .nil)))))
      · have := congrArg Str.length e
        rw [len_app] at this
        have h1 : ("x" : Str).length = 1 := by decide
        omega
      · intro c hc
        rw [cd_app] at hc
        rcases List.mem_append.mp hc with h | h
        · exact a5 c h
        · have : cd "x" = [120] := by decide +kernel
          rw [this] at h
          rw [List.mem_singleton.mp h]
          decide
      · rw [len_app]
        have h1 : ("x" : Str).length = 1 := by decide
        simp only at tl
        omega
    | sl n c t nm =>
      obtain ⟨a, na, bv, rfl, sq, sqn, db⟩ := sl_parts dv
      refine ⟨.ref a, rfl, a, _, _, .str "seal", rfl, rfl, sq, atI_nat (j := 0) rfl, rfl, _, rfl, ite2 (fun e => absurd e (by decide +kernel)) (fun _ => ?_)⟩
      refine ⟨.ref b, rfl, b, 4, rfl, by decide, hb, fun r H1 r0 r1 d1 => ?_⟩
      have kt1 := drew_kt (K := K) d1 hb
      have sq1 := kt1 _ _ sq
      have sqn1 := kt1 _ _ sqn
      obtain ⟨e1, e2, e3, e4⟩ := sl_in hl
      obtain ⟨ds, ebh, lds, pds⟩ := o.bh
      have enm2 : nm.2 = .tuple ds := by rw [e4]; exact ebh
      have pdA : PdA 3 (4 * (200 + 1)) ds := PdA.all pds lds
      have pb : Pd 4 804 nm.2 := by rw [enm2]; exact pdA.tup
      have db1 := pb.keep kt1 db
      have lnm : nm.1.length ≤ 6 := by rw [e4]; show (x.pages.map (·.1)).length ≤ 6; rw [List.length_map]; exact o.few
      obtain ⟨a1, a2, a3, a4, a5, a6, a7⟩ := lok
      have ct := o.c
      have tt := o.t
      have pn := names_pd a7.ok a7.few
      have pz : PdA 0 (1 * (10 + 1)) [PyData.str "zzz"] := PdA.all (fun d hd => by rw [List.mem_singleton.mp hd]; exact pdl (by decide +kernel) (by decide)) (Nat.le_refl _)
      have dn1 : DpAll K H1 (nm.1.map V.str) (nm.1.map PyData.str) := vstr_dp nm.1
      have z0 : ContOk (nm.1 ++ [("zzz" : Str)], nm.2) := ⟨by show (nm.1 ++ [("zzz" : Str)]).length ≤ 20; rw [List.length_append]; show nm.1.length + 1 ≤ 20; omega, fun y hy => by
        rcases List.mem_append.mp hy with h | h
        · exact a7.ok y h
        · rw [List.mem_singleton.mp h]; exact ⟨fun c hc => of_decide_eq_true (List.all_eq_true.mp (show (("zzz" : Str).cps.toList.all fun c => decide (c < 1114112)) = true by decide +kernel) c hc), by decide⟩, a7.bh, a7.tup⟩
      have ne0 : (nm.1 ++ [("zzz" : Str)], nm.2) ≠ nm := fun h => by
        have := congrArg (fun z : List Str × PyData => z.1.length) h
        simp only [List.length_append] at this
        have h2 : (["zzz"] : List Str).length = 1 := rfl
        omega
      refine ⟨_, rfl, rfl, _, rfl, ite2 (fun _ => ?_) (fun _ => ⟨_, rfl, rfl, _, rfl, ite2 (fun _ => ?_) (fun _ => ⟨_, rfl, rfl, _, rfl, ite2 (fun _ => ?_) (fun _ => ?_)⟩)⟩)⟩
      · refine ⟨.ref a, rfl, a, _, _, .int n, rfl, rfl, sq1, atI_nat (j := 1) rfl, .ref a, rfl, a, _, _, .int c, rfl, rfl, sq1, atI_nat (j := 2) rfl, .ref a, rfl, a, _, _, .int t, rfl, rfl, sq1, atI_nat (j := 3) rfl, .ref a, rfl, a, _, _, .ref na, rfl, rfl, sq1, atI_nat (j := 4) rfl, by show 1 ≤ sizeLine; decide, fun u nu => ?_⟩
        have su := same_new (o := .tup [.str "zzz"]) nu
        refine catA_dp (Pg.same_seqT su sqn1) (.inl (.inl upd_same)) (vstr_dp nm.1) (.cons (.str _) .nil) pn pz (by rw [List.length_map]; show nm.1.length + 1 ≤ _; omega) fun v2 H2 s2 dv2 => ?_
        have s12 := su.trans s2
        refine ⟨.ref a, rfl, a, _, _, bv, rfl, rfl, Pg.same_seqT s12 sq1, atI_nat (j := 5) rfl, by show 6 ≤ sizeLine; decide, fun w nw => ?_⟩
        have sw := same_new (o := .tup [.str "seal", .int n, .int c, .int t, v2, bv]) nw
        refine q _ (.ref w) (.sl n c t (nm.1 ++ [("zzz" : Str)], nm.2)) (d1.same (s12.trans sw)) ⟨c, t, _, rfl, .inl ne0⟩ ⟨a1, a2, a3, a4, a5, a6, z0⟩ ?_
        refine .tup (.inl (.inl upd_same)) (.cons (.str _) (.cons (.int _) (.cons (.int _) (.cons (.int _) (.cons ?_ (.cons (pb.keep (Same.keepT (s12.trans sw)) db1) .nil))))))
        show Dp K _ v2 (.tuple ((nm.1 ++ [("zzz" : Str)]).map PyData.str))
        rw [List.map_append]
        exact app_keep pn pz (Same.keepT sw) dv2
      · -- another count, more behind
        refine ⟨.ref a, rfl, a, _, _, .int n, rfl, rfl, sq1, atI_nat (j := 1) rfl, .ref a, rfl, a, _, _, .int c, rfl, rfl, sq1, atI_nat (j := 2) rfl, .ref b, rfl, b, 9, rfl, by decide, d1.box, fun r2 H2 r20 r21 d2 => ?_⟩
        have kt2 := drew_kt (K := K) d2 d1.box
        have sq2 := kt2 _ _ sq1
        have sqn2 := kt2 _ _ sqn1
        have db2 := pb.keep kt2 db1
        rw [enm2] at db2
        cases db2 with
        | @tup ba bs _ sqb dbs =>
          have pzz : PdA 3 200 [zzD] := zz_pd
          refine ⟨_, _, rfl, rfl, .ref a, rfl, a, _, _, .int t, rfl, rfl, sq2, atI_nat (j := 3) rfl, .ref a, rfl, a, _, _, .ref na, rfl, rfl, sq2, atI_nat (j := 4) rfl, .ref a, rfl, a, _, _, .ref ba, rfl, rfl, sq2, atI_nat (j := 5) rfl, by show 2 ≤ sizeLine; decide, fun u1 nu1 => ⟨by show 2 ≤ sizeLine; decide, fun u2 nu2 => ⟨by show 1 ≤ sizeLine; decide, fun u3 nu3 => ?_⟩⟩⟩
          have t1 := same_new (o := .tup [.str "failed", .str "zzz"]) nu1
          have t2 := same_new (o := .tup [.str "zzz", .ref u1]) nu2
          have t3 := same_new (o := .tup [.ref u2]) nu3
          have tA := t1.trans (t2.trans t3)
          have lb := dpAll_len dbs
          refine catA_dp (Pg.same_seqT tA sqb) (.inl (.inl upd_same)) (pdA.keep (Same.keepT tA) dbs) (.cons (.tup (.inl (.inl (t3 _ _ upd_same))) (.cons (.str _) (.cons (.tup (.inl (.inl (t3 _ _ (t2 _ _ upd_same)))) (.cons (.str _) (.cons (.str _) .nil))) .nil))) .nil : DpAll K _ [.ref u2] [zzD]) pdA pzz (by show bs.length + 1 ≤ _; omega) fun v2 H3 s3 dv2 => ?_
          have sA := tA.trans s3
          refine ⟨by show 6 ≤ sizeLine; decide, fun w nw => ?_⟩
          have sw := same_new (o := .tup [.str "seal", .int n, .int (c + r2), .int t, .ref na, v2]) nw
          have z1 : ContOk (nm.1, .tuple (ds ++ [zzD])) := ⟨a7.few, a7.ok, ((PdA.all (n := 5) (fun d hd => by
            rcases List.mem_append.mp hd with h | h
            · exact pds d h
            · rw [List.mem_singleton.mp h]; exact pzz.mem zzD (by simp)) (by rw [List.length_append]; show ds.length + 1 ≤ 5; omega)).tup).mono (by decide) (by decide), ⟨_, rfl⟩⟩
          have ne1 : (nm.1, PyData.tuple (ds ++ [zzD])) ≠ nm := fun h => by
            have h2 := congrArg (fun z : List Str × PyData => z.2) h
            simp only [enm2] at h2
            have := congrArg List.length (PyData.tuple.inj h2)
            rw [List.length_append] at this
            have h3 : ([zzD] : List PyData).length = 1 := rfl
            omega
          refine q _ (.ref w) (.sl n (c + r2) t (nm.1, .tuple (ds ++ [zzD]))) ((d1.trans d2).same (sA.trans sw)) ⟨_, t, _, rfl, .inl ne1⟩ ⟨a1, a2, by omega, by omega, a5, a6, z1⟩ ?_
          exact .tup (.inl (.inl upd_same)) (.cons (.str _) (.cons (.int _) (.cons (.int _) (.cons (.int _) (.cons (.tup (Pg.same_seqT (sA.trans sw) sqn2) (vstr_dp nm.1)) (.cons (app_keep pdA pzz (Same.keepT sw) dv2) .nil))))))
      · -- another count and time, one name more
        refine ⟨.ref a, rfl, a, _, _, .int n, rfl, rfl, sq1, atI_nat (j := 1) rfl, .ref a, rfl, a, _, _, .int c, rfl, rfl, sq1, atI_nat (j := 2) rfl, _, _, rfl, rfl, .ref a, rfl, a, _, _, .int t, rfl, rfl, sq1, atI_nat (j := 3) rfl, _, _, rfl, rfl, .ref a, rfl, a, _, _, .ref na, rfl, rfl, sq1, atI_nat (j := 4) rfl, by show 1 ≤ sizeLine; decide, fun u nu => ?_⟩
        have su := same_new (o := .tup [.str "zzz"]) nu
        refine catA_dp (Pg.same_seqT su sqn1) (.inl (.inl upd_same)) (vstr_dp nm.1) (.cons (.str _) .nil) pn pz (by rw [List.length_map]; show nm.1.length + 1 ≤ _; omega) fun v2 H2 s2 dv2 => ?_
        have s12 := su.trans s2
        refine ⟨.ref a, rfl, a, _, _, bv, rfl, rfl, (Pg.same_seqT s12 sq1), atI_nat (j := 5) rfl, by show 6 ≤ sizeLine; decide, fun w nw => ?_⟩
        have sw := same_new (o := .tup [.str "seal", .int n, .int (c + 9), .int (t + 1), v2, bv]) nw
        refine q _ (.ref w) (.sl n (c + 9) (t + 1) (nm.1 ++ [("zzz" : Str)], nm.2)) (d1.same (s12.trans sw)) ⟨_, _, _, rfl, .inl ne0⟩ ⟨a1, a2, by omega, by omega, by omega, by omega, z0⟩ ?_
        refine .tup (.inl (.inl upd_same)) (.cons (.str _) (.cons (.int _) (.cons (.int _) (.cons (.int _) (.cons ?_ (.cons (pb.keep (Same.keepT (s12.trans sw)) db1) .nil))))))
        show Dp K _ v2 (.tuple ((nm.1 ++ [("zzz" : Str)]).map PyData.str))
        rw [List.map_append]
        exact app_keep pn pz (Same.keepT sw) dv2
      · -- another time
        refine ⟨.ref a, rfl, a, _, _, .int n, rfl, rfl, sq1, atI_nat (j := 1) rfl, .ref a, rfl, a, _, _, .int c, rfl, rfl, sq1, atI_nat (j := 2) rfl, .ref a, rfl, a, _, _, .int t, rfl, rfl, sq1, atI_nat (j := 3) rfl, _, _, rfl, rfl, .ref a, rfl, a, _, _, .ref na, rfl, rfl, sq1, atI_nat (j := 4) rfl, .ref a, rfl, a, _, _, bv, rfl, rfl, sq1, atI_nat (j := 5) rfl, by show 6 ≤ sizeLine; decide, fun w nw => ?_⟩
        have sw := same_new (o := .tup [.str "seal", .int n, .int c, .int (t + 1), .ref na, bv]) nw
        refine q _ (.ref w) (.sl n c (t + 1) nm) (d1.same sw) ⟨_, _, _, rfl, .inr ⟨rfl, rfl, by omega⟩⟩ ⟨a1, a2, a3, a4, by omega, by omega, a7⟩ ?_
        exact .tup (.inl (.inl upd_same)) (.cons (.str _) (.cons (.int _) (.cons (.int _) (.cons (.int _) (.cons (.tup (Pg.same_seqT sw sqn1) (vstr_dp nm.1)) (.cons (pb.keep (Same.keepT sw) db1) .nil))))))
end
end K61

namespace K61
open PySem PySem.Spec PyProof.Rows L2 Pg
theorem strs_inj : ∀ {a b : List Str}, a.map PyData.str = b.map PyData.str → a = b
  | [], [], _ => rfl
  | [], _ :: _, h => by cases h
  | _ :: _, [], h => by cases h
  | x :: a, y :: b, h => by
    obtain ⟨h1, h2⟩ := List.cons.inj h
    rw [PyData.str.inj h1, strs_inj h2]
theorem ltr_inj {a b : Ltr} (h : a.d = b.d) : a = b := by
  cases a with
  | pg n s t =>
    cases b with
    | pg n' s' t' => cases h; rfl
    | sl n' c' t' nm' => cases h
  | sl n c t nm =>
    cases b with
    | pg n' s' t' => cases h
    | sl n' c' t' nm' =>
      have h1 := PyData.tuple.inj h
      obtain ⟨_, h2⟩ := List.cons.inj h1
      obtain ⟨e1, h3⟩ := List.cons.inj h2
      obtain ⟨e2, h4⟩ := List.cons.inj h3
      obtain ⟨e3, h5⟩ := List.cons.inj h4
      obtain ⟨e4, h6⟩ := List.cons.inj h5
      obtain ⟨e5, _⟩ := List.cons.inj h6
      have e6 := strs_inj (PyData.tuple.inj e4)
      obtain ⟨n1, n2⟩ := nm
      obtain ⟨m1, m2⟩ := nm'
      simp only at e5 e6
      rw [PyData.int.inj e1, PyData.int.inj e2, PyData.int.inj e3, e5, e6]
theorem any_ltr {ls : List Ltr} {l : Ltr} (h : l.ok) (hs : ∀ x ∈ ls, x.ok) : ((ls.map Ltr.d).any fun z => PyData.eqv z l.d) = true ↔ l ∈ ls := by
  rw [List.any_eq_true]
  constructor
  · rintro ⟨d, hd, e⟩
    obtain ⟨x, hx, rfl⟩ := List.mem_map.mp hd
    rw [← ltr_inj (((ltr_pd (hs x hx)).eqv (ltr_pd h)).mp e)]
    exact hx
  · intro m
    exact ⟨_, List.mem_map.mpr ⟨l, m, rfl⟩, ((ltr_pd h).eqv (ltr_pd h)).mpr rfl⟩
theorem eq_nil (l : List PyData) : PyData.eqv (.list l) (.list []) = l.isEmpty := by
  cases l with
  | nil => decide +kernel
  | cons x r => unfold PyData.eqv; simp [PyData.eqvAll]
theorem ltrs_pd {ls : List Ltr} (h : ∀ l ∈ ls, l.ok) (f : ls.length ≤ 100) : PdA 8 (100 * (6000 + 1)) (ls.map Ltr.d) := PdA.all (fun d hd => by
  obtain ⟨x, hx, rfl⟩ := List.mem_map.mp hd
  exact ltr_pd (h x hx)) (by rw [List.length_map]; exact f)
theorem VsOk.sub {vs ws : List MVer} (o : VsOk vs) (h : ws.Sublist vs) : VsOk ws := ⟨fun v hv => o.ok v (h.subset hv), o.pw.sublist h⟩
theorem lettersV_few {v : MVer} (o : VOk v) : (lettersV v).length ≤ 7 := by
  unfold lettersV
  rw [List.length_append, List.length_map]
  have := o.few
  show _ + 1 ≤ 7
  omega
theorem pick_dp {β : Type} {K : PySem.W.Frag} {H : Hp} {fd : β → PyData} : ∀ {xs : List V} {ts : List β}, DpAll K H xs (ts.map fd) → ∀ p : β → Bool, DpAll K H (((xs.zip ts).filter fun z => p z.2).map fun z => z.1) ((ts.filter p).map fd)
  | [], [], _, _ => .nil
  | [], _ :: _, h, _ => by cases h
  | _ :: _, [], h, _ => by cases h
  | x :: xs, t :: ts, h, p => by
    cases h with
    | cons h1 h2 =>
      have ih := pick_dp h2 p
      rw [List.zip_cons_cons]
      cases hp : p t with
      | true => rw [List.filter_cons_of_pos (p := fun z : V × β => p z.2) (a := (x, t)) hp, List.filter_cons_of_pos hp]; exact .cons h1 ih
      | false => rw [List.filter_cons_of_neg (p := fun z : V × β => p z.2) (a := (x, t)) (by simp [hp]), List.filter_cons_of_neg (by simp [hp])]; exact ih
def spLShown (K : PySem.W.Frag) : Sp := fun vs H Q _ => ∃ (hv vl : Addr) (ls : List Ltr) (ws : List MVer), vs = [.ref hv, .ref vl] ∧ LAt K H hv (ls.map Ltr.d) ∧ LAt K H vl (ws.map MVer.d) ∧ VsOk ws ∧ ls.length ≤ 100 ∧ (∀ l ∈ ls, l.ok) ∧ ws.length ≤ 10 ∧
  ∀ (H' : Hp) (v : V) (x : MVer), Same H H' → IsShown ls ws x → Dp K H' v x.d → Q v H'
section
variable {P : Program} {w : World} {K : PySem.W.Frag} {mg : Str → Option Value} {base : Heap} {f CMirror ulC pgC nkC : Addr} {fd : FuncData}
theorem ok_law_shown (F : Fun K "_law_shown" "_law_shown" s_law_shown f fd) (z : Z mg) (claw_letters : Cal P w K mg base "_law_letters" 1 ["version"] (spLetters K)) : FnOk P w K mg base CX0 2 f fd ["heard", "versions"] (spLShown K) := by
  refine F.ok sc_law_shown (fun vs H Q E h => ?_) (fun cdv A outer s H vs Q E hr h => ?_)
  · obtain ⟨hv, vl, ls, ws, rfl, _⟩ := h
    rfl
  · obtain ⟨hv, vl, ls, ws, rfl, ⟨hvs, h1, d1⟩, ⟨vvs, h2, d2⟩, o, few, lok, fv, q⟩ := h
    refine ⟨_, (pss_cons (ps_set (i := 2) sc_law_shown.nd rfl (Or.inl rfl) (pe_tup (pa_cons pe_int (pa_cons pe_int (pa_cons pe_int (pa_cons (pe_tup pa_nil) (pa_cons (pe_tup pa_nil) pa_nil)))))))
      (pss_cons (ps_for PassesOwn.never rfl (pi_list (pv 1)) (pg_name (i := 3) sc_law_shown.nd rfl (Or.inl rfl))
        (pss_one (ps_if (pt_cmpR (op_eqD hr.units) (pe_lc (own := [("letter", 4)]) (g := (gName 4)) rfl sc_law_shown.nd (pi_list (pe_cal claw_letters (hr.mono (by decide)) (by rfl) (pa_cons (pv 3) pa_nil))) (blkOk_by (own := [("letter", 4)]) (N := ["heard", "versions", "found", "version", "letter"]) (sc := defScope s_law_shown) (by decide +kernel)) (fun _ _ _ _ _ => pg_name (i := 4) sc_law_shown.nd rfl (Or.inl rfl)) (fun _ _ _ _ _ => (pts_one (pt_cmpR (op_notInDK (K := K) rfl (u65 hr)) (pv 4) (pv 0) (by rfl)))) (fun _ _ _ _ _ => (pv 4))) (pe_lst pa_nil) (nomark _))
          (pss_one (ps_if (pt_cmpR (op_gtT (u0 hr)) (pe_tup (pa_cons (pe_ix ix_tup (pv 3) pe_int (fun _ _ => rfl)) (pa_cons (pe_ix ix_tup (pv 3) pe_int (fun _ _ => rfl)) pa_nil))) (pe_tup (pa_cons (pe_ix ix_tup (pv 2) pe_int (fun _ _ => rfl)) (pa_cons (pe_ix ix_tup (pv 2) pe_int (fun _ _ => rfl)) pa_nil))) (nomark _))
            (pss_one (ps_set (i := 2) sc_law_shown.nd rfl (Or.inl rfl) (pv 3)))
            pss_nil))
          pss_nil)))
      (pss_one (ps_ret (pv 2))))), ?_⟩
    have pls := ltrs_pd lok few
    have lv := dpAll_len d2
    rw [List.length_map] at lv
    refine ⟨Nat.zero_le _, fun e1 n1 => ⟨Nat.zero_le _, fun e2 n2 => ⟨by show 5 ≤ sizeLine; decide, fun s0 ns => ?_⟩⟩⟩
    have t1 := same_new (o := .tup []) n1
    have t2 := same_new (o := .tup []) n2
    have t3 := same_new (o := .tup [.int 0, .int 0, .int 0, .ref e1, .ref e2]) ns
    have tA := t1.trans (t2.trans t3)
    have dz : Dp K (upd (upd (upd H e1 (.tup [])) e2 (.tup [])) s0 (.tup [.int 0, .int 0, .int 0, .ref e1, .ref e2])) (.ref s0) MVer.zero.d := .tup (.inl (.inl upd_same)) (.cons (.int _) (.cons (.int _) (.cons (.int _) (.cons (.tup (.inl (.inl (t3 _ _ (t2 _ _ upd_same)))) .nil) (.cons (.tup (.inl (.inl (t3 _ _ upd_same))) .nil) .nil)))))
    generalize upd (upd (upd H e1 (.tup [])) e2 (.tup [])) s0 (.tup [.int 0, .int 0, .int 0, .ref e1, .ref e2]) = H0 at *
    refine ⟨_, rfl, vl, rfl, ⟨_, .inl (.inl (tA _ _ h2))⟩, ?_⟩
    refine for_list (K := K) (a := vl) (xs := vvs) (fun i σ H3 => ∃ (y3 y4 : Option V) (fw : V) (x : MVer), σ = [some (.ref hv), some (.ref vl), some fw, y3, y4] ∧ Same H H3 ∧ IsShown ls (ws.take i) x ∧ Dp K H3 fw x.d)
      ⟨_, _, _, MVer.zero, rfl, tA, .inl ⟨rfl, fun u hu => by rw [List.take_zero] at hu; cases hu⟩, dz⟩ (fun i σ H3 _ ⟨_, _, _, _, _, s3, _⟩ => .inl (.inl (s3 _ _ h2))) ?_ ?_
    · rintro i y σ H3 hy ⟨y3, y4, fw, x, rfl, s3, sh, dx⟩
      obtain ⟨d, hd, dy⟩ := dpAll_get' d2 hy
      rw [List.getElem?_map] at hd
      obtain ⟨v, hv', rfl⟩ : ∃ v, ws[i]? = some v ∧ v.d = d := by
        cases e : ws[i]? with
        | none => rw [e] at hd; cases hd
        | some v => rw [e] at hd; exact ⟨v, rfl, Option.some.inj hd⟩
      have vm := List.mem_of_getElem? hv'
      have vo := o.ok v vm
      have tk : ws.take (i + 1) = ws.take i ++ [v] := by rw [List.take_add_one, hv']; rfl
      have dy3 := vo.pd.keep (Same.keepT s3) dy
      have nx := shown_next (by rw [← tk]; exact o.sub (List.take_sublist _ _)) sh
      have px : Pd 8 20000 x.d := by
        rcases sh with ⟨e, _⟩ | ⟨hx, _, _⟩
        · rw [e]; exact zero_pd
        · exact (o.ok x (List.mem_of_mem_take hx)).pd
      refine ⟨_, rfl, y, v, rfl, dy3, vo, fun H4 l s4 nl ⟨lws, hl, dl⟩ => ?_⟩
      have s34 := s3.trans s4
      have ll := dpAll_len dl
      rw [List.length_map] at ll
      have lf := lettersV_few vo
      refine ⟨l, rfl, ⟨_, .inl (.inl hl)⟩, fun D nD => ?_⟩
      refine lc_pick (K := K) (a := l) (xs := lws) (ts := lettersV v) ll (fun t => !((ls.map Ltr.d).any fun z => PyData.eqv z t.d)) (fun u _ => u) nD (.inl (.inl hl)) (small5 (by omega)) ?_ ?_
      · rintro j u t H' S1 S2 hu ht s1 hS1 hS2
        obtain ⟨d, hd', du⟩ := dpAll_get' dl hu
        rw [List.getElem?_map, ht] at hd'
        obtain rfl : t.d = d := Option.some.inj hd'
        have tok := vo.letters (List.mem_of_getElem? ht)
        refine ⟨rfl, _, rfl, _, rfl, t.d, ls.map Ltr.d, (ltr_pd tok).keep (Same.keepT s1) du, .lst (.inl (.inl (s1 _ _ (s34 _ _ h1)))) (pls.keep (Same.keepT (s34.trans s1)) d1), (ltr_pd tok).sz.shaped (by decide), (pls.sz.lst).shaped (by decide), _, rfl, ite2 (fun e => ⟨_, rfl, hS1 e⟩) (fun e => hS2 (by simpa using e))⟩
      have pll : ∀ k, PdA 8 (100 * (6000 + 1)) (((lettersV v).filter k).map Ltr.d) := fun k => ltrs_pd (fun t ht => vo.letters (List.mem_filter.mp ht).1) (Nat.le_trans (List.length_filter_le _ _) (by omega))
      refine ⟨Nat.zero_le _, fun m nm => ?_⟩
      have sD := same_new (o := .lst (((lws.zip (lettersV v)).filter fun z => !((ls.map Ltr.d).any fun y => PyData.eqv y z.2.d)).map fun z => z.1)) nD
      have sm := same_new (o := .lst []) nm
      have sDm := sD.trans sm
      refine ⟨_, _, .lst (.inl (.inl (sm _ _ upd_same))) ((pll _).keep (Same.keepT sDm) (pick_dp dl fun t => !((ls.map Ltr.d).any fun z => PyData.eqv z t.d))), .lst (.inl (.inl upd_same)) .nil, ((pll _).sz.lst).shaped (by decide), by decide +kernel, _, rfl, ?_⟩
      rw [eq_nil]
      have s5 := s34.trans sDm
      have s35 := s4.trans sDm
      clear sD sm
      generalize upd (upd H4 D (.lst (((lws.zip (lettersV v)).filter fun z => !((ls.map Ltr.d).any fun y => PyData.eqv y z.2.d)).map fun z => z.1))) m (.lst []) = H5 at *
      have cc : (((lettersV v).filter fun t => !((ls.map Ltr.d).any fun z => PyData.eqv z t.d)).map Ltr.d).isEmpty = true ↔ complete ls v := by
        rw [List.isEmpty_map, List.isEmpty_iff, List.filter_eq_nil_iff]
        constructor
        · intro h t ht
          have := h t ht
          rw [Bool.not_eq_true, Bool.not_eq_false'] at this
          exact (any_ltr (vo.letters ht) lok).mp this
        · intro h t ht e
          rw [(any_ltr (vo.letters ht) lok).mpr (h t ht)] at e
          cases e
      refine ite2 (fun e => ?_) (fun e => ?_)
      · obtain ⟨gt, sh'⟩ := nx.1 (cc.mp e)
        obtain ⟨a, pa, bv, us, rfl, sq, _⟩ := ver_parts (vo.pd.keep (Same.keepT s35) dy3)
        obtain ⟨a2, pa2, bv2, us2, rfl, sq2, _⟩ := ver_parts (px.keep (Same.keepT s35) dx)
        refine ⟨.ref a, rfl, a, _, _, .int v.n, rfl, rfl, sq, atI_nat (j := 0) rfl, .ref a, rfl, a, _, _, .int v.c, rfl, rfl, sq, atI_nat (j := 1) rfl, by show 2 ≤ sizeLine; decide, fun t1 nt1 => ?_⟩
        have st1 := same_new (o := .tup [.int v.n, .int v.c]) nt1
        have sq2' := Pg.same_seqT st1 sq2
        refine ⟨.ref a2, rfl, a2, _, _, .int x.n, rfl, rfl, sq2', atI_nat (j := 0) rfl, .ref a2, rfl, a2, _, _, .int x.c, rfl, rfl, sq2', atI_nat (j := 1) rfl, by show 2 ≤ sizeLine; decide, fun t2 nt2 => ?_⟩
        have st2 := same_new (o := .tup [.int x.n, .int x.c]) nt2
        refine ⟨t1, t2, v.n, v.c, x.n, x.c, rfl, rfl, .inl (.inl (st2 _ _ upd_same)), .inl (.inl upd_same), _, rfl, ?_⟩
        show if (if v.n = x.n then decide (x.c < v.c) else decide (x.n < v.n)) = true then _ else _
        rw [gt]
        refine iteT ⟨_, rfl, _, _, _, v, rfl, s5.trans (st1.trans st2), by rw [tk]; exact sh', ?_⟩
        exact vo.pd.keep (Same.keepT (s35.trans (st1.trans st2))) dy3
      · refine ⟨_, _, _, x, rfl, s5, ?_, px.keep (Same.keepT s35) dx⟩
        rw [tk]
        exact nx.2 fun c => e (cc.mpr c)
    · rintro σ H3 ⟨y3, y4, fw, x, rfl, s3, sh, dx⟩
      rw [lv, List.take_length] at sh
      exact ⟨_, rfl, q H3 fw x s3 sh dx⟩
end
end K61

namespace K61
open PySem PySem.Spec PyProof.Rows L2 Pg
theorem cutV_up4 (xs : List V) (n : Nat) : cutV xs none (some (n : Int)) = xs.take n := by
  unfold cutV
  rw [HT.sIx_none, HT.sIx_nat, List.drop_zero, Nat.sub_zero, List.take_eq_take_iff]
  omega
/-- the first n of a tuple -/
theorem cut_tup {K : PySem.W.Frag} {H : Hp} {t : Addr} {xs : List V} {n : Nat} {Q : V → Hp → Prop} (ht : SqT K H t xs) (q : ∀ (p : Addr) (H' : Hp), Same H H' → SqT K H' p (xs.take n) → Q (.ref p) H') : rSlA K (.ref t) none (some (n : Int)) H Q := by
  refine ⟨t, xs, rfl, ht, fun h => ?_, fun _ p np => ?_⟩
  · have e := h.2
    rw [HT.sIx_nat] at e
    have : xs.take n = xs := List.take_of_length_le (by omega)
    exact q t H (Same.refl _) (by rw [this]; exact ht)
  · rw [cutV_up4]
    exact q p _ (same_new np) (.inl (.inl upd_same))
/-- pages and what stays behind, as they are drawn -/
structure PgOk (cp : List (Str × Str)) (cb : PyData) : Prop where
  few : cp.length ≤ 6
  nd : (cp.map (·.1)).Nodup
  pg : ∀ p ∈ cp, Codes p.1 ∧ p.1.length ≤ 10 ∧ Codes p.2 ∧ p.2.length ≤ 10
  bh : ∃ ds, cb = .tuple ds ∧ ds.length ≤ 4 ∧ ∀ d ∈ ds, Pd 3 200 d
theorem lat_drew {K : PySem.W.Frag} {H H' : Hp} {l b : Addr} {ds : List PyData} {D M : Nat} (a : LAt K H l ds) (p : PdA D M ds) (hb : Box H b) (x : Drew b H H') (ne : l ≠ b) : LAt K H' l ds :=
  let ⟨vs, h, d⟩ := a
  ⟨vs, x.keep l _ ne h, p.keep (drew_kt x hb) d⟩
theorem dig3' (r : Int) (h0 : 0 ≤ r) (h1 : r < 3) : (Str.ofString (toString r)).cps.toList.all (fun c => decide (c < 1114112)) = true ∧ (Str.ofString (toString r)).length ≤ 5 ∧ r.natAbs.log2 < 1920 := by
  have : r = 0 ∨ r = 1 ∨ r = 2 := by omega
  rcases this with rfl | rfl | rfl <;> decide +kernel
def bhD (nm : Str) : PyData := .tuple [.str (nm ++ "z"), .tuple [.str "failed", .str nm]]
theorem bh_pd {nm : Str} (h : Codes nm ∧ nm.length ≤ 2) : Pd 3 200 (bhD nm) := by
  obtain ⟨c, l⟩ := h
  have a : Pd 0 10 (.str (nm ++ "z")) := Pd.str (fun x hx => by
    rw [cd_app] at hx
    rcases List.mem_append.mp hx with h | h
    · exact c x h
    · have : cd "z" = [122] := by decide +kernel
      rw [this] at h
      rw [List.mem_singleton.mp h]
      decide) (by rw [len_app]; have : ("z" : Str).length = 1 := by decide
                  omega)
  have b : PdA 0 22 [PyData.str "failed", .str nm] := PdA.cons (pdl (by decide +kernel) (by decide)) (PdA.cons ((Pd.str (M := 10) c (by omega))) PdA.nil)
  exact ((PdA.cons (a.mono (Nat.zero_le 1) (Nat.le_refl _)) (PdA.cons b.tup PdA.nil)).tup).mono (by decide) (by decide)
def spVersions (K : PySem.W.Frag) : Sp := fun vs H Q _ => ∃ b : Addr, vs = [.ref b] ∧ Box H b ∧ ∀ (H' : Hp) (l : Addr) (ws : List MVer), Drew b H H' → H l = none → LAt K H' l (ws.map MVer.d) → VsOk ws → 1 ≤ ws.length → ws.length ≤ 5 → Q (.ref l) H'
theorem codes8 {z : Str} (h : z ∈ names8) : Codes z ∧ z.length ≤ 2 := by
  obtain ⟨h1, h2⟩ := names8_ok z h
  refine ⟨fun c hc => ?_, h1⟩
  have := List.all_eq_true.mp h2 c hc
  unfold safeB plainB at this
  simp only [Bool.and_eq_true, decide_eq_true_eq] at this
  omega
theorem pgs_pd {cp : List (Str × Str)} {cb : PyData} (o : PgOk cp cb) : Pd 2 138 (.tuple (cp.map pairD)) ∧ Pd 4 804 cb := by
  obtain ⟨ds, e, l, h⟩ := o.bh
  exact ⟨(pairs_pd o.pg o.few).tup, by rw [e]; exact (PdA.all h l).tup⟩
section
variable {P : Program} {w : World} {K : PySem.W.Frag} {mg : Str → Option Value} {base : Heap} {f CMirror ulC pgC nkC : Addr} {fd : FuncData}
theorem ok_law_versions (F : Fun K "_law_versions" "_law_versions" s_law_versions f fd) (z : Z mg) (claw_draw : Cal P w K mg base "_law_draw" 1 ["box", "many"] spDraw) (claw_pages : Cal P w K mg base "_law_pages" 3 ["box"] spPagesL) : FnOk P w K mg base CX0 4 f fd ["box"] (spVersions K) := by
  refine F.ok sc_law_versions (fun vs H Q E h => ?_) (fun cdv A outer s H vs Q E hr h => ?_)
  · obtain ⟨b, rfl, _⟩ := h
    rfl
  · obtain ⟨b, rfl, hb, q⟩ := h
    refine ⟨_, (pss_cons (ps_set (i := 1) sc_law_versions.nd rfl (Or.inl rfl) (pe_lst pa_nil))
      (pss_cons (ps_set (i := 2) sc_law_versions.nd rfl (Or.inl rfl) pe_int)
      (pss_cons (ps_set (i := 3) sc_law_versions.nd rfl (Or.inl rfl) pe_int)
      (pss_cons (ps_set (i := 4) sc_law_versions.nd rfl (Or.inl rfl) pe_int)
      (pss_cons (ps_for PassesOwn.never rfl (pi_range1 (by rfl) z.range (pa_cons (pe_op op_add pe_int (pe_cal claw_draw (hr.mono (by decide)) (by rfl) (pa_cons (pv 0) (pa_cons pe_int pa_nil)))) pa_nil)) (pg_name (i := 5) sc_law_versions.nd rfl (Or.inl rfl))
        (pss_cons (ps_set (i := 3) sc_law_versions.nd rfl (Or.inl rfl) (pe_op op_add (pe_op op_add (pv 3) pe_int) (pe_cal claw_draw (hr.mono (by decide)) (by rfl) (pa_cons (pv 0) (pa_cons pe_int pa_nil)))))
        (pss_cons (ps_set (i := 4) sc_law_versions.nd rfl (Or.inl rfl) (pe_op op_add (pv 4) (pe_cal claw_draw (hr.mono (by decide)) (by rfl) (pa_cons (pv 0) (pa_cons pe_int pa_nil)))))
        (C8.pss_cut (ps_if (PW.pt (pw_or (pt_cmpR (op_eqD hr.units) (pv 1) (pe_lst pa_nil) (nomark _)) (pw_or1 (pt_cmpR op_gt (pe_cal claw_draw (hr.mono (by decide)) (by rfl) (pa_cons (pv 0) (pa_cons pe_int pa_nil))) pe_int (nomark _)))))
          (pss_cons (ps_set (i := 2) sc_law_versions.nd rfl (Or.inl rfl) (pe_op op_add (pv 2) pe_int))
          (pss_cons (ps_set (i := 6) sc_law_versions.nd rfl (Or.inl rfl) (pe_slice sl_tupA (pe_cal claw_pages (hr.mono (by decide)) (by rfl) (pa_cons (pv 0) pa_nil)) po_none (po_some pe_int)))
          (pss_cons (ps_set (i := 7) sc_law_versions.nd rfl (Or.inl rfl) (pe_callTy call_tuple_of (by rfl) z.tuple (by decide +kernel) (pa_cons (pe_lc (own := [("name", 9)]) (g := (gName 9)) (tt := tYes) rfl sc_law_versions.nd (pi_tup (pv 6)) (blkOk_by (own := [("name", 9)]) (N := ["box", "versions", "number", "count", "time", "turn", "names", "pages", "behind", "name"]) (sc := defScope s_law_versions) (by decide +kernel)) (fun _ _ _ _ _ => pg_name (i := 9) sc_law_versions.nd rfl (Or.inl rfl)) (fun _ _ _ _ _ => pts_nil) (fun _ _ _ _ _ => (pe_tup (pa_cons (pv 9) (pa_cons (pe_op op_add_str pe_str (pe_callTy call_str_int (by rfl) z.str (by decide +kernel) (pa_cons (pe_cal claw_draw (hr.mono (by decide)) (by rfl) (pa_cons (pv 0) (pa_cons pe_int pa_nil))) pa_nil))) pa_nil))))) pa_nil)))
          (pss_one (ps_set (i := 8) sc_law_versions.nd rfl (Or.inl rfl) (pe_callTy call_tuple_of (by rfl) z.tuple (by decide +kernel) (pa_cons (pe_lc (own := [("name", 9)]) (g := (gName 9)) (tt := tYes) rfl sc_law_versions.nd (pi_tup (pe_slice sl_tupA (pv 6) po_none (po_some (pe_cal claw_draw (hr.mono (by decide)) (by rfl) (pa_cons (pv 0) (pa_cons pe_int pa_nil)))))) (blkOk_by (own := [("name", 9)]) (N := ["box", "versions", "number", "count", "time", "turn", "names", "pages", "behind", "name"]) (sc := defScope s_law_versions) (by decide +kernel)) (fun _ _ _ _ _ => pg_name (i := 9) sc_law_versions.nd rfl (Or.inl rfl)) (fun _ _ _ _ _ => pts_nil) (fun _ _ _ _ _ => (pe_tup (pa_cons (pe_op op_add_str (pv 9) pe_str) (pa_cons (pe_tup (pa_cons pe_str (pa_cons (pv 9) pa_nil))) pa_nil))))) pa_nil)))))))
          pss_nil)
        (pss_one (ps_expr (pe_bm PySem.F.plainAttrs_list PySem.F.slot_list_append PySem.F.type_list_append mt_append (pv 1) (pa_cons (pe_tup (pa_cons (pv 2) (pa_cons (pv 3) (pa_cons (pv 4) (pa_cons (pv 7) (pa_cons (pv 8) pa_nil)))))) pa_nil))))))))
      (pss_one (ps_ret (pv 1)))))))), ?_⟩
    refine ⟨Nat.zero_le _, fun L nL => ?_⟩
    have d0 : Drew b H (upd H L (.lst [])) := (Drew.of hb (Same.refl _)).put hb nL
    refine ⟨.ref b, rfl, b, 5, rfl, by decide, d0.box, fun n H1 n0 n1 d1 => ⟨_, _, rfl, rfl, 1 + n, rfl, by omega, by omega, ?_⟩⟩
    refine for_range (lo := 0) (n := (1 + n).toNat) (fun j σ H3 => ∃ (num cnt tim : Int) (y5 y6 y7 y8 y9 : Option V) (ws : List MVer) (cp : List (Str × Str)) (cb : PyData), σ = [some (.ref b), some (.ref L), some (.int num), some (.int cnt), some (.int tim), y5, y6, y7, y8, y9] ∧
        Drew b H H3 ∧ LAt K H3 L (ws.map MVer.d) ∧ VsOk ws ∧ ws.length = j ∧ 0 ≤ num ∧ num ≤ j ∧ 0 ≤ cnt ∧ cnt ≤ 4 * j ∧ 0 ≤ tim ∧ tim ≤ 30 * j ∧ (∀ u ∈ ws, u.c ≤ cnt ∧ u.n ≤ num ∧ (u.n = num → u.pages = cp ∧ u.bh = cb)) ∧
        (ws = [] ∨ (1 ≤ num ∧ PgOk cp cb ∧ ∃ pv bv, y7 = some pv ∧ y8 = some bv ∧ Dp K H3 pv (.tuple (cp.map pairD)) ∧ Dp K H3 bv cb)))
      ⟨0, 0, 0, _, _, _, _, _, [], [], .none, rfl, d0.trans d1, ⟨[], d1.keep L _ (hb.ne nL) upd_same, .nil⟩, ⟨fun v hv => (by cases hv), List.Pairwise.nil⟩, rfl, by omega, by omega, by omega, by omega, by omega, by omega, fun u hu => (by cases hu), .inl rfl⟩ ?_ ?_
    · rintro j σ H3 hj ⟨num, cnt, tim, y5, y6, y7, y8, y9, ws, cp, cb, rfl, d3, la, vo, lw, b1, b2, b3, b4, b5, b6, cur, old⟩
      have j5 : j ≤ 4 := by omega
      refine ⟨_, rfl, _, _, rfl, rfl, .ref b, rfl, b, 4, rfl, by decide, d3.box, fun r1 H4 r10 r11 d4 => ⟨_, _, rfl, rfl, ?_⟩⟩
      refine ⟨_, rfl, .ref b, rfl, b, 30, rfl, by decide, d4.box, fun r2 H5 r20 r21 d5 => ⟨_, _, rfl, rfl, ?_⟩⟩
      have Lb : L ≠ b := hb.ne nL
      have pws : PdA 8 (10 * (20000 + 1)) (ws.map MVer.d) := PdA.all (fun d hd => by
        obtain ⟨v, hv, rfl⟩ := List.mem_map.mp hd
        exact (vo.ok v hv).pd) (by rw [List.length_map]; omega)
      have d35 := d4.trans d5
      have l5 := lat_drew la pws d3.box d35 Lb
      have kt5 := drew_kt (K := K) d35 d3.box
      have dH5 := d3.trans d35

      refine ⟨fun σ' H' => ∃ (num' : Int) (y5 y6 y9 : Option V) (pv bv : V) (cp' : List (Str × Str)) (cb' : PyData), σ' = [some (.ref b), some (.ref L), some (.int num'), some (.int (cnt + 1 + r1)), some (.int (tim + r2)), y5, y6, some pv, some bv, y9] ∧ Drew b H H' ∧ LAt K H' L (ws.map MVer.d) ∧ 1 ≤ num' ∧ num' ≤ j + 1 ∧ PgOk cp' cb' ∧
        Dp K H' pv (.tuple (cp'.map pairD)) ∧ Dp K H' bv cb' ∧ ∀ u ∈ ws, u.n ≤ num' ∧ (u.n = num' → u.pages = cp' ∧ u.bh = cb'), ?_, ?_⟩
      · obtain ⟨uv, hL5, dL5⟩ := l5
        cases ws with
        | nil =>
          cases dL5
          refine ⟨_, rfl, Nat.zero_le _, fun m nm => ?_⟩
          have sm := same_new (o := .lst []) nm
          refine ⟨_, _, .lst (.inl (.inl (sm _ _ hL5))) .nil, .lst (.inl (.inl upd_same)) .nil, by decide +kernel, by decide +kernel, _, rfl, ?_⟩
          rw [eq_nil]
          refine iteT (iteT ?_)
          have dd := dH5.same sm
          have ll : LAt K (upd H5 m (.lst [])) L (([] : List MVer).map MVer.d) := ⟨[], sm _ _ hL5, .nil⟩
          generalize upd H5 m (.lst []) = HH at *
          refine ⟨_, rfl, _, _, rfl, rfl, ?_⟩
          refine ⟨.ref b, rfl, b, rfl, dd.box, fun t xs H7 nt ht nd8 in8 few8 d7 => ?_⟩
          refine ⟨4, rfl, cut_tup (n := 4) (.inl (.inl ht)) fun nt2 H8 s8 hn => ?_⟩
          have l8 := (lat_drew ll pws dd.box d7 Lb).same pws s8
          have d8 := dd.trans ((d7.same s8))
          rw [← List.map_take] at hn
          have fx : ∀ x ∈ xs.take 4, Codes x ∧ x.length ≤ 2 := fun x hx => codes8 (in8 x (List.mem_of_mem_take hx))
          have ndx : (xs.take 4).Nodup := nd8.sublist (List.take_sublist _ _)
          have lx : (xs.take 4).length ≤ 4 := List.length_take_le _ _
          clear ht nd8 in8 few8 d7 s8 ll dd nt
          generalize xs.take 4 = ns at *
          -- pages
          refine ⟨_, rfl, nt2, rfl, ⟨_, hn⟩, fun D nD => ?_⟩
          have Db : D ≠ b := d8.box.ne nD
          refine lc_tup (K := K) (a := nt2) (xs := ns.map V.str) (fun i H' => Drew b H8 H' ∧ ∃ (cp : List (Str × Str)) (us : List V), cp.map (·.1) = ns.take i ∧ (∀ p ∈ cp, Codes p.2 ∧ p.2.length ≤ 10) ∧ H' D = some (.lst us) ∧ DpAll K H' us (cp.map pairD))
            ⟨Drew.of d8.box (same_new nD), [], [], rfl, (fun p h => (by cases h)), upd_same, .nil⟩ (fun i H' _ ⟨x, _⟩ => drew_kt x d8.box _ _ hn) ?_ ?_
          · rintro i y H' hy ⟨x9, cp9, us9, e9, ok9, hD9, da9⟩
            rw [List.getElem?_map] at hy
            obtain ⟨nm, hnm, rfl⟩ : ∃ nm, ns[i]? = some nm ∧ V.str nm = y := by
              cases e : ns[i]? with
              | none => rw [e] at hy; cases hy
              | some nm => rw [e] at hy; exact ⟨nm, rfl, Option.some.inj hy⟩
            have tk : ns.take (i + 1) = ns.take i ++ [nm] := by rw [List.take_add_one, hnm]; rfl
            have il := (List.getElem?_eq_some_iff.mp hnm).1
            have fm := fx nm (List.mem_of_getElem? hnm)
            have l9 : cp9.length ≤ 4 := by
              have := congrArg List.length e9
              rw [List.length_map, List.length_take] at this
              omega
            have lu9 := dpAll_len da9
            rw [List.length_map] at lu9
            refine ⟨rfl, yes (iteT ?_)⟩
            refine ⟨_, rfl, .ref b, rfl, b, 3, rfl, by decide, x9.box, fun r H10 r0 r1 d10 => ?_⟩
            obtain ⟨g1, g2, g3⟩ := dig3' r r0 r1
            have tl : ("t" : Str).length = 1 := by decide
            refine ⟨r, rfl, g3, _, _, rfl, rfl, sizeLine_big (by rw [tl]; omega), by show 2 ≤ sizeLine; decide, fun w nw => ?_⟩
            have dw := (x9.trans d10).same (same_new (o := .tup [.str nm, .str (("t" : Str) ++ Str.ofString (toString r))]) nw)
            have d10w := d10.same (same_new (o := .tup [.str nm, .str (("t" : Str) ++ Str.ofString (toString r))]) nw)
            have hDw := d10w.keep D _ Db hD9
            have kt1 := drew_kt (K := K) d10w x9.box
            have kt2 : KeepT K (upd H10 w (.tup [.str nm, .str (("t" : Str) ++ Str.ofString (toString r))])) (upd (upd H10 w (.tup [.str nm, .str (("t" : Str) ++ Str.ofString (toString r))])) D (.lst (us9 ++ [.ref w]))) := KeepT.upd (by rw [hDw]; intro xs h; cases h) (by rw [hDw]; intro b xs h; cases h)
            have pd9 : PdA 1 (6 * (22 + 1)) (cp9.map pairD) := pairs_pd (fun p hp => by
              obtain ⟨q1, q2⟩ := ok9 p hp
              have : p.1 ∈ ns := List.mem_of_mem_take (by rw [← e9]; exact List.mem_map.mpr ⟨p, hp, rfl⟩)
              obtain ⟨q3, q4⟩ := fx _ this
              exact ⟨q3, by omega, q1, q2⟩) (by omega)
            refine ⟨us9, hDw, small5 (by omega), dw.put (Drew.of d8.box (Same.refl _)).box nD, cp9 ++ [(nm, ("t" : Str) ++ Str.ofString (toString r))], us9 ++ [.ref w], ?_, fun p hp => ?_, upd_same, ?_⟩
            · rw [List.map_append, e9, tk]; rfl
            · rcases List.mem_append.mp hp with h | h
              · exact ok9 p h
              · rw [List.mem_singleton.mp h]
                refine ⟨fun c hc => ?_, by show (("t" : Str) ++ Str.ofString (toString r)).length ≤ 10; rw [len_app, tl]; omega⟩
                rw [cd_app] at hc
                rcases List.mem_append.mp hc with h | h
                · have : cd "t" = [116] := by decide +kernel
                  rw [this] at h
                  rw [List.mem_singleton.mp h]
                  decide
                · exact of_decide_eq_true (List.all_eq_true.mp g1 c h)
            · rw [List.map_append]
              refine dpAll_app (pd9.keep (fun u xs h => kt2 u xs (kt1 u xs h)) da9) (.cons (.tup (kt2 _ _ (.inl (.inl upd_same))) (.cons (.str _) (.cons (.str _) .nil))) .nil)
          · rintro H9 ⟨x9, cp9, us9, e9, ok9, hD9, da9⟩
            rw [List.length_map, List.take_length] at e9
            have l9 : cp9.length ≤ 4 := by
              have := congrArg List.length e9
              rw [List.length_map] at this
              omega
            have pgc : ∀ p ∈ cp9, Codes p.1 ∧ p.1.length ≤ 10 ∧ Codes p.2 ∧ p.2.length ≤ 10 := fun p hp => by
              obtain ⟨q1, q2⟩ := ok9 p hp
              have : p.1 ∈ ns := by rw [← e9]; exact List.mem_map.mpr ⟨p, hp, rfl⟩
              obtain ⟨q3, q4⟩ := fx _ this
              exact ⟨q3, by omega, q1, q2⟩
            have pd9 : PdA 1 (6 * (22 + 1)) (cp9.map pairD) := pairs_pd pgc (by omega)
            refine ⟨D, _, rfl, .inl ⟨.inl (.inl hD9), fun pt npt => ?_⟩⟩
            have spt := same_new (o := .tup us9) npt
            have dpt : Dp K (upd H9 pt (.tup us9)) (.ref pt) (.tuple (cp9.map pairD)) := .tup (.inl (.inl upd_same)) (pd9.keep (Same.keepT spt) da9)
            have x10 := x9.same spt
            have hn10 := drew_kt x10 d8.box _ _ hn
            clear da9 hD9 x9 hn spt npt
            generalize upd H9 pt (.tup us9) = H10 at *
            -- behind
            refine ⟨_, rfl, .ref b, rfl, b, 2, rfl, by decide, x10.box, fun r3 H11 r30 r31 d11 => ?_⟩
            obtain ⟨k3, rfl⟩ := Int.eq_ofNat_of_zero_le r30
            have hn11 := drew_kt (K := K) d11 x10.box _ _ hn10
            refine ⟨_, rfl, cut_tup (n := k3) hn11 fun nt3 H12 s12 hn3 => ?_⟩
            rw [← List.map_take] at hn3
            have d12 := (x10.trans d11).same s12
            have kt12 := drew_kt (K := K) (d11.same s12) x10.box
            have fb : ∀ x ∈ ns.take k3, Codes x ∧ x.length ≤ 2 := fun x hx => fx x (List.mem_of_mem_take hx)
            have lb : (ns.take k3).length ≤ 4 := by rw [List.length_take]; omega
            have dpt12 := (pd9.tup).keep kt12 dpt
            clear hn10 hn11 dpt
            generalize ns.take k3 = bs at *
            refine ⟨nt3, rfl, ⟨_, hn3⟩, fun D3 nD3 => ?_⟩
            have pbs : ∀ i, PdA 3 (4 * (200 + 1)) ((bs.take i).map bhD) := fun i => PdA.all (fun d hd => by
              obtain ⟨x, hx, rfl⟩ := List.mem_map.mp hd
              exact bh_pd (fb x (List.mem_of_mem_take hx))) (by rw [List.length_map, List.length_take]; omega)
            refine lc_tup (K := K) (a := nt3) (xs := bs.map V.str) (fun i H' => Same H12 H' ∧ ∃ us : List V, H' D3 = some (.lst us) ∧ us.length ≤ i ∧ DpAll K H' us ((bs.take i).map bhD))
              ⟨same_new nD3, [], upd_same, Nat.le_refl _, .nil⟩ (fun i H' _ ⟨x, _⟩ => Pg.same_seqT x hn3) ?_ ?_
            · rintro i y H' hy ⟨s13, us3, hD3, lu3, da3⟩
              rw [List.getElem?_map] at hy
              obtain ⟨nm, hnm, rfl⟩ : ∃ nm, bs[i]? = some nm ∧ V.str nm = y := by
                cases e : bs[i]? with
                | none => rw [e] at hy; cases hy
                | some nm => rw [e] at hy; exact ⟨nm, rfl, Option.some.inj hy⟩
              have tk : bs.take (i + 1) = bs.take i ++ [nm] := by rw [List.take_add_one, hnm]; rfl
              have il := (List.getElem?_eq_some_iff.mp hnm).1
              have fm := fb nm (List.mem_of_getElem? hnm)
              have zl : ("z" : Str).length = 1 := by decide
              refine ⟨rfl, yes (iteT ?_)⟩
              refine ⟨_, rfl, _, _, rfl, rfl, sizeLine_big (by rw [zl]; omega), _, rfl, by show 2 ≤ sizeLine; decide, fun u nu => ⟨by show 2 ≤ sizeLine; decide, fun w nw => ?_⟩⟩
              have su := same_new (o := .tup [.str "failed", .str nm]) nu
              have sw := same_new (o := .tup [.str (nm ++ "z"), .ref u]) nw
              have suw := su.trans sw
              have hDw := suw _ _ hD3
              have kt2 : KeepT K (upd (upd H' u (.tup [.str "failed", .str nm])) w (.tup [.str (nm ++ "z"), .ref u])) (upd (upd (upd H' u (.tup [.str "failed", .str nm])) w (.tup [.str (nm ++ "z"), .ref u])) D3 (.lst (us3 ++ [.ref w]))) := KeepT.upd (by rw [hDw]; intro xs h; cases h) (by rw [hDw]; intro b xs h; cases h)
              refine ⟨us3, hDw, small5 (by omega), fun q o e => by rw [upd_ne (ne_of_none e nD3)]; exact suw _ _ (s13 _ _ e), us3 ++ [.ref w], upd_same, by rw [List.length_append]; show us3.length + 1 ≤ _; omega, ?_⟩
              rw [tk, List.map_append]
              exact dpAll_app ((pbs i).keep (fun u xs h => kt2 u xs (Same.keepT suw u xs h)) da3) (.cons (.tup (kt2 _ _ (.inl (.inl upd_same))) (.cons (.str _) (.cons (.tup (kt2 _ _ (.inl (.inl (sw _ _ upd_same)))) (.cons (.str _) (.cons (.str _) .nil))) .nil))) .nil)
            · rintro H13 ⟨s13, us3, hD3, lu3, da3⟩
              rw [List.length_map, List.take_length] at da3
              have pb := pbs bs.length
              rw [List.take_length] at pb
              refine ⟨D3, _, rfl, .inl ⟨.inl (.inl hD3), fun bt nbt => ?_⟩⟩
              have sbt := same_new (o := .tup us3) nbt
              have s14 := s13.trans sbt
              refine ⟨num + 1, _, _, _, .ref pt, .ref bt, cp9, .tuple (bs.map bhD), rfl, d8.trans (d12.same s14), lat_drew l8 pws d8.box (d12.same s14) Lb, by omega, by omega, ⟨by omega, by rw [e9]; exact ndx, pgc, _, rfl, by rw [List.length_map]; omega, fun d hd => ?_⟩, (pd9.tup).keep (Same.keepT s14) dpt12, .tup (.inl (.inl upd_same)) (pb.keep (Same.keepT sbt) da3), fun u hu => ?_⟩
              · obtain ⟨x, hx, rfl⟩ := List.mem_map.mp hd
                exact bh_pd (fb x hx)
              · have := (cur u hu).2.1
                exact ⟨by omega, fun e => by omega⟩
        | cons w0 ws0 =>
          have lok : ∀ x ∈ w0 :: ws0, VOk x := vo.ok
          refine ⟨_, rfl, Nat.zero_le _, fun m nm => ?_⟩
          have sm := same_new (o := .lst []) nm
          have l6 := LAt.same ⟨uv, hL5, dL5⟩ pws sm
          obtain ⟨uv6, hL6, dL6⟩ := l6
          refine ⟨_, _, .lst (.inl (.inl hL6)) dL6, .lst (.inl (.inl upd_same)) .nil, (pws.sz.lst).shaped (by decide), by decide +kernel, _, rfl, ?_⟩
          rw [eq_nil]
          refine iteF ?_
          have dd0 := dH5.same sm
          have ll0 : LAt K (upd H5 m (.lst [])) L ((w0 :: ws0).map MVer.d) := ⟨uv6, hL6, dL6⟩
          have kt6 : KeepT K H5 (upd H5 m (.lst [])) := Same.keepT sm
          clear hL6 dL6 hL5 dL5 nm sm
          generalize upd H5 m (.lst []) = H6 at *
          refine ⟨.ref b, rfl, b, 4, rfl, by decide, dd0.box, fun r4 HH r40 r41 d6 => ?_⟩
          have dd := dd0.trans d6
          have ll := lat_drew ll0 pws dd0.box d6 Lb
          refine ⟨_, _, rfl, rfl, _, rfl, ite2 (fun _ => ?_) (fun _ => ?_)⟩
          · clear ll0 dd0 kt6 d6
            refine ⟨_, rfl, _, _, rfl, rfl, ?_⟩
            refine ⟨.ref b, rfl, b, rfl, dd.box, fun t xs H7 nt ht nd8 in8 few8 d7 => ?_⟩
            refine ⟨4, rfl, cut_tup (n := 4) (.inl (.inl ht)) fun nt2 H8 s8 hn => ?_⟩
            have l8 := (lat_drew ll pws dd.box d7 Lb).same pws s8
            have d8 := dd.trans ((d7.same s8))
            rw [← List.map_take] at hn
            have fx : ∀ x ∈ xs.take 4, Codes x ∧ x.length ≤ 2 := fun x hx => codes8 (in8 x (List.mem_of_mem_take hx))
            have ndx : (xs.take 4).Nodup := nd8.sublist (List.take_sublist _ _)
            have lx : (xs.take 4).length ≤ 4 := List.length_take_le _ _
            clear ht nd8 in8 few8 d7 s8 ll dd nt
            generalize xs.take 4 = ns at *
            -- pages
            refine ⟨_, rfl, nt2, rfl, ⟨_, hn⟩, fun D nD => ?_⟩
            have Db : D ≠ b := d8.box.ne nD
            refine lc_tup (K := K) (a := nt2) (xs := ns.map V.str) (fun i H' => Drew b H8 H' ∧ ∃ (cp : List (Str × Str)) (us : List V), cp.map (·.1) = ns.take i ∧ (∀ p ∈ cp, Codes p.2 ∧ p.2.length ≤ 10) ∧ H' D = some (.lst us) ∧ DpAll K H' us (cp.map pairD))
              ⟨Drew.of d8.box (same_new nD), [], [], rfl, (fun p h => (by cases h)), upd_same, .nil⟩ (fun i H' _ ⟨x, _⟩ => drew_kt x d8.box _ _ hn) ?_ ?_
            · rintro i y H' hy ⟨x9, cp9, us9, e9, ok9, hD9, da9⟩
              rw [List.getElem?_map] at hy
              obtain ⟨nm, hnm, rfl⟩ : ∃ nm, ns[i]? = some nm ∧ V.str nm = y := by
                cases e : ns[i]? with
                | none => rw [e] at hy; cases hy
                | some nm => rw [e] at hy; exact ⟨nm, rfl, Option.some.inj hy⟩
              have tk : ns.take (i + 1) = ns.take i ++ [nm] := by rw [List.take_add_one, hnm]; rfl
              have il := (List.getElem?_eq_some_iff.mp hnm).1
              have fm := fx nm (List.mem_of_getElem? hnm)
              have l9 : cp9.length ≤ 4 := by
                have := congrArg List.length e9
                rw [List.length_map, List.length_take] at this
                omega
              have lu9 := dpAll_len da9
              rw [List.length_map] at lu9
              refine ⟨rfl, yes (iteT ?_)⟩
              refine ⟨_, rfl, .ref b, rfl, b, 3, rfl, by decide, x9.box, fun r H10 r0 r1 d10 => ?_⟩
              obtain ⟨g1, g2, g3⟩ := dig3' r r0 r1
              have tl : ("t" : Str).length = 1 := by decide
              refine ⟨r, rfl, g3, _, _, rfl, rfl, sizeLine_big (by rw [tl]; omega), by show 2 ≤ sizeLine; decide, fun w nw => ?_⟩
              have dw := (x9.trans d10).same (same_new (o := .tup [.str nm, .str (("t" : Str) ++ Str.ofString (toString r))]) nw)
              have d10w := d10.same (same_new (o := .tup [.str nm, .str (("t" : Str) ++ Str.ofString (toString r))]) nw)
              have hDw := d10w.keep D _ Db hD9
              have kt1 := drew_kt (K := K) d10w x9.box
              have kt2 : KeepT K (upd H10 w (.tup [.str nm, .str (("t" : Str) ++ Str.ofString (toString r))])) (upd (upd H10 w (.tup [.str nm, .str (("t" : Str) ++ Str.ofString (toString r))])) D (.lst (us9 ++ [.ref w]))) := KeepT.upd (by rw [hDw]; intro xs h; cases h) (by rw [hDw]; intro b xs h; cases h)
              have pd9 : PdA 1 (6 * (22 + 1)) (cp9.map pairD) := pairs_pd (fun p hp => by
                obtain ⟨q1, q2⟩ := ok9 p hp
                have : p.1 ∈ ns := List.mem_of_mem_take (by rw [← e9]; exact List.mem_map.mpr ⟨p, hp, rfl⟩)
                obtain ⟨q3, q4⟩ := fx _ this
                exact ⟨q3, by omega, q1, q2⟩) (by omega)
              refine ⟨us9, hDw, small5 (by omega), dw.put (Drew.of d8.box (Same.refl _)).box nD, cp9 ++ [(nm, ("t" : Str) ++ Str.ofString (toString r))], us9 ++ [.ref w], ?_, fun p hp => ?_, upd_same, ?_⟩
              · rw [List.map_append, e9, tk]; rfl
              · rcases List.mem_append.mp hp with h | h
                · exact ok9 p h
                · rw [List.mem_singleton.mp h]
                  refine ⟨fun c hc => ?_, by show (("t" : Str) ++ Str.ofString (toString r)).length ≤ 10; rw [len_app, tl]; omega⟩
                  rw [cd_app] at hc
                  rcases List.mem_append.mp hc with h | h
                  · have : cd "t" = [116] := by decide +kernel
                    rw [this] at h
                    rw [List.mem_singleton.mp h]
                    decide
                  · exact of_decide_eq_true (List.all_eq_true.mp g1 c h)
              · rw [List.map_append]
                refine dpAll_app (pd9.keep (fun u xs h => kt2 u xs (kt1 u xs h)) da9) (.cons (.tup (kt2 _ _ (.inl (.inl upd_same))) (.cons (.str _) (.cons (.str _) .nil))) .nil)
            · rintro H9 ⟨x9, cp9, us9, e9, ok9, hD9, da9⟩
              rw [List.length_map, List.take_length] at e9
              have l9 : cp9.length ≤ 4 := by
                have := congrArg List.length e9
                rw [List.length_map] at this
                omega
              have pgc : ∀ p ∈ cp9, Codes p.1 ∧ p.1.length ≤ 10 ∧ Codes p.2 ∧ p.2.length ≤ 10 := fun p hp => by
                obtain ⟨q1, q2⟩ := ok9 p hp
                have : p.1 ∈ ns := by rw [← e9]; exact List.mem_map.mpr ⟨p, hp, rfl⟩
                obtain ⟨q3, q4⟩ := fx _ this
                exact ⟨q3, by omega, q1, q2⟩
              have pd9 : PdA 1 (6 * (22 + 1)) (cp9.map pairD) := pairs_pd pgc (by omega)
              refine ⟨D, _, rfl, .inl ⟨.inl (.inl hD9), fun pt npt => ?_⟩⟩
              have spt := same_new (o := .tup us9) npt
              have dpt : Dp K (upd H9 pt (.tup us9)) (.ref pt) (.tuple (cp9.map pairD)) := .tup (.inl (.inl upd_same)) (pd9.keep (Same.keepT spt) da9)
              have x10 := x9.same spt
              have hn10 := drew_kt x10 d8.box _ _ hn
              clear da9 hD9 x9 hn spt npt
              generalize upd H9 pt (.tup us9) = H10 at *
              -- behind
              refine ⟨_, rfl, .ref b, rfl, b, 2, rfl, by decide, x10.box, fun r3 H11 r30 r31 d11 => ?_⟩
              obtain ⟨k3, rfl⟩ := Int.eq_ofNat_of_zero_le r30
              have hn11 := drew_kt (K := K) d11 x10.box _ _ hn10
              refine ⟨_, rfl, cut_tup (n := k3) hn11 fun nt3 H12 s12 hn3 => ?_⟩
              rw [← List.map_take] at hn3
              have d12 := (x10.trans d11).same s12
              have kt12 := drew_kt (K := K) (d11.same s12) x10.box
              have fb : ∀ x ∈ ns.take k3, Codes x ∧ x.length ≤ 2 := fun x hx => fx x (List.mem_of_mem_take hx)
              have lb : (ns.take k3).length ≤ 4 := by rw [List.length_take]; omega
              have dpt12 := (pd9.tup).keep kt12 dpt
              clear hn10 hn11 dpt
              generalize ns.take k3 = bs at *
              refine ⟨nt3, rfl, ⟨_, hn3⟩, fun D3 nD3 => ?_⟩
              have pbs : ∀ i, PdA 3 (4 * (200 + 1)) ((bs.take i).map bhD) := fun i => PdA.all (fun d hd => by
                obtain ⟨x, hx, rfl⟩ := List.mem_map.mp hd
                exact bh_pd (fb x (List.mem_of_mem_take hx))) (by rw [List.length_map, List.length_take]; omega)
              refine lc_tup (K := K) (a := nt3) (xs := bs.map V.str) (fun i H' => Same H12 H' ∧ ∃ us : List V, H' D3 = some (.lst us) ∧ us.length ≤ i ∧ DpAll K H' us ((bs.take i).map bhD))
                ⟨same_new nD3, [], upd_same, Nat.le_refl _, .nil⟩ (fun i H' _ ⟨x, _⟩ => Pg.same_seqT x hn3) ?_ ?_
              · rintro i y H' hy ⟨s13, us3, hD3, lu3, da3⟩
                rw [List.getElem?_map] at hy
                obtain ⟨nm, hnm, rfl⟩ : ∃ nm, bs[i]? = some nm ∧ V.str nm = y := by
                  cases e : bs[i]? with
                  | none => rw [e] at hy; cases hy
                  | some nm => rw [e] at hy; exact ⟨nm, rfl, Option.some.inj hy⟩
                have tk : bs.take (i + 1) = bs.take i ++ [nm] := by rw [List.take_add_one, hnm]; rfl
                have il := (List.getElem?_eq_some_iff.mp hnm).1
                have fm := fb nm (List.mem_of_getElem? hnm)
                have zl : ("z" : Str).length = 1 := by decide
                refine ⟨rfl, yes (iteT ?_)⟩
                refine ⟨_, rfl, _, _, rfl, rfl, sizeLine_big (by rw [zl]; omega), _, rfl, by show 2 ≤ sizeLine; decide, fun u nu => ⟨by show 2 ≤ sizeLine; decide, fun w nw => ?_⟩⟩
                have su := same_new (o := .tup [.str "failed", .str nm]) nu
                have sw := same_new (o := .tup [.str (nm ++ "z"), .ref u]) nw
                have suw := su.trans sw
                have hDw := suw _ _ hD3
                have kt2 : KeepT K (upd (upd H' u (.tup [.str "failed", .str nm])) w (.tup [.str (nm ++ "z"), .ref u])) (upd (upd (upd H' u (.tup [.str "failed", .str nm])) w (.tup [.str (nm ++ "z"), .ref u])) D3 (.lst (us3 ++ [.ref w]))) := KeepT.upd (by rw [hDw]; intro xs h; cases h) (by rw [hDw]; intro b xs h; cases h)
                refine ⟨us3, hDw, small5 (by omega), fun q o e => by rw [upd_ne (ne_of_none e nD3)]; exact suw _ _ (s13 _ _ e), us3 ++ [.ref w], upd_same, by rw [List.length_append]; show us3.length + 1 ≤ _; omega, ?_⟩
                rw [tk, List.map_append]
                exact dpAll_app ((pbs i).keep (fun u xs h => kt2 u xs (Same.keepT suw u xs h)) da3) (.cons (.tup (kt2 _ _ (.inl (.inl upd_same))) (.cons (.str _) (.cons (.tup (kt2 _ _ (.inl (.inl (sw _ _ upd_same)))) (.cons (.str _) (.cons (.str _) .nil))) .nil))) .nil)
              · rintro H13 ⟨s13, us3, hD3, lu3, da3⟩
                rw [List.length_map, List.take_length] at da3
                have pb := pbs bs.length
                rw [List.take_length] at pb
                refine ⟨D3, _, rfl, .inl ⟨.inl (.inl hD3), fun bt nbt => ?_⟩⟩
                have sbt := same_new (o := .tup us3) nbt
                have s14 := s13.trans sbt
                refine ⟨num + 1, _, _, _, .ref pt, .ref bt, cp9, .tuple (bs.map bhD), rfl, d8.trans (d12.same s14), lat_drew l8 pws d8.box (d12.same s14) Lb, by omega, by omega, ⟨by omega, by rw [e9]; exact ndx, pgc, _, rfl, by rw [List.length_map]; omega, fun d hd => ?_⟩, (pd9.tup).keep (Same.keepT s14) dpt12, .tup (.inl (.inl upd_same)) (pb.keep (Same.keepT sbt) da3), fun u hu => ?_⟩
                · obtain ⟨x, hx, rfl⟩ := List.mem_map.mp hd
                  exact bh_pd (fb x hx)
                · have := (cur u hu).2.1
                  exact ⟨by omega, fun e => by omega⟩
          · rcases old with h | ⟨o1, o2, pv, bv, rfl, rfl, dp, db⟩
            · cases h
            obtain ⟨pp, pb⟩ := pgs_pd o2
            have ktA : KeepT K H3 HH := fun u xs h => drew_kt d6 dd0.box u xs (kt6 u xs (kt5 u xs h))
            exact ⟨num, _, _, _, pv, bv, cp, cb, rfl, dd, ll, by omega, by omega, o2, pp.keep ktA dp, pb.keep ktA db, fun u hu => (cur u hu).2⟩
      · rintro σ' H' ⟨num', z5, z6, z9, pv, bv, cp', cb', rfl, dH', lH', c1, c2, po, dp, db, mid⟩
        obtain ⟨uv, hL', dL'⟩ := lH'
        obtain ⟨pp, pb⟩ := pgs_pd po
        have vnew : VOk ⟨num', cnt + 1 + r1, tim + r2, cp', cb'⟩ := ⟨by show 1 ≤ num'; omega, by show num' ≤ 1000; omega, ⟨by show 0 ≤ cnt + 1 + r1; omega, by show cnt + 1 + r1 ≤ 100000; omega⟩, ⟨by show 0 ≤ tim + r2; omega, by show tim + r2 ≤ 100000; omega⟩, po.few, po.nd, po.pg, po.bh⟩
        have lu := dpAll_len dL'
        rw [List.length_map] at lu
        refine ⟨.ref L, rfl, .inl ⟨rfl, _, .inl (.inl hL')⟩, _, rfl, _, rfl, _, rfl, _, rfl, _, rfl, by show 5 ≤ sizeLine; decide, fun w nw => ⟨L, _, _, rfl, rfl, (by rw [upd_ne (ne_of_none hL' nw)]; exact hL'), small5 (by omega), ?_⟩⟩
        have sw := same_new (o := .tup [.int num', .int (cnt + 1 + r1), .int (tim + r2), pv, bv]) nw
        have hLw := sw _ _ hL'
        have kt2 : KeepT K (upd H' w (.tup [.int num', .int (cnt + 1 + r1), .int (tim + r2), pv, bv])) (upd (upd H' w (.tup [.int num', .int (cnt + 1 + r1), .int (tim + r2), pv, bv])) L (.lst (uv ++ [.ref w]))) := KeepT.upd (by rw [hLw]; intro xs h; cases h) (by rw [hLw]; intro b xs h; cases h)
        have ktA : KeepT K H' (upd (upd H' w (.tup [.int num', .int (cnt + 1 + r1), .int (tim + r2), pv, bv])) L (.lst (uv ++ [.ref w]))) := fun u xs h => kt2 u xs (Same.keepT sw u xs h)
        have dp' := pp.keep ktA dp
        have db' := pb.keep ktA db
        refine ⟨num', cnt + 1 + r1, tim + r2, _, _, _, _, _, ws ++ [⟨num', cnt + 1 + r1, tim + r2, cp', cb'⟩], cp', cb', rfl, (dH'.same sw).put hb nL, ⟨_, upd_same, ?_⟩, ⟨fun v hv => ?_, ?_⟩, by rw [List.length_append, lw]; rfl, by omega, by omega, by omega, by omega, by omega, by omega, fun u hu => ?_, .inr ⟨c1, po, pv, bv, rfl, rfl, dp', db'⟩⟩
        · rw [List.map_append]
          exact dpAll_app (pws.keep ktA dL') (.cons (.tup (kt2 _ _ (.inl (.inl upd_same))) (.cons (.int _) (.cons (.int _) (.cons (.int _) (.cons dp' (.cons db' .nil)))))) .nil)
        · rcases List.mem_append.mp hv with h | h
          · exact vo.ok v h
          · rw [List.mem_singleton.mp h]; exact vnew
        · refine List.pairwise_append.mpr ⟨vo.pw, List.pairwise_singleton _ _, fun u hu v hv => ?_⟩
          rw [List.mem_singleton.mp hv]
          have := (cur u hu).1
          exact ⟨by show u.c < cnt + 1 + r1; omega, mid u hu⟩
        · rcases List.mem_append.mp hu with h | h
          · have := (cur u h).1
            exact ⟨by omega, mid u h⟩
          · rw [List.mem_singleton.mp h]
            exact ⟨by show cnt + 1 + r1 ≤ cnt + 1 + r1; omega, by show num' ≤ num'; omega, fun _ => ⟨rfl, rfl⟩⟩
    · rintro σ H3 ⟨num, cnt, tim, y5, y6, y7, y8, y9, ws, cp, cb, rfl, d3, la, vo, lw, _⟩
      exact ⟨_, rfl, q H3 L ws d3 nL la vo (by omega) (by omega)⟩
end
end K61

namespace K61
open PySem PySem.Spec PyProof.Rows L2 Pg
/-! ### all that the law holds while letters are told -/
def NoLst : HO → Prop
  | .lst _ => False
  | _ => True
/-- all but lists is as it was -/
def NL (H H' : Hp) : Prop := ∀ q o, H q = some o → NoLst o → H' q = some o
/-- all but what changes is as it was -/
def NM (H H' : Hp) : Prop := ∀ q o, H q = some o → ¬ MutD o → H' q = some o
theorem NM.of {H H' : Hp} (s : Same H H') : NM H H' := fun q o e _ => s _ _ e
theorem NM.trans {H H1 H2 : Hp} (a : NM H H1) (b : NM H1 H2) : NM H H2 := fun q o e n => b q o (a q o e n) n
theorem ChM.nm {fp fp' : Addr → Prop} {H H' : Hp} (c : ChM fp fp' H H') (l : LiveM fp H) : NM H H' := fun q o e n => c.keep q o (fun f => by
  obtain ⟨o', e', m⟩ := l q f
  rw [e] at e'; cases e'; exact n m) e
theorem NM.keepT {K : PySem.W.Frag} {H H' : Hp} (c : NM H H') : KeepT K H H' := by
  rintro a xs ((h | ⟨o, h⟩) | h)
  · exact .inl (.inl (c _ _ h fun h => h))
  · exact .inl (.inr ⟨o, c _ _ h fun h => h⟩)
  · exact .inr h
theorem NM.box {H H' : Hp} (c : NM H H') {b d : Addr} (x : BoxAt H b d) : BoxAt H' b d := by
  obtain ⟨ds, n, e1, e2, ne, few⟩ := x
  exact ⟨ds, n, c _ _ e1 fun h => h, c _ _ e2 fun h => h, ne, few⟩
theorem NM.lat {K : PySem.W.Frag} {H H' : Hp} (c : NM H H') {l : Addr} {ds : List PyData} {D M : Nat} (a : LAt K H l ds) (p : PdA D M ds) : LAt K H' l ds :=
  let ⟨vs, h, d⟩ := a
  ⟨vs, c _ _ h fun h => h, p.keep c.keepT d⟩
theorem NL.keepT {K : PySem.W.Frag} {H H' : Hp} (c : NL H H') : KeepT K H H' := by
  rintro a xs ((h | ⟨o, h⟩) | h)
  · exact .inl (.inl (c _ _ h trivial))
  · exact .inl (.inr ⟨o, c _ _ h trivial⟩)
  · exact .inr h
theorem NL.drew {b : Addr} {H H' : Hp} (x : Drew b H H') (hb : Box H b) : NL H H' := by
  obtain ⟨dg, ds, n, h1, _⟩ := hb
  exact fun q o e n => x.keep q o (by rintro rfl; rw [h1] at e; cases e; exact n) e
theorem NL.put {H : Hp} {l : Addr} {xs ys : List V} (h : H l = some (.lst xs)) : NL H (upd H l (.lst ys)) := fun q o e n => by
  rw [upd_ne (by rintro rfl; rw [h] at e; cases e; exact n)]; exact e
theorem ShownAt.nl {K : PySem.W.Frag} {H H' : Hp} {v : V} {x : MVer} (s : ShownAt K H v x) (k : NL H H') : ShownAt K H' v x := by
  obtain ⟨s, pg, vb, ob, ps, e, h1, h2, hd, h3, h4, h5⟩ := s
  exact ⟨s, pg, vb, ob, ps, e, k _ _ h1 trivial, k _ _ h2 trivial, hd, Paired.mapP h3 fun _ _ h => k.keepT _ _ h, Dp.keepT k.keepT _ _ h5 h4, h5⟩
theorem mut_nolst {o : HO} (m : MutD o) : NoLst o := by
  cases o <;> first | trivial | exact absurd m (fun h => h)
theorem MirA.nl {K : PySem.W.Frag} {C p : Addr} {H H' : Hp} {fp : Addr → Prop} {m : Mir} {k : Nat} (x : MirA K C H p fp m k) (c : NL H H') : MirA K C H' p fp m k := by
  obtain ⟨dx, aT, aC, aM, sv, fC, fM, x⟩ := x
  have e : ∀ q o, fp q → H q = some o → H' q = some o := fun q o f h => by
    obtain ⟨o', h', m'⟩ := x.live q f
    rw [h] at h'; cases h'
    exact c _ _ h (mut_nolst m')
  obtain ⟨o1, o2, o3, o4⟩ := x.own
  refine ⟨dx, aT, aC, aM, sv, fC, fM, e _ _ o1 x.hp, x.hT.keep fun o => e _ o o2, x.hC.keep fun o => e _ o o3, x.hM.keep fun o => e _ o o4, x.c0, fun n v h => ?_, x.t0, fun n v h => ?_, x.inj, x.sh.nl c, x.own, x.ne, fun q h => ?_⟩
  · obtain ⟨c', h1, h2, h3⟩ := x.cs n v h
    exact ⟨c', h1, h2, (cont_pd h2).keep c.keepT h3⟩
  · obtain ⟨a, g, h1, h2, h3, h4, h5, h6⟩ := x.ts n v h
    exact ⟨a, g, h1, h2, h3, h4, h5, h6.keep fun o => e _ o h3⟩
  · obtain ⟨o, h1, h2⟩ := x.live q h
    exact ⟨o, e _ _ h h1, h2⟩
theorem MirA.live {K : PySem.W.Frag} {C p : Addr} {H : Hp} {fp : Addr → Prop} {m : Mir} {k : Nat} (x : MirA K C H p fp m k) : LiveM fp H := by
  obtain ⟨dx, aT, aC, aM, sv, fC, fM, x⟩ := x
  exact x.live
theorem MirA.cls {K : PySem.W.Frag} {C p : Addr} {H : Hp} {fp : Addr → Prop} {m : Mir} {k : Nat} (x : MirA K C H p fp m k) : ∃ (dx aT aC aM : Addr) (sv : V), H p = some (.ins C dx [(("_texts" : Str), .ref aT), (("_contents" : Str), .ref aC), (("_times" : Str), .ref aM), (("_shown" : Str), sv)]) := by
  obtain ⟨dx, aT, aC, aM, sv, fC, fM, x⟩ := x
  exact ⟨dx, aT, aC, aM, sv, x.hp⟩
theorem vers_pd {ws : List MVer} (o : VsOk ws) (l : ws.length ≤ 5) : PdA 8 (5 * (20000 + 1)) (ws.map MVer.d) := PdA.all (fun d hd => by
  obtain ⟨v, hv, rfl⟩ := List.mem_map.mp hd
  exact (o.ok v hv).pd) (by rw [List.length_map]; exact l)
theorem allL_few {ws : List MVer} (o : ∀ v ∈ ws, VOk v) : (allL ws).length ≤ 7 * ws.length := by
  unfold allL
  induction ws with
  | nil => exact Nat.le_refl _
  | cons v r ih =>
    rw [List.flatMap_cons, List.length_append, List.length_cons]
    have h1 := lettersV_few (o v List.mem_cons_self)
    have h2 := ih fun u hu => o u (List.mem_cons_of_mem _ hu)
    omega
theorem allL_ok {ws : List MVer} (o : ∀ v ∈ ws, VOk v) : ∀ l ∈ allL ws, l.ok := fun l hl => by
  obtain ⟨v, hv, h⟩ := mem_all.mp hl
  exact (o v hv).letters h
theorem allL_snoc (ws : List MVer) (v : MVer) : allL (ws ++ [v]) = allL ws ++ lettersV v := by
  unfold allL
  rw [List.flatMap_append]
  show _ ++ (lettersV v ++ []) = _
  rw [List.append_nil]
/-- the rows of the law -/
structure Fr (K : PySem.W.Frag) (H : Hp) (b dg L VL Hd : Addr) (ws : List MVer) (ls : List Ltr) : Prop where
  bx : BoxAt H b dg
  lL : LAt K H L ((allL ws).map Ltr.d)
  lV : LAt K H VL (ws.map MVer.d)
  lH : LAt K H Hd (ls.map Ltr.d)
/-- .. and what holds of them at all times -/
structure FrC (b dg L VL Hd : Addr) (ws : List MVer) : Prop where
  vo : VsOk ws
  l1 : 1 ≤ ws.length
  l5 : ws.length ≤ 5
  Lb : L ≠ b
  Vb : VL ≠ b
  Hb : Hd ≠ b
  HL : Hd ≠ L
  HV : Hd ≠ VL
  Hg : Hd ≠ dg
section
variable {K : PySem.W.Frag} {H H' : Hp} {b dg L VL Hd : Addr} {ws : List MVer} {ls : List Ltr}
theorem FrC.pL (c : FrC b dg L VL Hd ws) : PdA 8 (100 * (6000 + 1)) ((allL ws).map Ltr.d) := ltrs_pd (allL_ok c.vo.ok) (by
  have := allL_few c.vo.ok
  have := c.l5
  omega)
theorem FrC.pV (c : FrC b dg L VL Hd ws) : PdA 8 (5 * (20000 + 1)) (ws.map MVer.d) := vers_pd c.vo c.l5
theorem FrC.pH (c : FrC b dg L VL Hd ws) (sub : ∀ l ∈ ls, l ∈ allL ws) (few : ls.length ≤ 100) : PdA 8 (100 * (6000 + 1)) (ls.map Ltr.d) := ltrs_pd (fun l hl => allL_ok c.vo.ok l (sub l hl)) few
theorem Fr.nm (x : Fr K H b dg L VL Hd ws ls) (c : FrC b dg L VL Hd ws) (sub : ∀ l ∈ ls, l ∈ allL ws) (few : ls.length ≤ 100) (n : NM H H') : Fr K H' b dg L VL Hd ws ls :=
  ⟨n.box x.bx, n.lat x.lL c.pL, n.lat x.lV c.pV, n.lat x.lH (c.pH sub few)⟩
theorem Fr.drew (x : Fr K H b dg L VL Hd ws ls) (c : FrC b dg L VL Hd ws) (sub : ∀ l ∈ ls, l ∈ allL ws) (few : ls.length ≤ 100) (d : Drew b H H') : Fr K H' b dg L VL Hd ws ls :=
  have hb : Box H b := ⟨dg, x.bx⟩
  ⟨d.dig _ x.bx, lat_drew x.lL c.pL hb d c.Lb, lat_drew x.lV c.pV hb d c.Vb, lat_drew x.lH (c.pH sub few) hb d c.Hb⟩
theorem Fr.push (x : Fr K H b dg L VL Hd ws ls) (c : FrC b dg L VL Hd ws) (sub : ∀ l ∈ ls, l ∈ allL ws) (few : ls.length ≤ 100) {vs : List V} (hv : H Hd = some (.lst vs)) {v : V} {l : Ltr} (ok : l.ok) (dv : Dp K H v l.d) : Fr K (upd H Hd (.lst (vs ++ [v]))) b dg L VL Hd ws (ls ++ [l]) := by
  have n : NL H (upd H Hd (.lst (vs ++ [v]))) := NL.put hv
  have kt : KeepT K H (upd H Hd (.lst (vs ++ [v]))) := n.keepT
  obtain ⟨us, e1, e2⟩ := x.lH
  rw [hv] at e1; cases e1
  refine ⟨x.bx.upd c.Hb c.Hg, ?_, ?_, ?_⟩
  · obtain ⟨ys, h1, h2⟩ := x.lL
    exact ⟨ys, by rw [upd_ne c.HL.symm]; exact h1, c.pL.keep kt h2⟩
  · obtain ⟨ys, h1, h2⟩ := x.lV
    exact ⟨ys, by rw [upd_ne c.HV.symm]; exact h1, c.pV.keep kt h2⟩
  · refine ⟨_, upd_same, ?_⟩
    rw [List.map_append]
    exact dpAll_app ((c.pH sub few).keep kt e2) (.cons ((ltr_pd ok).keep kt dv) .nil)
theorem IsShown.vok {x : MVer} (h : IsShown ls ws x) (o : VsOk ws) : Pd 8 20000 x.d ∧ (x.pages.map (·.1)).Nodup ∧ x.pages.length ≤ 6 ∧ ∀ p ∈ x.pages, Codes p.1 ∧ p.1.length ≤ 10 ∧ Codes p.2 ∧ p.2.length ≤ 10 := by
  rcases h with ⟨e, _⟩ | ⟨h, _⟩
  · rw [e]
    exact ⟨zero_pd, List.nodup_nil, Nat.zero_le _, fun p hp => by cases hp⟩
  · have v := o.ok x h
    exact ⟨v.pd, v.nd, v.few, v.pg⟩
theorem unlike_not {m : Mir} {l l' : Ltr} (r : Rel ls m) (h : l ∈ ls) (u : Unlike l l') : ¬ okL m l' := by
  cases l with
  | pg n s t =>
    obtain ⟨t', rfl, ne⟩ := u
    intro o
    have e := (r.tx n s t).mpr h
    have o : (m.tx n s).getD t' = t' := o
    rw [e] at o
    exact ne o.symm
  | sl n c t nm =>
    obtain ⟨c', t', nm', rfl, u⟩ := u
    rintro ⟨o1, o2⟩
    have e1 := (r.ct n nm).mpr ⟨c, t, h⟩
    obtain ⟨g, e2, e3⟩ := (r.tm n c t).mpr ⟨nm, h⟩
    rw [e1] at o1
    rcases u with u | ⟨_, rfl, u⟩
    · exact u o1.symm
    · rw [e2] at o2
      have o2 : (g c').getD t' = t' := o2
      rw [e3] at o2
      exact u o2.symm
theorem mem_letters {l : Ltr} (h : l ∈ allL ws) (o : VsOk ws) : l.ok ∧ ∃ x ∈ ws, l ∈ lettersV x ∧ VOk x := by
  obtain ⟨x, hx, hl⟩ := mem_all.mp h
  exact ⟨(o.ok x hx).letters hl, x, hx, hl, o.ok x hx⟩
end
theorem Shows.ofP {D M : Nat} {d : PyData} (s : Pd D M d) (h1 : D ≤ 40 := by decide) (h2 : M ≤ 2 ^ 20 := by decide) : Shows d := ⟨s.sz.ok, s.sz.nd, Nat.le_trans s.sz.dep h1, s.sz.fits h2⟩
theorem shows_b (b : Bool) : Shows (.bool b) := by cases b <;> exact ⟨rfl, rfl, by decide, by decide +kernel⟩
/-- the text of a page, as the law finds it -/
theorem find_pages (name : Str) : ∀ l : List (Str × Str), getP l name = ((l.filter fun p => decide (p.1 = name)).map (·.2)).head?
  | [] => rfl
  | p :: r => by
    unfold getP
    by_cases e : p.1 = name
    · rw [List.find?_cons_of_pos (p := fun q : Str × Str => decide (q.1 = name)) (a := p) (decide_eq_true e), List.filter_cons_of_pos (p := fun q : Str × Str => decide (q.1 = name)) (a := p) (decide_eq_true e)]
      rfl
    · rw [List.find?_cons_of_neg (p := fun q : Str × Str => decide (q.1 = name)) (a := p) (by simpa using e), List.filter_cons_of_neg (p := fun q : Str × Str => decide (q.1 = name)) (a := p) (by simpa using e)]
      exact find_pages name r
/-- a comprehension over a tuple whose items stand for ts: those that pass, each made to a value -/
theorem lc_pickT {β : Type} {K : PySem.W.Frag} {a : Addr} {xs : List V} {ts : List β} {g : TG} {tt : TT} {te : TE} {vs : List Nat} {σ : L2.St} {H1 : Hp} {D : Addr} {Qd : Hp → Prop} (hlen : xs.length = ts.length) (p : β → Bool) (fx : β → V) (nD : H1 D = none) (hl : SqT K H1 a xs) (few : xs.length < sizeLine)
    (hs : ∀ (i : Nat) (x : V) (t : β) (H : Hp) (R : V → Hp → Prop) (S : Hp → Prop), xs[i]? = some x → ts[i]? = some t → Same H1 H → (p t = true → R (fx t) H) → (p t = false → S H) →
      g x (wipe σ vs) H fun σ2 H2 => wipe σ2 vs = wipe σ vs ∧ tt σ2 H2 fun b H3 => if b = true then te σ2 H3 R else S H3) (hd : Qd (upd H1 D (.lst ((ts.filter p).map fx)))) :
    ∃ W : Nat → Nat → Hp → Prop, (∃ m, W 0 m (upd H1 D (.lst []))) ∧ ∀ i m H, W i m H → ((Itt K a).stop i H ∧ Qd H) ∨
      ((Itt K a).go i H ∧ ∃ Nx : Hp → Prop, (∀ H', Nx H' → ∃ m', m' < m ∧ W (i + 1) m' H') ∧ ∀ x H', (Itt K a).yld i H x H' →
        g x (wipe σ vs) H' fun σ2 H2 => wipe σ2 vs = wipe σ vs ∧ tt σ2 H2 fun b H3 => if b = true then te σ2 H3 fun y H4 => ∃ acc, H4 D = some (.lst acc) ∧ acc.length < sizeLine ∧ Nx (upd H4 D (.lst (acc ++ [y]))) else Nx H3) := by
  have sm : ∀ {o : HO}, Same H1 (upd H1 D o) := fun {o} q x e => by
    rw [upd_ne (ne_of_none e nD)]
    exact e
  refine lc_tup (K := K) (a := a) (xs := xs) (fun i H => H = upd H1 D (.lst (((ts.take i).filter p).map fx))) rfl (fun i H _ e => by rw [e]; exact Pg.same_seqT sm hl) ?_ ?_
  · rintro i x H hx rfl
    obtain ⟨lt, _⟩ := List.getElem?_eq_some_iff.mp hx
    obtain ⟨t, ht⟩ : ∃ t, ts[i]? = some t := ⟨ts[i], List.getElem?_eq_getElem (by omega)⟩
    have nx : (ts.take (i + 1)).filter p = (ts.take i).filter p ++ [t].filter p := by
      rw [List.take_add_one, ht, List.filter_append]
      rfl
    refine hs i x t _ _ _ hx ht sm (fun q => ⟨_, upd_same, ?_, ?_⟩) (fun q => ?_)
    · rw [List.length_map]
      have h1 := List.length_filter_le p (ts.take i)
      rw [List.length_take] at h1
      omega
    · rw [upd_upd, nx, List.filter_cons_of_pos (a := t) q, List.map_append]
      rfl
    · rw [nx, List.filter_cons_of_neg (by simp [q]), List.filter_nil, List.append_nil]
  · rintro H rfl
    rw [hlen, List.take_length]
    exact hd
theorem if_andE {t1 t2 : TT} {s1 s2 : TS} {D : Ends} {σ : L2.St} {H : Hp} (c1 : Bool) (P : Hp → Prop) (h1 : ∀ Q : Bool → Hp → Prop, Q c1 H → t1 σ H Q) (h0 : P H) (h2 : c1 = true → ∀ Q : Bool → Hp → Prop, (∀ c H', P H' → Q c H') → t2 σ H Q) (hA : c1 = true → ∀ H', P H' → s1 D σ H') (hB : ∀ H', P H' → s2 D σ H') :
    tIfS (tAnd t1 t2) s1 s2 D σ H := by
  refine h1 _ ?_
  cases c1 with
  | true => exact iteT (h2 rfl _ fun c H' h => by cases c with
    | true => exact iteT (hA rfl H' h)
    | false => exact iteF (hB H' h))
  | false => exact iteF (iteF (hB H h0))
end K61

namespace K61
open PySem PySem.Spec PyProof.Rows L2 Pg
def spLaw (K : PySem.W.Frag) : Sp := fun vs H Q _ => ∃ (a : Addr) (ns : List Int), vs = [.ref a] ∧ SqL K H a (ns.map V.int) ∧ ns.length ≤ 63 ∧ ∀ H', Q (.bl true) H'
theorem sq_same {K : PySem.W.Frag} {H H' : Hp} {a : Addr} {xs : List V} (h : SqL K H a xs) (s : Same H H') : SqL K H' a xs := by
  rcases h with (e | ⟨u, e⟩) | r
  · exact .inl (.inl (s _ _ e))
  · exact .inl (.inr ⟨u, s _ _ e⟩)
  · exact .inr r
section
variable {P : Program} {w : World} {K : PySem.W.Frag} {mg : Str → Option Value} {base : Heap} {f CMirror ulC pgC nkC : Addr} {fd : FuncData}
theorem ok_law (F : Fun K "law" "law" s_law f fd) (z : Z mg)
    (claw_digits : Cal P w K mg base "_law_digits" 2 ["script", "first", "last"] (spDigits K)) (claw_draw : Cal P w K mg base "_law_draw" 1 ["box", "many"] spDraw)
    (claw_alike : CalG P w K mg base "_law_alike" 1 ["one", "two"] (spAlike K)) (claw_versions : Cal P w K mg base "_law_versions" 4 ["box"] (spVersions K)) (claw_letters : Cal P w K mg base "_law_letters" 1 ["version"] (spLetters K))
    (claw_hear : Cal P w K mg base "_law_hear" 7 ["mirror", "letter"] (spLHear K CMirror ulC)) (claw_unlike : Cal P w K mg base "_law_unlike" 2 ["box", "letter"] (spUnlike K)) (claw_shown : Cal P w K mg base "_law_shown" 2 ["heard", "versions"] (spLShown K))
    (kMirror : CalK P w K mg base "Mirror" CMirror 1 ["self"] (spMInit K CMirror)) (cMirror_shown : CalM P w K mg base CMirror "shown" 1 ["self"] (spMShown K CMirror)) (cMirror_page : CalM P w K mg base CMirror "page" 1 ["self", "name"] (spMPage K CMirror)) : FnG P w K mg base 9 f fd ["script"] (spLaw K) := by
  refine FnG.mk' F sc_law (fun vs H Q E h => ?_) (fun cdv A outer s H vs Q gd hr h => ?_)
  · obtain ⟨a, ns, rfl, _⟩ := h
    rfl
  · obtain ⟨a, ns, rfl, hs, few, q⟩ := h
    refine ⟨_, (pss_cons (ps_set (i := 1) sc_law.nd rfl (Or.inl rfl) (pe_lst (pa_cons (pe_cal claw_digits (hr.mono (by decide)) (by rfl) (pa_cons (pv 0) (pa_cons pe_int (pa_cons pe_int pa_nil)))) (pa_cons pe_int pa_nil))))
      (pss_cons (ps_set (i := 2) sc_law.nd rfl (Or.inl rfl) (pe_cal claw_versions (hr.mono (by decide)) (by rfl) (pa_cons (pv 1) pa_nil)))
      (pss_cons (ps_set (i := 3) sc_law.nd rfl (Or.inl rfl) (pe_lst pa_nil))
      (pss_cons (ps_for PassesOwn.never rfl (pi_list (pv 2)) (pg_name (i := 4) sc_law.nd rfl (Or.inl rfl))
        (pss_one (ps_set (i := 3) sc_law.nd rfl (Or.inl rfl) (pe_op op_cat (pv 3) (pe_cal claw_letters (hr.mono (by decide)) (by rfl) (pa_cons (pv 4) pa_nil))))))
      (pss_cons (ps_set (i := 5) sc_law.nd rfl (Or.inl rfl) (pe_mk0 kMirror (hr.mono (by decide)) (by rfl)))
      (pss_cons (ps_set (i := 6) sc_law.nd rfl (Or.inl rfl) (pe_lst pa_nil))
      (pss_cons (ps_set (i := 7) sc_law.nd rfl (Or.inl rfl) (pe_tup (pa_cons pe_int (pa_cons pe_int (pa_cons pe_int (pa_cons (pe_tup pa_nil) (pa_cons (pe_tup pa_nil) pa_nil)))))))
      (C8.pss_cut (ps_if (PW.pt (pw_or (pt_not (pt_val (pe_calG claw_alike gd (hr.mono (by decide)) (by rfl) (pa_cons (pe_calM0 cMirror_shown (hr.mono (by decide)) (pv 5)) (pa_cons (pv 7) pa_nil))))) (pw_or1 (pt_cmpR op_notN (pe_calM cMirror_page (hr.mono (by decide)) (pv 5) (pa_cons pe_str pa_nil)) pe_non (nomark _)))))
        (pss_one (ps_ret pe_bl))
        pss_nil)
      (pss_cons (ps_for PassesOwn.never rfl (pi_range1 (by rfl) z.range (pa_cons (pe_callB (call_min2 rfl) (by rfl) z.min (by decide +kernel) (pa_cons (pe_callB (call_max2 rfl) (by rfl) z.max (by decide +kernel) (pa_cons pe_int (pa_cons (pe_op op_sub (pe_callB call_len_seq (by rfl) z.len PySem.boot_len (pa_cons (pv 0) pa_nil)) pe_int) pa_nil))) (pa_cons pe_int pa_nil))) pa_nil)) (pg_name (i := 8) sc_law.nd rfl (Or.inl rfl))
        (pss_cons (ps_set (i := 9) sc_law.nd rfl (Or.inl rfl) (pe_ix ix_list (pv 3) (pe_cal claw_draw (hr.mono (by decide)) (by rfl) (pa_cons (pv 1) (pa_cons (pe_callB call_len_seq (by rfl) z.len PySem.boot_len (pa_cons (pv 3) pa_nil)) pa_nil))) (fun _ _ => rfl)))
        (C8.pss_cut (ps_if (PW.pt (pw_and (pt_cmpR (op_inD (u65 hr)) (pv 9) (pv 6) (by rfl)) (pw_and1 (pt_cmpR op_eq (pe_cal claw_draw (hr.mono (by decide)) (by rfl) (pa_cons (pv 1) (pa_cons pe_int pa_nil))) pe_int (nomark _)))))
          (pss_one (ps_if (pt_cmpR (op_neD hr.units) (pe_cal claw_hear (hr.mono (by decide)) (by rfl) (pa_cons (pv 5) (pa_cons (pe_cal claw_unlike (hr.mono (by decide)) (by rfl) (pa_cons (pv 1) (pa_cons (pv 9) pa_nil))) pa_nil))) (pe_tup (pa_cons pe_str (pa_cons pe_bl pa_nil))) (nomark _))
            (pss_one (ps_ret pe_bl))
            pss_nil))
          pss_nil)
        (pss_cons (ps_expr (pe_bm PySem.F.plainAttrs_list PySem.F.slot_list_append PySem.F.type_list_append mt_append (pv 6) (pa_cons (pv 9) pa_nil)))
        (pss_cons (ps_set (i := 10) sc_law.nd rfl (Or.inl rfl) (pe_cal claw_shown (hr.mono (by decide)) (by rfl) (pa_cons (pv 6) (pa_cons (pv 2) pa_nil))))
        (pss_cons (ps_if (PW.pt (pw_or (pt_not (pt_val (pe_calG claw_alike gd (hr.mono (by decide)) (by rfl) (pa_cons (pe_cal claw_hear (hr.mono (by decide)) (by rfl) (pa_cons (pv 5) (pa_cons (pv 9) pa_nil))) (pa_cons (pe_cmpR (op_neD hr.units) (pv 10) (pv 7) (nomark _)) pa_nil))))) (pw_or1 (pt_not (pt_val (pe_calG claw_alike gd (hr.mono (by decide)) (by rfl) (pa_cons (pe_calM0 cMirror_shown (hr.mono (by decide)) (pv 5)) (pa_cons (pv 10) pa_nil))))))))
          (pss_one (ps_ret pe_bl))
          pss_nil)
        (pss_cons (ps_set (i := 7) sc_law.nd rfl (Or.inl rfl) (pv 10))
        (pss_one (ps_for PassesOwn.never rfl (pi_list (pe_lst (pa_cons pe_str (pa_cons pe_str (pa_cons pe_str (pa_cons pe_str pa_nil)))))) (pg_name (i := 11) sc_law.nd rfl (Or.inr rfl))
          (pss_cons (ps_setLc (i := 12) (own := [("row", 14)]) (g := (gName 14)) rfl sc_law.nd rfl rfl (sw_true rfl rfl rfl (by decide +kernel)) (pi_tup (pe_ix ix_tup (pv 10) pe_int (fun _ _ => rfl))) (blkOk_by (own := [("row", 14)]) (N := ["script", "box", "versions", "letters", "version", "mirror", "heard", "shown", "turn", "letter", "now", "name", "texts", "due", "row"]) (sc := defScope s_law) (by decide +kernel)) (fun _ _ _ _ _ => pg_name (i := 14) sc_law.nd rfl (Or.inl rfl)) (fun _ _ _ _ _ => (pts_one (pt_cmpR op_eq (pe_ix (ix_tupK (K := K) rfl) (pv 14) pe_int (fun _ _ => rfl)) (pv 11) (nomark _)))) (fun _ _ _ _ _ => (pe_ix (ix_tupK (K := K) rfl) (pv 14) pe_int (fun _ _ => rfl))))
          (pss_cons (ps_set (i := 13) sc_law.nd rfl (Or.inl rfl) pe_non)
          (C8.pss_cut (ps_if (pt_cmpR (op_neD hr.units) (pv 12) (pe_lst pa_nil) (nomark _))
            (pss_one (ps_set (i := 13) sc_law.nd rfl (Or.inl rfl) (pe_ix ix_list (pv 12) pe_int (fun _ _ => rfl))))
            pss_nil)
          (pss_one (ps_if (pt_not (pt_val (pe_calG claw_alike gd (hr.mono (by decide)) (by rfl) (pa_cons (pe_calM cMirror_page (hr.mono (by decide)) (pv 5) (pa_cons (pv 11) pa_nil)) (pa_cons (pv 13) pa_nil)))))
            (pss_one (ps_ret pe_bl))
            pss_nil))))))))))))))
      (pss_one (ps_ret pe_bl))))))))))), ?_⟩
    -- the box
    refine ⟨.ref a, rfl, a, ns, 0, 63, rfl, hs, by decide, by decide, fun H1 pd ds sm np hp fewd => ?_⟩
    refine ⟨by show 2 ≤ sizeLine; decide, fun b nb => ?_⟩
    have npb : pd ≠ b := ne_of_none hp nb
    have bx0 : BoxAt (upd H1 b (.lst [.ref pd, .int 0])) b pd := ⟨ds, 0, upd_same, by rw [upd_ne npb]; exact hp, npb, fewd⟩
    have hsA : ∀ H', Drew b (upd H1 b (.lst [.ref pd, .int 0])) H' → SqL K H' a (ns.map V.int) := fun H' D => by
      have kp : ∀ {o : HO}, H1 a = some o → H' a = some o := fun {o} e => D.keep a o (ne_of_none e nb) (same_new nb _ _ e)
      rcases hs with (e | ⟨u, e⟩) | r
      · exact .inl (.inl (kp (sm _ _ e)))
      · exact .inl (.inr ⟨u, kp (sm _ _ e)⟩)
      · exact .inr r
    generalize upd H1 b (.lst [.ref pd, .int 0]) = G1 at bx0 hsA ⊢
    clear hp nb npb np sm hs fewd
    -- the versions
    refine ⟨.ref b, rfl, b, rfl, ⟨_, bx0⟩, fun H2 VL ws d2 nVL lv vo l1 l5 => ?_⟩
    have bx2 := d2.dig _ bx0
    have Vb : VL ≠ b := (bx0.ne nVL).1
    have pV := vers_pd vo l5
    refine ⟨Nat.zero_le _, fun L0 nL0 => ?_⟩
    -- their letters
    have s3 := same_new (o := .lst []) nL0
    obtain ⟨vvs, hV, dV⟩ := lv
    have lvv := dpAll_len dV
    rw [List.length_map] at lvv
    refine ⟨_, rfl, VL, rfl, ⟨_, .inl (.inl (s3 _ _ hV))⟩, ?_⟩
    have few7 := allL_few vo.ok
    refine for_list (K := K) (a := VL) (xs := vvs) (fun i σ H3 => ∃ (y4 : Option V) (L : Addr), σ = [some (.ref a), some (.ref b), some (.ref VL), some (.ref L), y4, none, none, none, none, none, none, none, none, none, none] ∧ Same (upd H2 L0 (.lst [])) H3 ∧ LAt K H3 L ((allL (ws.take i)).map Ltr.d) ∧ H2 L = none)
      ⟨_, L0, rfl, Same.refl _, ⟨[], upd_same, by rw [List.take_zero]; exact .nil⟩, nL0⟩ (fun i σ H3 _ ⟨_, _, _, s4, _⟩ => .inl (.inl (s4 _ _ (s3 _ _ hV)))) ?_ ?_
    · rintro i y σ H3 hy ⟨y4, L, rfl, s4, lL, nL⟩
      obtain ⟨d, hd, dy⟩ := dpAll_get' dV hy
      rw [List.getElem?_map] at hd
      obtain ⟨v, hv', rfl⟩ : ∃ v, ws[i]? = some v ∧ v.d = d := by
        cases e : ws[i]? with
        | none => rw [e] at hd; cases hd
        | some v => rw [e] at hd; exact ⟨v, rfl, Option.some.inj hd⟩
      have vm := List.mem_of_getElem? hv'
      have vo1 := vo.ok v vm
      have tk : ws.take (i + 1) = ws.take i ++ [v] := by rw [List.take_add_one, hv']; rfl
      have ft : (allL (ws.take i)).length ≤ 35 := by
        have h1 := allL_few (ws := ws.take i) fun u hu => vo.ok u (List.mem_of_mem_take hu)
        rw [List.length_take] at h1
        omega
      have pL : PdA 8 (100 * (6000 + 1)) ((allL (ws.take i)).map Ltr.d) := ltrs_pd (allL_ok fun u hu => vo.ok u (List.mem_of_mem_take hu)) (by omega)
      have dy3 := vo1.pd.keep (Same.keepT (s3.trans s4)) dy
      refine ⟨.ref L, rfl, y, rfl, y, v, rfl, dy3, vo1, fun H4 l s5 nl ll => ?_⟩
      have lL4 := lL.same pL s5
      obtain ⟨us, hL, dL⟩ := lL4
      obtain ⟨xs, hl, dl⟩ := ll
      have lu := dpAll_len dL
      have lx := dpAll_len dl
      rw [List.length_map] at lu lx
      have lf := lettersV_few vo1
      refine ⟨L, l, _, _, rfl, rfl, hL, hl, by show us.length + xs.length ≤ _; exact sizeLine_big (by omega), fun c nc => ?_⟩
      have sc := same_new (o := .lst (us ++ xs)) nc
      refine ⟨_, c, rfl, s4.trans (s5.trans sc), ⟨_, upd_same, ?_⟩, ?_⟩
      · rw [tk, allL_snoc, List.map_append]
        exact dpAll_app (pL.keep (Same.keepT sc) dL) ((ltrs_pd (fun t ht => vo1.letters ht) (by omega)).keep (Same.keepT sc) dl)
      · exact back0 (s3.trans (s4.trans s5)) nc
    · rintro σ H3 ⟨y4, L, rfl, s4, lL, nL⟩
      rw [lvv, List.take_length] at lL
      have s34 := s3.trans s4
      have d3 := d2.same s34
      have lV3 : LAt K H3 VL (ws.map MVer.d) := LAt.same ⟨vvs, hV, dV⟩ pV s34
      have pL : PdA 8 (100 * (6000 + 1)) ((allL ws).map Ltr.d) := ltrs_pd (allL_ok vo.ok) (by omega)
      have nLb := (bx2.ne nL).1
      have bx3 := bx2.same s34
      have hs3 := hsA _ d3
      have lvV : ∃ vs, H3 VL = some (.lst vs) := ⟨vvs, s34 _ _ hV⟩
      clear hsA d3 d2 s3 s4 s34 bx0 hV dV nL0 bx2
      -- the mirror
      intro p dx np ndx nex
      refine ⟨p, dx, rfl, upd_same, fun H5 fp mir0 keep fnew => ⟨rfl, ?_⟩⟩
      have s5 : Same H3 H5 := fun q o e => keep q o (by rw [upd_ne (ne_of_none e np), upd_ne (ne_of_none e ndx)]; exact e) (ne_of_none e np)
      clear keep fnew np ndx nex
      refine ⟨Nat.zero_le _, fun Hd nHd => ?_⟩
      have s6 := same_new (o := .lst []) nHd
      have bx5 := bx3.same s5
      have hdn := bx5.ne nHd
      have fc : FrC b pd L VL Hd ws := ⟨vo, l1, l5, nLb, Vb, hdn.1, (by
        obtain ⟨us, h, _⟩ := lL
        exact (ne_of_none (s5 _ _ h) nHd).symm), (by
        obtain ⟨us, h⟩ := lvV
        exact (ne_of_none (s5 _ _ h) nHd).symm), hdn.2⟩
      have fr0 : Fr K (upd H5 Hd (.lst [])) b pd L VL Hd ws [] := ⟨bx5.same s6, lL.same fc.pL (s5.trans s6), lV3.same fc.pV (s5.trans s6), ⟨[], upd_same, .nil⟩⟩
      have mir1 := mir0.same s6
      have hs5 := sq_same (sq_same hs3 s5) s6
      clear mir0 s5 s6 bx5 bx3 hdn nHd lL lV3 lvV hs3 nL
      generalize upd H5 Hd (.lst []) = H6 at *
      -- nothing shown
      refine ⟨Nat.zero_le _, fun e1 n1 => ⟨Nat.zero_le _, fun e2 n2 => ⟨by show 5 ≤ sizeLine; decide, fun s0 ns0 => ?_⟩⟩⟩
      have t1 := same_new (o := .tup []) n1
      have t2 := same_new (o := .tup []) n2
      have t3 := same_new (o := .tup [.int 0, .int 0, .int 0, .ref e1, .ref e2]) ns0
      have tA := t1.trans (t2.trans t3)
      have dz : Dp K (upd (upd (upd H6 e1 (.tup [])) e2 (.tup [])) s0 (.tup [.int 0, .int 0, .int 0, .ref e1, .ref e2])) (.ref s0) MVer.zero.d := .tup (.inl (.inl upd_same)) (.cons (.int _) (.cons (.int _) (.cons (.int _) (.cons (.tup (.inl (.inl (t3 _ _ (t2 _ _ upd_same)))) .nil) (.cons (.tup (.inl (.inl (t3 _ _ upd_same))) .nil) .nil)))))
      have fr1 := fr0.nm fc (fun l h => by cases h) (Nat.zero_le _) (NM.of tA)
      have mir2 := mir1.same tA
      have hs6 := sq_same hs5 tA
      clear t1 t2 t3 tA mir1 fr0 hs5 n1 n2 ns0
      generalize upd (upd (upd H6 e1 (.tup [])) e2 (.tup [])) s0 (.tup [.int 0, .int 0, .int 0, .ref e1, .ref e2]) = H7 at *
      refine ⟨fun σ' H' => σ' = [some (.ref a), some (.ref b), some (.ref VL), some (.ref L), y4, some (.ref p), some (.ref Hd), some (.ref s0), none, none, none, none, none, none, none] ∧ Same H7 H', ?_, ?_⟩
      · obtain ⟨dx7, a1, a2, a3, a4, hp7⟩ := mir2.cls
        refine ⟨_, rfl, p, dx7, _, rfl, hp7, rfl, p, fp, Mir.zero, 0, rfl, mir2, fun sv dsv => ?_⟩
        refine ⟨_, rfl, _, _, _, _, rfl, dsv, dz, Shows.ofP zero_pd, Shows.ofP zero_pd, true, by show V.bl (decide (MVer.zero.d.shown = MVer.zero.d.shown)) = _; rw [decide_eq_true rfl], iteF ?_⟩
        refine ⟨_, rfl, p, dx7, _, rfl, hp7, rfl, p, fp, Mir.zero, 0, "a", rfl, mir2, List.nodup_nil, fun H' s' => ?_⟩
        refine ⟨rfl, _, rfl, iteF ⟨rfl, s'⟩⟩
      · rintro σ' H8 ⟨rfl, s8⟩
        have fr8 := fr1.nm fc (fun l h => by cases h) (Nat.zero_le _) (NM.of s8)
        have mir8 := mir2.same s8
        have hs8 := sq_same hs6 s8
        have d8 := zero_pd.keep (Same.keepT s8) dz
        clear s8 fr1 mir2 hs6 dz
        have hN : ∀ x : Int, 0 ≤ (if (50 : Int) < (if x > 0 then x else 0) then 50 else (if x > 0 then x else 0)) ∧ (if (50 : Int) < (if x > 0 then x else 0) then 50 else (if x > 0 then x else 0)) ≤ 50 := by
          intro x
          split <;> split <;> omega
        obtain ⟨N0, N50⟩ := hN ((ns.map V.int).length - 4)
        refine ⟨.ref a, rfl, a, _, rfl, .inl hs8, _, _, rfl, rfl, _, _, rfl, _, _, rfl, _, rfl, Int.le_trans (by decide) N0, Int.lt_of_le_of_lt N50 (by decide), ?_⟩
        clear N0
        generalize (if (50 : Int) < (if ((ns.map V.int).length : Int) - 4 > 0 then ((ns.map V.int).length : Int) - 4 else 0) then (50 : Int) else (if ((ns.map V.int).length : Int) - 4 > 0 then ((ns.map V.int).length : Int) - 4 else 0)) = N at *
        clear hN
        refine for_range (lo := 0) (n := N.toNat) (fun j σ H9 => ∃ (sv : V) (y8 y9 y10 y11 y12 y13 y14 : Option V) (fp : Addr → Prop) (m : Mir) (ls : List Ltr), σ = [some (.ref a), some (.ref b), some (.ref VL), some (.ref L), y4, some (.ref p), some (.ref Hd), some sv, y8, y9, y10, y11, y12, y13, y14] ∧
            Fr K H9 b pd L VL Hd ws ls ∧ MirA K CMirror H9 p fp m (2 * j) ∧ Dp K H9 sv m.sh.d ∧ ls.length ≤ j ∧ (∀ l ∈ ls, l ∈ allL ws) ∧ Rel ls m ∧ IsShown ls ws m.sh)
          ⟨_, _, _, _, _, _, _, _, fp, Mir.zero, [], rfl, fr8, mir8, d8, Nat.le_refl _, (fun l h => by cases h), Rel.zero, shown_zero ws⟩ ?_ ?_
        · clear hs8 fr8 mir8 d8
          rintro j σ H9 hj ⟨sv, y8, y9, y10, y11, y12, y13, y14, fp, m, ls, rfl, fr, mir, dsv, lls, sub, rel, shn⟩
          have j50 : j < 50 := by omega
          have few : ls.length ≤ 100 := by omega
          have ne1 : 1 ≤ (allL ws).length := by
            cases ws with
            | nil => cases l1
            | cons w0 r => exact List.length_pos_of_mem (mem_all.mpr ⟨w0, List.mem_cons_self, sl_mem w0⟩)
          obtain ⟨us, hL, dL⟩ := fr.lL
          have lus := dpAll_len dL
          rw [List.length_map] at lus
          refine ⟨.ref L, rfl, .ref b, rfl, .ref L, rfl, L, us, rfl, .inl (.inl (.inl hL)), b, us.length, rfl, by omega, ⟨_, fr.bx⟩, fun r H10 r0 r1 d10 => ?_⟩
          have fr10 := fr.drew fc sub few d10
          have mir10 := mir.nl (NL.drew d10 ⟨_, fr.bx⟩)
          have pm := (shn.vok vo).1
          have dsv10 := pm.keep (drew_kt d10 ⟨_, fr.bx⟩) dsv
          rw [lus] at r1
          clear hL dL fr mir d10 dsv us lus
          obtain ⟨i, rfl⟩ := Int.eq_ofNat_of_zero_le r0
          obtain ⟨us, hL, dL⟩ := fr10.lL
          have lus := dpAll_len dL
          rw [List.length_map] at lus
          have iu : i < us.length := by omega
          have hu := List.getElem?_eq_getElem iu
          obtain ⟨d, hd, dl10⟩ := dpAll_get' dL hu
          rw [List.getElem?_map] at hd
          obtain ⟨l, hl, rfl⟩ : ∃ l, (allL ws)[i]? = some l ∧ l.d = d := by
            cases e : (allL ws)[i]? with
            | none => rw [e] at hd; cases hd
            | some l => rw [e] at hd; exact ⟨l, rfl, Option.some.inj hd⟩
          have lm := List.mem_of_getElem? hl
          obtain ⟨lok, xv, hxv, lxv, xok⟩ := mem_letters lm vo
          refine ⟨L, us, (i : Nat), us[i], rfl, rfl, .inl (.inl hL), atI_nat hu, ?_⟩
          generalize us[i] = lv at dl10 ⊢
          clear hL dL lus iu hu us hd hl r0 r1
          have subX : ∀ x ∈ ls ++ [l], x ∈ allL ws := fun x hx => by
            rcases List.mem_append.mp hx with h | h
            · exact sub x h
            · rw [List.mem_singleton.mp h]; exact lm
          refine ⟨fun σ' H' => σ' = [some (.ref a), some (.ref b), some (.ref VL), some (.ref L), y4, some (.ref p), some (.ref Hd), some sv, some (.int (0 + (j : Nat))), some lv, y10, y11, y12, y13, y14] ∧ ∃ fp', Fr K H' b pd L VL Hd ws ls ∧ MirA K CMirror H' p fp' m (2 * j) ∧ Dp K H' sv m.sh.d ∧ Dp K H' lv l.d, ?_, ?_⟩
          · have lokA : ∀ x ∈ ls, x.ok := fun x hx => allL_ok vo.ok x (sub x hx)
            refine if_andE ((ls.map Ltr.d).any fun z => PyData.eqv z l.d) (fun H' => Drew b H10 H') (fun Q hq => ?_) (.of ⟨_, fr10.bx⟩ (Same.refl _)) (fun _ Q hq => ?_) ?_ ?_
            · exact ⟨_, rfl, _, rfl, l.d, ls.map Ltr.d, dl10, fr10.lH.dp, (ltr_pd lok).sz.shaped (by decide), ((fc.pH sub few).sz.lst).shaped (by decide), _, rfl, hq⟩
            · exact ⟨.ref b, rfl, b, 5, rfl, by decide, ⟨_, fr10.bx⟩, fun r H11 _ _ d11 => ⟨rfl, _, rfl, hq _ _ d11⟩⟩
            · intro ein H11 d11
              have inl := (any_ltr lok lokA).mp ein
              have fr11 := fr10.drew fc sub few d11
              refine ⟨.ref p, rfl, .ref b, rfl, lv, rfl, b, lv, xv, l, rfl, ⟨_, fr11.bx⟩, (ltr_pd lok).keep (drew_kt d11 ⟨_, fr10.bx⟩) dl10, lxv, xok, fun H12 v' l' d12 un lok' dv' => ?_⟩
              have d10 := d11.trans d12
              have mir12 := mir10.nl (NL.drew d10 ⟨_, fr10.bx⟩)
              refine ⟨p, fp, m, 2 * j, v', l', rfl, mir12, by omega, dv', lok', pm, fun ok => absurd ok (unlike_not rel inl un), fun nok H13 t mir13 ch ht => ?_⟩
              have n13 := ch.nm mir12.live
              refine ⟨by show 2 ≤ sizeLine; decide, fun u nu => ?_⟩
              have su := same_new (o := .tup [.str "refused", .bl true]) nu
              have dp1 : Dp K (upd H13 u (.tup [.str "refused", .bl true])) (.ref t) (.tuple [.str "refused", .bool true]) := .tup (.inl (.inl (su _ _ ht))) (.cons (.str _) (.cons (.bl _) .nil))
              have dp2 : Dp K (upd H13 u (.tup [.str "refused", .bl true])) (.ref u) (.tuple [.str "refused", .bool true]) := .tup (.inl (.inl upd_same)) (.cons (.str _) (.cons (.bl _) .nil))
              refine ⟨_, _, dp1, dp2, by decide +kernel, by decide +kernel, _, rfl, ite2 (fun e => absurd e (by decide +kernel)) (fun _ => ?_)⟩
              have kt := fun u xs h => Same.keepT (K := K) su u xs (n13.keepT u xs (drew_kt d10 ⟨_, fr10.bx⟩ u xs h))
              exact ⟨rfl, fp, (fr10.drew fc sub few d10).nm fc sub few (n13.trans (NM.of su)), mir13.same su, pm.keep kt dsv10, (ltr_pd lok).keep kt dl10⟩
            · intro H11 d11
              exact ⟨rfl, fp, fr10.drew fc sub few d11, mir10.nl (NL.drew d11 ⟨_, fr10.bx⟩), pm.keep (drew_kt d11 ⟨_, fr10.bx⟩) dsv10, (ltr_pd lok).keep (drew_kt d11 ⟨_, fr10.bx⟩) dl10⟩
          · rintro σ' H11 ⟨rfl, fp1, fr11, mir11, dsv11, dl11⟩
            clear fr10 mir10 dsv10 dl10
            obtain ⟨hvs, hH, _⟩ := fr11.lH
            have lhv : hvs.length = ls.length := by
              obtain ⟨vs2, h2, d2⟩ := fr11.lH
              rw [hH] at h2; cases h2
              have := dpAll_len d2
              rwa [List.length_map] at this
            refine ⟨.ref Hd, rfl, .inl ⟨rfl, _, .inl (.inl hH)⟩, lv, rfl, Hd, _, _, rfl, rfl, hH, small5 (by omega), ?_⟩
            have nl12 : NL H11 (upd H11 Hd (.lst (hvs ++ [lv]))) := NL.put hH
            have fr12 := fr11.push fc sub few hH lok dl11
            have mir12 := mir11.nl nl12
            have dsv12 := pm.keep nl12.keepT dsv11
            have dl12 := (ltr_pd lok).keep nl12.keepT dl11
            clear fr11 mir11 dsv11 dl11 nl12 hH lhv
            generalize upd H11 Hd (.lst (hvs ++ [lv])) = H12 at *
            have few1 : (ls ++ [l]).length ≤ 100 := by rw [List.length_append]; show ls.length + 1 ≤ 100; omega
            -- what is shown now, by the law
            refine ⟨.ref Hd, rfl, .ref VL, rfl, Hd, VL, ls ++ [l], ws, rfl, fr12.lH, fr12.lV, vo, few1, fun x hx => allL_ok vo.ok x (subX x hx), by omega, fun H13 nv x s13 shx dx => ?_⟩
            have fr13 := fr12.nm fc subX few1 (NM.of s13)
            have mir13 := mir12.same s13
            have dsv13 := pm.keep (Same.keepT s13) dsv12
            have dl13 := (ltr_pd lok).keep (Same.keepT s13) dl12
            clear fr12 mir12 dsv12 dl12 s13
            have px := (shx.vok vo).1
            -- .. and by the mirror
            have okl := vo.takes rel sub lm
            have rel1 := rel.upd vo sub lm
            refine ⟨.ref p, rfl, lv, rfl, p, fp1, m, 2 * j, lv, l, rfl, mir13, by omega, dl13, lok, pm, fun _ => ⟨fun nm e => rel1.pre _ nm e, fun m' sr => ?_⟩, fun nok => absurd okl nok⟩
            obtain ⟨sh', rel'⟩ := vo.shows rel1 subX shn sr
            obtain rfl := vo.shown1 sh' shx
            refine ⟨px, fun H14 fp2 mir14 ch => ?_⟩
            have n14 := ch.nm mir13.live
            have fr14 := fr13.nm fc subX few1 n14
            have dsv14 := pm.keep n14.keepT dsv13
            have dx14 := px.keep n14.keepT dx
            clear fr13 mir13 dsv13 dl13 dx ch n14
            refine ⟨nv, rfl, sv, rfl, _, _, dx14, dsv14, px.sz.shaped (by decide), pm.sz.shaped (by decide), ?_⟩
            refine ⟨_, _, _, _, rfl, .bl _, .bl _, shows_b _, shows_b _, true, by rw [decide_eq_true rfl], iteF ?_⟩
            obtain ⟨dx4, a1, a2, a3, a4, hp4⟩ := mir14.cls
            refine ⟨_, rfl, p, dx4, _, rfl, hp4, rfl, p, fp2, m', 2 * j + 2, rfl, mir14, fun uv duv => ?_⟩
            refine ⟨nv, rfl, _, _, _, _, rfl, duv, dx14, Shows.ofP px, Shows.ofP px, true, by rw [decide_eq_true rfl], iteF ?_⟩
            refine ⟨nv, rfl, ?_⟩
            clear duv dsv14 hp4
            -- the pages
            refine ⟨by show 4 ≤ sizeLine; decide, fun R nR => ?_⟩
            have s15 := same_new (o := .lst [V.str "a", .str "b", .str "ab", .str "zz"]) nR
            have fr15 := fr14.nm fc subX few1 (NM.of s15)
            have mir15 := mir14.same s15
            have dx15 := px.keep (Same.keepT s15) dx14
            have hR15 : (upd H14 R (.lst [V.str "a", .str "b", .str "ab", .str "zz"])) R = some (.lst [V.str "a", .str "b", .str "ab", .str "zz"]) := upd_same
            clear fr14 mir14 dx14 s15 nR
            generalize upd H14 R (.lst [V.str "a", .str "b", .str "ab", .str "zz"]) = H15 at *
            refine ⟨R, rfl, ⟨_, .inl (.inl hR15)⟩, ?_⟩
            refine for_list (K := K) (a := R) (xs := [V.str "a", .str "b", .str "ab", .str "zz"]) (fun i σ H3 => ∃ (y11 y12 y13 y14 : Option V), σ = [some (.ref a), some (.ref b), some (.ref VL), some (.ref L), y4, some (.ref p), some (.ref Hd), some nv, some (.int (0 + (j : Nat))), some lv, some nv, y11, y12, y13, y14] ∧ Same H15 H3)
              ⟨_, _, _, _, rfl, Same.refl _⟩ (fun i σ H3 _ ⟨_, _, _, _, _, s4⟩ => .inl (.inl (s4 _ _ hR15))) ?_ ?_
            · rintro i y σ H3 hy ⟨y11, y12, y13, y14, rfl, s16⟩
              obtain ⟨name, rfl⟩ : ∃ name : Str, y = .str name := by
                have := List.mem_of_getElem? hy
                simp only [List.mem_cons, List.not_mem_nil, or_false] at this
                rcases this with rfl | rfl | rfl | rfl <;> exact ⟨_, rfl⟩
              clear hy
              have mir16 := mir15.same s16
              have dx16 := px.keep (Same.keepT s16) dx15
              obtain ⟨va, pa, bv, us, rfl, sq, sp, dp, _⟩ := ver_parts dx16
              have lu := dpAll_len dp
              rw [List.length_map] at lu
              obtain ⟨_, ndp, few6, codp⟩ := shx.vok vo
              refine ⟨.ref va, rfl, va, _, _, .ref pa, rfl, rfl, sq, atI_nat (j := 3) rfl, pa, rfl, ⟨_, sp⟩, fun D nD => ?_⟩
              refine lc_pickT (K := K) (a := pa) (xs := us) (ts := m'.sh.pages) lu (fun t => decide (t.1 = name)) (fun t => V.str t.2) nD sp (small5 (by omega)) ?_ ?_
              · rintro i u t H' S1 S2 hu ht s1 hS1 hS2
                obtain ⟨d, hd', du⟩ := dpAll_get' dp hu
                rw [List.getElem?_map, ht] at hd'
                obtain rfl : pairD t = d := Option.some.inj hd'
                obtain ⟨qa, rfl, sqa⟩ := pair_parts du
                have sqa := Pg.same_seqT s1 sqa
                refine ⟨rfl, .ref qa, rfl, qa, _, _, .str t.1, rfl, rfl, sqa, atI_nat (j := 0) rfl, .str name, rfl, rfl, _, rfl, ite2 (fun e => ?_) (fun e => ?_)⟩
                · exact ⟨.ref qa, rfl, qa, _, _, .str t.2, rfl, rfl, sqa, atI_nat (j := 1) rfl, hS1 (decide_eq_true (V.str.inj (of_decide_eq_true e)))⟩
                · exact hS2 (decide_eq_false fun h => e (decide_eq_true (by rw [h])))
              · have s17 := same_new (o := .lst ((m'.sh.pages.filter fun t => decide (t.1 = name)).map fun t => V.str t.2)) nD
                have hD : (upd H3 D (.lst ((m'.sh.pages.filter fun t => decide (t.1 = name)).map fun t => V.str t.2))) D = some (.lst (((m'.sh.pages.filter fun t => decide (t.1 = name)).map (·.2)).map V.str)) := by
                  rw [upd_same, List.map_map]; rfl
                have s18 := s16.trans s17
                have eg := find_pages name m'.sh.pages
                have fds : ((m'.sh.pages.filter fun t => decide (t.1 = name)).map (·.2)).length ≤ 6 := by
                  rw [List.length_map]
                  exact Nat.le_trans (List.length_filter_le _ _) few6
                have cds : ∀ z ∈ (m'.sh.pages.filter fun t => decide (t.1 = name)).map (·.2), Codes z ∧ z.length ≤ 10 := fun z hz => by
                  obtain ⟨pr, hpr, rfl⟩ := List.mem_map.mp hz
                  obtain ⟨_, _, h3, h4⟩ := codp pr (List.mem_filter.mp hpr).1
                  exact ⟨h3, h4⟩
                clear sq sp dp s16 s17 nD dx16
                generalize upd H3 D (.lst ((m'.sh.pages.filter fun t => decide (t.1 = name)).map fun t => V.str t.2)) = H17 at *
                generalize (m'.sh.pages.filter fun t => decide (t.1 = name)).map (·.2) = ds at *
                have pds : PdA 0 (6 * (10 + 1)) (ds.map PyData.str) := PdA.all (fun d hd => by
                  obtain ⟨z, hz, rfl⟩ := List.mem_map.mp hd
                  exact Pd.str (cds z hz).1 (cds z hz).2) (by rw [List.length_map]; exact fds)
                refine ⟨fun σ' H' => ∃ y14 : Option V, σ' = [some (.ref a), some (.ref b), some (.ref VL), some (.ref L), y4, some (.ref p), some (.ref Hd), some (.ref va), some (.int (0 + (j : Nat))), some lv, some (.ref va), some (.str name), some (.ref D), some (((getP m'.sh.pages name).map V.str).getD .non), y14] ∧ Same H15 H', ?_, ?_⟩
                · refine ⟨.ref D, rfl, Nat.zero_le _, fun E nE => ?_⟩
                  have sE := same_new (o := .lst []) nE
                  refine ⟨_, _, .lst (.inl (.inl (sE _ _ hD))) (vstr_dp ds), .lst (.inl (.inl upd_same)) .nil, (pds.sz.lst).shaped (by decide), by decide +kernel, _, rfl, ?_⟩
                  rw [eq_nil, eg]
                  cases ds with
                  | nil => exact iteF ⟨_, rfl, s18.trans sE⟩
                  | cons z0 zs => exact iteT ⟨.ref D, rfl, D, _, _, .str z0, rfl, rfl, .inl (.inl (sE _ _ hD)), atI_nat (j := 0) rfl, _, rfl, s18.trans sE⟩
                · rintro σ' H18 ⟨z14, rfl, s19⟩
                  have mir18 := mir15.same s19
                  obtain ⟨dx4, a1, a2, a3, a4, hp4⟩ := mir18.cls
                  refine ⟨_, rfl, p, dx4, _, rfl, hp4, rfl, .str name, rfl, p, fp2, m', 2 * j + 2, name, rfl, mir18, ndp, fun H19 s20 => ?_⟩
                  have hd : ∃ d : PyData, Shows d ∧ Dp K H19 (((getP m'.sh.pages name).map V.str).getD .non) d := by
                    rw [eg]
                    cases ds with
                    | nil => exact ⟨.none, Shows.ofP Pd.none, .non⟩
                    | cons z0 zs => exact ⟨.str z0, Shows.ofP (Pd.str (cds z0 List.mem_cons_self).1 (cds z0 List.mem_cons_self).2), .str _⟩
                  obtain ⟨d, shd, dpd⟩ := hd
                  exact ⟨_, rfl, _, _, d, d, rfl, dpd, dpd, shd, shd, true, by rw [decide_eq_true rfl], iteF ⟨_, _, _, _, rfl, s19.trans s20⟩⟩
            · rintro σ H3 ⟨y11, y12, y13, y14, rfl, s16⟩
              exact ⟨nv, _, _, _, _, _, _, _, fp2, m', ls ++ [l], rfl, fr15.nm fc subX few1 (NM.of s16), (mir15.same s16), px.keep (Same.keepT s16) dx15, by rw [List.length_append]; show ls.length + 1 ≤ j + 1; omega, subX, rel', shx⟩
        · rintro σ H9 ⟨sv, y8, y9, y10, y11, y12, y13, y14, fp, m, ls, rfl, _⟩
          exact q H9
end
end K61

namespace K61
open PySem PySem.Spec PyProof.Rows L2 Pg
/-! what the top has written -/
theorem all_mk {l : PySem.W.OpenLaw} {w : World} {K : PySem.W.Frag} {h : Heap} {mg : Str → Option Value} {fa f0 f1 f2 f3 f4 f5 f6 f7 f8 f9 f10 f11 f12 f13 f14 f15 f16 f17 f18 CMirror : Addr} (X : K.In h) (G : h.Ns mainGlobals mg) (hfa : mg "law" = some (.ref fa))
    {od0 an0 od1 an1 od2 an2 od3 an3 od4 an4 od5 an5 od6 an6 od7 an7 od8 an8 od9 an9 od10 an10 od11 an11 od12 an12 od13 an13 od14 an14 od15 an15 od16 an16 od17 an17 od18 an18 : Option Addr} {sl0 sl1 sl2 sl3 sl4 sl5 sl6 sl7 sl8 sl9 sl10 sl11 sl12 sl13 sl14 sl15 sl16 sl17 sl18 : Array (Option Value)} {oc0 kV0 dc0 pm0 cd0 ct0 oc1 kV1 dc1 pm1 cd1 ct1 oc2 kV2 dc2 pm2 cd2 ct2 oc3 kV3 dc3 pm3 cd3 ct3 oc4 kV4 dc4 pm4 cd4 ct4 oc5 kV5 dc5 pm5 cd5 ct5 oc6 kV6 dc6 pm6 cd6 ct6 oc7 kV7 dc7 pm7 cd7 ct7 oc8 kV8 dc8 pm8 cd8 ct8 oc9 kV9 dc9 pm9 cd9 ct9 oc10 kV10 dc10 pm10 cd10 ct10 oc11 kV11 dc11 pm11 cd11 ct11 oc12 kV12 dc12 pm12 cd12 ct12 oc13 kV13 dc13 pm13 cd13 ct13 oc14 kV14 dc14 pm14 cd14 ct14 oc15 kV15 dc15 pm15 cd15 ct15 oc16 kV16 dc16 pm16 cd16 ct16 oc17 kV17 dc17 pm17 cd17 ct17 oc18 kV18 dc18 pm18 cd18 ct18 : Value}
     {ulC : Addr} {pgC : Addr} {nkC : Addr}
    (a0 : PySem.W.findIn K (.ref CMirror) "__init__" = some (some (.ref f0))) (i0 : PySem.W.isFn K (.ref f0) = true) (l0 : K.lookup f0 = some ⟨oc0, od0, .func (PySem.W.fnOf "__init__" "Mirror.__init__" (defArgs s_Mirror_init) (defBody s_Mirror_init) (defScope s_Mirror_init) .none kV0 dc0 pm0 an0 cd0 ct0), sl0⟩)
      (c0 : PySem.W.codeIn K cd0 "Mirror.__init__" = true) (k0 : PySem.W.keepIn K (.ref f0) = true)
    (a1 : PySem.W.findIn K (.ref CMirror) "shown" = some (some (.ref f1))) (i1 : PySem.W.isFn K (.ref f1) = true) (l1 : K.lookup f1 = some ⟨oc1, od1, .func (PySem.W.fnOf "shown" "Mirror.shown" (defArgs s_Mirror_shown) (defBody s_Mirror_shown) (defScope s_Mirror_shown) .none kV1 dc1 pm1 an1 cd1 ct1), sl1⟩)
      (c1 : PySem.W.codeIn K cd1 "Mirror.shown" = true) (k1 : PySem.W.keepIn K (.ref f1) = true)
    (a2 : PySem.W.findIn K (.ref CMirror) "page" = some (some (.ref f2))) (i2 : PySem.W.isFn K (.ref f2) = true) (l2 : K.lookup f2 = some ⟨oc2, od2, .func (PySem.W.fnOf "page" "Mirror.page" (defArgs s_Mirror_page) (defBody s_Mirror_page) (defScope s_Mirror_page) .none kV2 dc2 pm2 an2 cd2 ct2), sl2⟩)
      (c2 : PySem.W.codeIn K cd2 "Mirror.page" = true) (k2 : PySem.W.keepIn K (.ref f2) = true)
    (a3 : PySem.W.findIn K (.ref CMirror) "_hear_page" = some (some (.ref f3))) (i3 : PySem.W.isFn K (.ref f3) = true) (l3 : K.lookup f3 = some ⟨oc3, od3, .func (PySem.W.fnOf "_hear_page" "Mirror._hear_page" (defArgs s_Mirror_hear_page) (defBody s_Mirror_hear_page) (defScope s_Mirror_hear_page) .none kV3 dc3 pm3 an3 cd3 ct3), sl3⟩)
      (c3 : PySem.W.codeIn K cd3 "Mirror._hear_page" = true) (k3 : PySem.W.keepIn K (.ref f3) = true)
    (a4 : PySem.W.findIn K (.ref CMirror) "_hear_seal" = some (some (.ref f4))) (i4 : PySem.W.isFn K (.ref f4) = true) (l4 : K.lookup f4 = some ⟨oc4, od4, .func (PySem.W.fnOf "_hear_seal" "Mirror._hear_seal" (defArgs s_Mirror_hear_seal) (defBody s_Mirror_hear_seal) (defScope s_Mirror_hear_seal) .none kV4 dc4 pm4 an4 cd4 ct4), sl4⟩)
      (c4 : PySem.W.codeIn K cd4 "Mirror._hear_seal" = true) (k4 : PySem.W.keepIn K (.ref f4) = true)
    (a5 : PySem.W.findIn K (.ref CMirror) "_show" = some (some (.ref f5))) (i5 : PySem.W.isFn K (.ref f5) = true) (l5 : K.lookup f5 = some ⟨oc5, od5, .func (PySem.W.fnOf "_show" "Mirror._show" (defArgs s_Mirror_show) (defBody s_Mirror_show) (defScope s_Mirror_show) .none kV5 dc5 pm5 an5 cd5 ct5), sl5⟩)
      (c5 : PySem.W.codeIn K cd5 "Mirror._show" = true) (k5 : PySem.W.keepIn K (.ref f5) = true)
    (a6 : PySem.W.findIn K (.ref CMirror) "hear" = some (some (.ref f6))) (i6 : PySem.W.isFn K (.ref f6) = true) (l6 : K.lookup f6 = some ⟨oc6, od6, .func (PySem.W.fnOf "hear" "Mirror.hear" (defArgs s_Mirror_hear) (defBody s_Mirror_hear) (defScope s_Mirror_hear) .none kV6 dc6 pm6 an6 cd6 ct6), sl6⟩)
      (c6 : PySem.W.codeIn K cd6 "Mirror.hear" = true) (k6 : PySem.W.keepIn K (.ref f6) = true)
    (a7 : PySem.W.nsIn K mainGlobals "_law_cell" = some (some (.ref f7))) (l7 : K.lookup f7 = some ⟨oc7, od7, .func (PySem.W.fnOf "_law_cell" "_law_cell" (defArgs s_law_cell) (defBody s_law_cell) (defScope s_law_cell) .none kV7 dc7 pm7 an7 cd7 ct7), sl7⟩)
      (c7 : PySem.W.codeIn K cd7 "_law_cell" = true) (k7 : PySem.W.keepIn K (.ref f7) = true)
    (a8 : PySem.W.nsIn K mainGlobals "_law_digits" = some (some (.ref f8))) (l8 : K.lookup f8 = some ⟨oc8, od8, .func (PySem.W.fnOf "_law_digits" "_law_digits" (defArgs s_law_digits) (defBody s_law_digits) (defScope s_law_digits) .none kV8 dc8 pm8 an8 cd8 ct8), sl8⟩)
      (c8 : PySem.W.codeIn K cd8 "_law_digits" = true) (k8 : PySem.W.keepIn K (.ref f8) = true)
    (a9 : PySem.W.nsIn K mainGlobals "_law_draw" = some (some (.ref f9))) (l9 : K.lookup f9 = some ⟨oc9, od9, .func (PySem.W.fnOf "_law_draw" "_law_draw" (defArgs s_law_draw) (defBody s_law_draw) (defScope s_law_draw) .none kV9 dc9 pm9 an9 cd9 ct9), sl9⟩)
      (c9 : PySem.W.codeIn K cd9 "_law_draw" = true) (k9 : PySem.W.keepIn K (.ref f9) = true)
    (a10 : PySem.W.nsIn K mainGlobals "_law_name" = some (some (.ref f10))) (l10 : K.lookup f10 = some ⟨oc10, od10, .func (PySem.W.fnOf "_law_name" "_law_name" (defArgs s_law_name) (defBody s_law_name) (defScope s_law_name) .none kV10 dc10 pm10 an10 cd10 ct10), sl10⟩)
      (c10 : PySem.W.codeIn K cd10 "_law_name" = true) (k10 : PySem.W.keepIn K (.ref f10) = true)
    (a11 : PySem.W.nsIn K mainGlobals "_law_pages" = some (some (.ref f11))) (l11 : K.lookup f11 = some ⟨oc11, od11, .func (PySem.W.fnOf "_law_pages" "_law_pages" (defArgs s_law_pages) (defBody s_law_pages) (defScope s_law_pages) .none kV11 dc11 pm11 an11 cd11 ct11), sl11⟩)
      (c11 : PySem.W.codeIn K cd11 "_law_pages" = true) (k11 : PySem.W.keepIn K (.ref f11) = true)
    (a12 : PySem.W.nsIn K mainGlobals "_law_alike" = some (some (.ref f12))) (l12 : K.lookup f12 = some ⟨oc12, od12, .func (PySem.W.fnOf "_law_alike" "_law_alike" (defArgs s_law_alike) (defBody s_law_alike) (defScope s_law_alike) .none kV12 dc12 pm12 an12 cd12 ct12), sl12⟩)
      (c12 : PySem.W.codeIn K cd12 "_law_alike" = true) (k12 : PySem.W.keepIn K (.ref f12) = true)
    (a13 : PySem.W.nsIn K mainGlobals "_law_versions" = some (some (.ref f13))) (l13 : K.lookup f13 = some ⟨oc13, od13, .func (PySem.W.fnOf "_law_versions" "_law_versions" (defArgs s_law_versions) (defBody s_law_versions) (defScope s_law_versions) .none kV13 dc13 pm13 an13 cd13 ct13), sl13⟩)
      (c13 : PySem.W.codeIn K cd13 "_law_versions" = true) (k13 : PySem.W.keepIn K (.ref f13) = true)
    (a14 : PySem.W.nsIn K mainGlobals "_law_letters" = some (some (.ref f14))) (l14 : K.lookup f14 = some ⟨oc14, od14, .func (PySem.W.fnOf "_law_letters" "_law_letters" (defArgs s_law_letters) (defBody s_law_letters) (defScope s_law_letters) .none kV14 dc14 pm14 an14 cd14 ct14), sl14⟩)
      (c14 : PySem.W.codeIn K cd14 "_law_letters" = true) (k14 : PySem.W.keepIn K (.ref f14) = true)
    (a15 : PySem.W.nsIn K mainGlobals "_law_hear" = some (some (.ref f15))) (l15 : K.lookup f15 = some ⟨oc15, od15, .func (PySem.W.fnOf "_law_hear" "_law_hear" (defArgs s_law_hear) (defBody s_law_hear) (defScope s_law_hear) .none kV15 dc15 pm15 an15 cd15 ct15), sl15⟩)
      (c15 : PySem.W.codeIn K cd15 "_law_hear" = true) (k15 : PySem.W.keepIn K (.ref f15) = true)
    (a16 : PySem.W.nsIn K mainGlobals "_law_unlike" = some (some (.ref f16))) (l16 : K.lookup f16 = some ⟨oc16, od16, .func (PySem.W.fnOf "_law_unlike" "_law_unlike" (defArgs s_law_unlike) (defBody s_law_unlike) (defScope s_law_unlike) .none kV16 dc16 pm16 an16 cd16 ct16), sl16⟩)
      (c16 : PySem.W.codeIn K cd16 "_law_unlike" = true) (k16 : PySem.W.keepIn K (.ref f16) = true)
    (a17 : PySem.W.nsIn K mainGlobals "_law_shown" = some (some (.ref f17))) (l17 : K.lookup f17 = some ⟨oc17, od17, .func (PySem.W.fnOf "_law_shown" "_law_shown" (defArgs s_law_shown) (defBody s_law_shown) (defScope s_law_shown) .none kV17 dc17 pm17 an17 cd17 ct17), sl17⟩)
      (c17 : PySem.W.codeIn K cd17 "_law_shown" = true) (k17 : PySem.W.keepIn K (.ref f17) = true)
    (a18 : PySem.W.nsIn K mainGlobals "law" = some (some (.ref f18))) (l18 : K.lookup f18 = some ⟨oc18, od18, .func (PySem.W.fnOf "law" "law" (defArgs s_law) (defBody s_law) (defScope s_law) .none kV18 dc18 pm18 an18 cd18 ct18), sl18⟩)
      (c18 : PySem.W.codeIn K cd18 "law" = true) (k18 : PySem.W.keepIn K (.ref f18) = true)
    (qMirror0 : PySem.W.nsIn K mainGlobals "Mirror" = some (some (.ref CMirror))) (qMirror1 : PySem.W.plainGet K CMirror Str.empty = true) (qMirror2 : PySem.W.hasDictIn K CMirror = true) (qMirror3 : PySem.W.plainOver K CMirror = true) (qMirror4 : PySem.W.findIn K (.ref CMirror) "__setattr__" = some (some (.builtin "object.__setattr__"))) (qMirror5 : PySem.W.makesIn K CMirror = true) (qMirror6 : PySem.W.keepIn K (.ref CMirror) = true)
    (pMirror0 : PySem.W.findIn K (.ref CMirror) "_texts" = some none)
    (pMirror1 : PySem.W.findIn K (.ref CMirror) "_contents" = some none)
    (pMirror2 : PySem.W.findIn K (.ref CMirror) "_times" = some none)
    (pMirror3 : PySem.W.findIn K (.ref CMirror) "_shown" = some none)
    (z0 : PySem.W.nsIn K mainGlobals "len" = some none)
    (z1 : PySem.W.nsIn K mainGlobals "range" = some none)
    (z2 : PySem.W.nsIn K mainGlobals "int" = some none)
    (z3 : PySem.W.nsIn K mainGlobals "repr" = some none)
    (z4 : PySem.W.nsIn K mainGlobals "list" = some none)
    (z5 : PySem.W.nsIn K mainGlobals "tuple" = some none)
    (z6 : PySem.W.nsIn K mainGlobals "dict" = some none)
    (z7 : PySem.W.nsIn K mainGlobals "all" = some none)
    (z8 : PySem.W.nsIn K mainGlobals "max" = some none)
    (z9 : PySem.W.nsIn K mainGlobals "min" = some none)
    (z10 : PySem.W.nsIn K mainGlobals "str" = some none)
    (z11 : PySem.W.nsIn K mainGlobals "isinstance" = some none)
    (xul0 : PySem.W.nsIn K mainGlobals "UnlikeLetters" = some (some (.ref ulC)))
    (xul1 : PySem.W.excIn K ulC [.type "ValueError", .type "Exception", .type "BaseException", .type "object"] "ValueError.__new__" = true)
    (xul2 : PySem.W.keepIn K (.ref ulC) = true)
    (xul3 : PySem.W.subIn K (.ref ulC) (.type "BaseException") = some true)
    (xul4 : PySem.W.typeIn K (.ref ulC) = some (.type "type"))
    (xpg0 : PySem.W.nsIn K mainGlobals "PageError" = some (some (.ref pgC)))
    (xpg1 : PySem.W.excIn K pgC [.type "ValueError", .type "Exception", .type "BaseException", .type "object"] "ValueError.__new__" = true)
    (xpg2 : PySem.W.keepIn K (.ref pgC) = true)
    (xpg3 : PySem.W.subIn K (.ref pgC) (.type "BaseException") = some true)
    (xpg4 : PySem.W.typeIn K (.ref pgC) = some (.type "type"))
    (xnk0 : PySem.W.nsIn K mainGlobals "NotKept" = some (some (.ref nkC)))
    (xnk1 : PySem.W.excIn K nkC [.type "ValueError", .type "Exception", .type "BaseException", .type "object"] "ValueError.__new__" = true)
    (xnk2 : PySem.W.keepIn K (.ref nkC) = true)
    (xnk3 : PySem.W.subIn K (.ref nkC) (.type "BaseException") = some true)
    (xnk4 : PySem.W.typeIn K (.ref nkC) = some (.type "type"))
    (u1 : PySem.W.subIn K (.ref ulC) (.ref ulC) = some true)
    (u3 : PySem.W.subIn K (.ref ulC) (.ref pgC) = some true)
    (u4 : PySem.W.subIn K (.ref ulC) (.ref nkC) = some false)
    (u5 : PySem.W.hasDictIn K pgC = true)
    (u6 : PySem.W.hasDictIn K nkC = true)
    (y5 : PySem.W.findIn K (.ref ulC) "__getattribute__" = some (some (.builtin "BaseException.__getattribute__")))
    (y6 : PySem.W.findIn K (.ref ulC) "__getattr__" = some none)
    (y7 : PySem.W.hasDictIn K ulC = true)
    (y8 : PySem.W.findIn K (.ref ulC) "__class__" = some (some (.builtin "object.__class__")))
    (y9 : PySem.W.specialIn K (.builtin "object.__class__") "__get__" = some (some (.builtin "getset_descriptor.__get__")))
    (ya : PySem.W.takesIn K (.builtin "object.__class__") = some true)
    (yb : PySem.W.mroIn K ulC (.type "object") = some true) :
    ∃ fd : FuncData, (∀ (s : Shared) (v : Value), BindsTo s fd ⟨[v], []⟩ [("script", v)]) ∧ ∀ base : Heap, K.In base → base.Ns mainGlobals mg → FnG l.prog w K mg base 9 fa fd ["script"] (spLaw K) := by
  obtain rfl : fa = f18 := by
    have e := hfa.symm.trans (PySem.W.mg_of X G a18)
    cases e
    rfl
  have z : Z mg := ⟨PySem.W.mg_none_of X G z0, PySem.W.mg_none_of X G z1, PySem.W.mg_none_of X G z2, PySem.W.mg_none_of X G z3, PySem.W.mg_none_of X G z4, PySem.W.mg_none_of X G z5, PySem.W.mg_none_of X G z6, PySem.W.mg_none_of X G z7, PySem.W.mg_none_of X G z8, PySem.W.mg_none_of X G z9, PySem.W.mg_none_of X G z10, PySem.W.mg_none_of X G z11⟩
  have ul : Pg.ErrTxt K mg "UnlikeLetters" ulC := ⟨PySem.W.mg_of X G xul0, xul1, xul2, xul3, xul4⟩
  have pg : Pg.ErrTxt K mg "PageError" pgC := ⟨PySem.W.mg_of X G xpg0, xpg1, xpg2, xpg3, xpg4⟩
  have nk : Pg.ErrTxt K mg "NotKept" nkC := ⟨PySem.W.mg_of X G xnk0, xnk1, xnk2, xnk3, xnk4⟩
  have ulX : ExcC K ulC := ⟨y5, y6, xul3, y7, y8, y9, ya, yb⟩
  have y1 := PySem.W.exm_ref xpg3 u5 xpg4 u3
  have y2 := kit_true y7 xul4 u1
  have y4 := kit_false u6 xnk4 u4 u1
  have tMirror : T_Mirror K mg CMirror := ⟨⟨qMirror1, qMirror2, qMirror3, qMirror4⟩, PySem.W.mg_of X G qMirror0, pMirror0, pMirror1, pMirror2, pMirror3⟩
  have F0 := fun_mk (st := s_Mirror_init) l0 c0 k0
  have b0 := F0.binds (ps := ["self"]) fun _ _ _ _ _ _ us hl => match us, hl with | [_], _ => rfl
  have F1 := fun_mk (st := s_Mirror_shown) l1 c1 k1
  have b1 := F1.binds (ps := ["self"]) fun _ _ _ _ _ _ us hl => match us, hl with | [_], _ => rfl
  have F2 := fun_mk (st := s_Mirror_page) l2 c2 k2
  have b2 := F2.binds (ps := ["self", "name"]) fun _ _ _ _ _ _ us hl => match us, hl with | [_, _], _ => rfl
  have F3 := fun_mk (st := s_Mirror_hear_page) l3 c3 k3
  have b3 := F3.binds (ps := ["self", "number", "name", "text"]) fun _ _ _ _ _ _ us hl => match us, hl with | [_, _, _, _], _ => rfl
  have F4 := fun_mk (st := s_Mirror_hear_seal) l4 c4 k4
  have b4 := F4.binds (ps := ["self", "number", "count", "time", "names", "behind"]) fun _ _ _ _ _ _ us hl => match us, hl with | [_, _, _, _, _, _], _ => rfl
  have F5 := fun_mk (st := s_Mirror_show) l5 c5 k5
  have b5 := F5.binds (ps := ["self", "number"]) fun _ _ _ _ _ _ us hl => match us, hl with | [_, _], _ => rfl
  have F6 := fun_mk (st := s_Mirror_hear) l6 c6 k6
  have b6 := F6.binds (ps := ["self", "letter"]) fun _ _ _ _ _ _ us hl => match us, hl with | [_, _], _ => rfl
  have F7 := fun_mk (st := s_law_cell) l7 c7 k7
  have b7 := F7.binds (ps := ["script", "k"]) fun _ _ _ _ _ _ us hl => match us, hl with | [_, _], _ => rfl
  have F8 := fun_mk (st := s_law_digits) l8 c8 k8
  have b8 := F8.binds (ps := ["script", "first", "last"]) fun _ _ _ _ _ _ us hl => match us, hl with | [_, _, _], _ => rfl
  have F9 := fun_mk (st := s_law_draw) l9 c9 k9
  have b9 := F9.binds (ps := ["box", "many"]) fun _ _ _ _ _ _ us hl => match us, hl with | [_, _], _ => rfl
  have F10 := fun_mk (st := s_law_name) l10 c10 k10
  have b10 := F10.binds (ps := ["box"]) fun _ _ _ _ _ _ us hl => match us, hl with | [_], _ => rfl
  have F11 := fun_mk (st := s_law_pages) l11 c11 k11
  have b11 := F11.binds (ps := ["box"]) fun _ _ _ _ _ _ us hl => match us, hl with | [_], _ => rfl
  have F12 := fun_mk (st := s_law_alike) l12 c12 k12
  have b12 := F12.binds (ps := ["one", "two"]) fun _ _ _ _ _ _ us hl => match us, hl with | [_, _], _ => rfl
  have F13 := fun_mk (st := s_law_versions) l13 c13 k13
  have b13 := F13.binds (ps := ["box"]) fun _ _ _ _ _ _ us hl => match us, hl with | [_], _ => rfl
  have F14 := fun_mk (st := s_law_letters) l14 c14 k14
  have b14 := F14.binds (ps := ["version"]) fun _ _ _ _ _ _ us hl => match us, hl with | [_], _ => rfl
  have F15 := fun_mk (st := s_law_hear) l15 c15 k15
  have b15 := F15.binds (ps := ["mirror", "letter"]) fun _ _ _ _ _ _ us hl => match us, hl with | [_, _], _ => rfl
  have F16 := fun_mk (st := s_law_unlike) l16 c16 k16
  have b16 := F16.binds (ps := ["box", "letter"]) fun _ _ _ _ _ _ us hl => match us, hl with | [_, _], _ => rfl
  have F17 := fun_mk (st := s_law_shown) l17 c17 k17
  have b17 := F17.binds (ps := ["heard", "versions"]) fun _ _ _ _ _ _ us hl => match us, hl with | [_, _], _ => rfl
  have F18 := fun_mk (st := s_law) l18 c18 k18
  refine ⟨PySem.W.fnOf "law" "law" (defArgs s_law) (defBody s_law) (defScope s_law) .none kV18 dc18 pm18 an18 cd18 ct18, fun s v => .of_eq rfl, fun base _ _ => ?_⟩
  have C_Mirror : CalK l.prog w K mg base "Mirror" CMirror 1 ["self"] (spMInit K CMirror) := ⟨PySem.W.mg_of X G qMirror0, f0, _, ⟨qMirror5, a0, i0, qMirror6⟩, ok_Mirror_init F0 z tMirror, b0⟩
  have C_Mirror_shown : CalM l.prog w K mg base CMirror "shown" 1 ["self"] (spMShown K CMirror) := ⟨tMirror.cl, f1, _, ok_Mirror_shown F1 z tMirror, b1, ⟨a1, i1, k1⟩⟩
  have C_Mirror_page : CalM l.prog w K mg base CMirror "page" 1 ["self", "name"] (spMPage K CMirror) := ⟨tMirror.cl, f2, _, ok_Mirror_page F2 z tMirror, b2, ⟨a2, i2, k2⟩⟩
  have C_Mirror_hear_page : CalMX l.prog w K mg base CMirror "_hear_page" 5 ["self", "number", "name", "text"] (spMHearP K CMirror ulC) := ⟨tMirror.cl, f3, _, ok_Mirror_hear_page F3 z tMirror ul, b3, ⟨a3, i3, k3⟩⟩
  have C_Mirror_hear_seal : CalMX l.prog w K mg base CMirror "_hear_seal" 5 ["self", "number", "count", "time", "names", "behind"] (spMHearS K CMirror ulC) := ⟨tMirror.cl, f4, _, ok_Mirror_hear_seal F4 z tMirror ul, b4, ⟨a4, i4, k4⟩⟩
  have C_Mirror_show : CalM l.prog w K mg base CMirror "_show" 1 ["self", "number"] (spMShow K CMirror) := ⟨tMirror.cl, f5, _, ok_Mirror_show F5 z tMirror, b5, ⟨a5, i5, k5⟩⟩
  have C_Mirror_hear : CalMX l.prog w K mg base CMirror "hear" 6 ["self", "letter"] (spMHear K CMirror ulC) := ⟨tMirror.cl, f6, _, ok_Mirror_hear F6 z tMirror C_Mirror_hear_page C_Mirror_hear_seal C_Mirror_show, b6, ⟨a6, i6, k6⟩⟩
  have C_law_cell : Cal l.prog w K mg base "_law_cell" 1 ["script", "k"] (spCell K) := ⟨f7, _, ok_law_cell F7 z , b7, PySem.W.mg_of X G a7, k7⟩
  have C_law_digits : Cal l.prog w K mg base "_law_digits" 2 ["script", "first", "last"] (spDigits K) := ⟨f8, _, ok_law_digits F8 z C_law_cell, b8, PySem.W.mg_of X G a8, k8⟩
  have C_law_draw : Cal l.prog w K mg base "_law_draw" 1 ["box", "many"] spDraw := ⟨f9, _, ok_law_draw F9 z , b9, PySem.W.mg_of X G a9, k9⟩
  have C_law_name : Cal l.prog w K mg base "_law_name" 2 ["box"] spName := ⟨f10, _, ok_law_name F10 z C_law_draw, b10, PySem.W.mg_of X G a10, k10⟩
  have C_law_pages : Cal l.prog w K mg base "_law_pages" 3 ["box"] spPagesL := ⟨f11, _, ok_law_pages F11 z C_law_draw C_law_name, b11, PySem.W.mg_of X G a11, k11⟩
  have C_law_alike : CalG l.prog w K mg base "_law_alike" 1 ["one", "two"] (spAlike K) := ⟨f12, _, ok_law_alike F12 z , b12, PySem.W.mg_of X G a12, k12⟩
  have C_law_versions : Cal l.prog w K mg base "_law_versions" 4 ["box"] (spVersions K) := ⟨f13, _, ok_law_versions F13 z C_law_draw C_law_pages, b13, PySem.W.mg_of X G a13, k13⟩
  have C_law_letters : Cal l.prog w K mg base "_law_letters" 1 ["version"] (spLetters K) := ⟨f14, _, ok_law_letters F14 z , b14, PySem.W.mg_of X G a14, k14⟩
  have C_law_hear : Cal l.prog w K mg base "_law_hear" 7 ["mirror", "letter"] (spLHear K CMirror ulC) := ⟨f15, _, ok_law_hear F15 z ul pg nk ulX y1 y2 y4 C_Mirror_hear, b15, PySem.W.mg_of X G a15, k15⟩
  have C_law_unlike : Cal l.prog w K mg base "_law_unlike" 2 ["box", "letter"] (spUnlike K) := ⟨f16, _, ok_law_unlike F16 z C_law_draw, b16, PySem.W.mg_of X G a16, k16⟩
  have C_law_shown : Cal l.prog w K mg base "_law_shown" 2 ["heard", "versions"] (spLShown K) := ⟨f17, _, ok_law_shown F17 z C_law_letters, b17, PySem.W.mg_of X G a17, k17⟩
  exact ok_law F18 z C_law_digits C_law_draw C_law_alike C_law_versions C_law_letters C_law_hear C_law_unlike C_law_shown C_Mirror C_Mirror_shown C_Mirror_page
end K61
open PySem PySem.W PyProof.Rows
set_option maxRecDepth 100000 in
set_option maxHeartbeats 0 in
theorem PySem.Challenge.cw_pagesatonce_k61_mirrors_show_complete_ve_holds : PySem.Challenge.rw_pagesatonce_k61_mirrors_show_complete_ve.Holds := by
  w_on; o_law; k_head; (case hw => w_witness2)
  k_fill
  refine Pg.walkG (l := PySem.Challenge.rw_pagesatonce_k61_mirrors_show_complete_ve) (n := 63) (k := 9) (x := "script") (sp := K61.spLaw) rfl (by decide) rfl ⟨rfl, by decide, by decide⟩ (fun w h Y => PySem.W.kIn_of Y) ?F (fun K H a ns hl hS => ⟨a, ns, rfl, hS, hl, fun _ => rfl⟩)
  case F =>
    intro w mg fa h KX G hmg
    refine' K61.all_mk KX G hmg ?a0 ?i0 ?l0 ?c0 ?k0 ?a1 ?i1 ?l1 ?c1 ?k1 ?a2 ?i2 ?l2 ?c2 ?k2 ?a3 ?i3 ?l3 ?c3 ?k3 ?a4 ?i4 ?l4 ?c4 ?k4 ?a5 ?i5 ?l5 ?c5 ?k5 ?a6 ?i6 ?l6 ?c6 ?k6 ?a7 ?l7 ?c7 ?k7 ?a8 ?l8 ?c8 ?k8 ?a9 ?l9 ?c9 ?k9 ?a10 ?l10 ?c10 ?k10 ?a11 ?l11 ?c11 ?k11 ?a12 ?l12 ?c12 ?k12 ?a13 ?l13 ?c13 ?k13 ?a14 ?l14 ?c14 ?k14 ?a15 ?l15 ?c15 ?k15 ?a16 ?l16 ?c16 ?k16 ?a17 ?l17 ?c17 ?k17 ?a18 ?l18 ?c18 ?k18 ?qMirror0 ?qMirror1 ?qMirror2 ?qMirror3 ?qMirror4 ?qMirror5 ?qMirror6 ?pMirror0 ?pMirror1 ?pMirror2 ?pMirror3 ?z0 ?z1 ?z2 ?z3 ?z4 ?z5 ?z6 ?z7 ?z8 ?z9 ?z10 ?z11 ?xul0 ?xul1 ?xul2 ?xul3 ?xul4 ?xpg0 ?xpg1 ?xpg2 ?xpg3 ?xpg4 ?xnk0 ?xnk1 ?xnk2 ?xnk3 ?xnk4 ?u1 ?u3 ?u4 ?u5 ?u6 ?y5 ?y6 ?y7 ?y8 ?y9 ?ya ?yb
    (case qMirror0 => k_is); (case qMirror1 => k_is); (case qMirror2 => k_is); (case qMirror3 => k_is); (case qMirror4 => k_is); (case qMirror5 => k_is)
    (case qMirror6 => k_is); (case pMirror0 => k_is); (case pMirror1 => k_is); (case pMirror2 => k_is); (case pMirror3 => k_is); (case a0 => k_is)
    (case i0 => k_is); (case l0 => k_is); (case c0 => k_is); (case k0 => k_is); (case a1 => k_is); (case i1 => k_is)
    (case l1 => k_is); (case c1 => k_is); (case k1 => k_is); (case a2 => k_is); (case i2 => k_is); (case l2 => k_is)
    (case c2 => k_is); (case k2 => k_is); (case a3 => k_is); (case i3 => k_is); (case l3 => k_is); (case c3 => k_is)
    (case k3 => k_is); (case a4 => k_is); (case i4 => k_is); (case l4 => k_is); (case c4 => k_is); (case k4 => k_is)
    (case a5 => k_is); (case i5 => k_is); (case l5 => k_is); (case c5 => k_is); (case k5 => k_is); (case a6 => k_is)
    (case i6 => k_is); (case l6 => k_is); (case c6 => k_is); (case k6 => k_is); (case a7 => k_is); (case l7 => k_is)
    (case c7 => k_is); (case k7 => k_is); (case a8 => k_is); (case l8 => k_is); (case c8 => k_is); (case k8 => k_is)
    (case a9 => k_is); (case l9 => k_is); (case c9 => k_is); (case k9 => k_is); (case a10 => k_is); (case l10 => k_is)
    (case c10 => k_is); (case k10 => k_is); (case a11 => k_is); (case l11 => k_is); (case c11 => k_is); (case k11 => k_is)
    (case a12 => k_is); (case l12 => k_is); (case c12 => k_is); (case k12 => k_is); (case a13 => k_is); (case l13 => k_is)
    (case c13 => k_is); (case k13 => k_is); (case a14 => k_is); (case l14 => k_is); (case c14 => k_is); (case k14 => k_is)
    (case a15 => k_is); (case l15 => k_is); (case c15 => k_is); (case k15 => k_is); (case a16 => k_is); (case l16 => k_is)
    (case c16 => k_is); (case k16 => k_is); (case a17 => k_is); (case l17 => k_is); (case c17 => k_is); (case k17 => k_is)
    (case a18 => k_is); (case l18 => k_is); (case c18 => k_is); (case k18 => k_is); (case z0 => k_is); (case z1 => k_is)
    (case z2 => k_is); (case z3 => k_is); (case z4 => k_is); (case z5 => k_is); (case z6 => k_is); (case z7 => k_is)
    (case z8 => k_is); (case z9 => k_is); (case z10 => k_is); (case z11 => k_is)
    (case xul0 => k_is)
    (case xul1 => first | k_exc | k_is | decide +kernel)
    (case xul2 => k_is)
    (case xul3 => k_is)
    (case xul4 => k_is)
    (case xpg0 => k_is)
    (case xpg1 => first | k_exc | k_is | decide +kernel)
    (case xpg2 => k_is)
    (case xpg3 => k_is)
    (case xpg4 => k_is)
    (case xnk0 => k_is)
    (case xnk1 => first | k_exc | k_is | decide +kernel)
    (case xnk2 => k_is)
    (case xnk3 => k_is)
    (case xnk4 => k_is)
    (case u1 => k_is)
    (case u3 => k_is)
    (case u4 => k_is)
    (case u5 => k_is)
    (case u6 => k_is)
    (case y5 => k_is)
    (case y6 => k_is)
    (case y7 => k_is)
    (case y8 => k_is)
    (case y9 => k_is)
    (case ya => k_is)
    (case yb => k_is)

