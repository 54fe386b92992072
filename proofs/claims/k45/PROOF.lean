import PyProof.Rows.All
import Wide.All
import OpenK.AllK
import Wide.FinOn
import PyProof.ReprRoads
import HandS.ForMost
import HandS.Strs
import HandS.StrMore
import HandS.TupAny
import HandS.RaiseMore
import HandS.Codes
import HandS.SetFor
import KE.KDictWalk
import PyProof.Rows.SortShellAny
import HandS.Style
import HandS.ForExc
import HandS.FStr
import HandS.ExcInit
import KE.KExcSuper
import PyProof.FString
import HandS.DictComp
import HandS.TryOnly
import HandS.Zip
import KE.KUnpackStar
import HandS.Text
import HandS.StrSplit
import HandS.Star
import HandS.Replace
import HandS.ReplaceLit
import PyProof.Rows.ReprShort
import PyProof.ReprBulk
import PyProof.Rows.RegReprOcc
import PyProof.StrLawsTight
import HandS.ReplaceList
import PySem.Challenge.RW_pagesatonce_k45_records_written_and_read
set_option Elab.async false
set_option linter.all false
set_option maxRecDepth 100000
set_option maxHeartbeats 4000000
/-! Promises of defs that are called while no repr is under way (for repr of lists and tuples). -/
namespace Pg
open PySem PySem.Spec PyProof.Rows L2

section
variable {P : Program} {w : World} {K : PySem.W.Frag} {mg : Str → Option Value} {base : Heap}

/-- the promise of a def that is only called where no repr runs -/
structure FnG (P : Program) (w : World) (K : PySem.W.Frag) (mg : Str → Option Value) (base : Heap) (k : Nat) (f : Addr) (fd : FuncData) (ps : List Str) (sp : Sp) : Prop where
  few : ∀ vs H Q E, sp vs H Q E → vs.length = ps.length
  go : ∀ (A : Around) (fr : List Env) (s : Shared) (H : Hp) (gs : Args) (us : List Value) (vs : List V) (Q : VK), A.guards = some [] → Room k A → Env0 P w K mg base A fr s H →
    BindsTo s fd gs (ps.zip us) → Vals vs us → sp vs H Q E0 → codeAny (model P w) A (.call (.ref f) gs) (CR CX0 fr P w H s Q E0) s

/-- an ordinary promise serves there too -/
theorem FnG.of {k : Nat} {f : Addr} {fd : FuncData} {ps : List Str} {sp : Sp} (F : FnOk P w K mg base CX0 k f fd ps sp) : FnG P w K mg base k f fd ps sp :=
  ⟨F.len, fun A fr s H gs us vs Q _ hr e b r h => F.run A fr s H gs us vs Q E0 hr e b r h⟩

theorem FnG.mk' {x qual : Str} {st : Stmt} {f : Addr} {fd : FuncData} {N ps : List Str} {k : Nat} {sp : Sp} (D : Fun K x qual st f fd) (S : FnScope N ps (defScope st)) (few : ∀ vs H Q E, sp vs H Q E → vs.length = ps.length)
    (body : ∀ (cd : Value) (A : Around) (fr : List Env) (s : Shared) (H : Hp) (vs : List V) (Q : VK), A.guards = some [] → Room k (A.deeper (envOfC qual (defScope st) s.heap.objs.size f cd)) → sp vs H Q E0 →
      ∃ t, PSs (cxOf CX0 P w K mg base N qual (defScope st) f cd A fr s H E0).nox (defBody st) t ∧ t { nx := fun _ H' => Q .non H', rt := Q } (start N vs) H) : FnG P w K mg base (k + 1) f fd ps sp := by
  obtain ⟨_, _, _, _, _, _, cd, _, _, rfl, at_f, rec_ok⟩ := D.ex
  constructor
  · exact few
  intro A fr s H gs us vs Q hg hr e b r h
  have inK : K.In s.heap := e.mod.kin.keeps (fun c o q => (e.bs c o q).left)
  have nl : s.heap.NoLimit := e.mod.nolimit.keeps (fun c o q => (e.bs c o q).left)
  have kinds : ∀ y ∈ ps.zip us, (defScope st).names.lookup y.1 = some .local ∨
      ((defScope st).names.lookup y.1 = some .cell ∧ ((cellsFrom (s.heap.objs.size + 1) (defScope st).names []).lookup y.1).isSome = true) := by
    intro y hy
    obtain ⟨y1, y2⟩ := y
    cases S.par y1 (List.of_mem_zip hy).left with
    | inl q => left; exact q
    | inr q => right; exact ⟨q, PySem.W.cellsFrom_some _ _ _ (Or.inl q)⟩
  apply codeAny_call_function hr.depth (inK _ _ at_f) rfl S.co S.gen rfl (PySem.W.codeRec_of inK rec_ok)
  apply b
  apply wpAny_newFunctionEnv_cells S.kind kinds
  intro env he s1 x
  subst he
  refine And.intro (nl.keeps x.toInCall.keep) (codeAny_func ?_)
  obtain ⟨t, ht, q⟩ := body cd A fr s H vs Q hg (hr.deeper _) h
  have J0 := inv_start (E := E0) (CX := CX0) S hr.hd e (few _ _ _ _ h) r x
  apply wpAny_mono (ht.nox.run [] s1 _ H _ J0 q)
  · intro fl s2 hs
    match fl, hs with
    | .ret u, hs => obtain ⟨v, _, H2, J, rv, z⟩ := hs; exact ⟨v, H2, J.os, J.bare, J.base, J.hok, rv, z⟩
    | .next, hs => obtain ⟨_, H2, J, z⟩ := hs; exact ⟨V.non, H2, J.os, J.bare, J.base, J.hok, rfl, z⟩
    | .brk, hs => obtain ⟨_, _, _, z⟩ := hs; exact z.elim
    | .cont, hs => obtain ⟨_, _, _, z⟩ := hs; exact z.elim
  · intro _ _ z
    exact z

/-- a callee by its name, with all its arguments given -/
def Cal (P : Program) (w : World) (K : PySem.W.Frag) (mg : Str → Option Value) (base : Heap) (x : Str) (k : Nat) (ps : List Str) (sp : Sp) : Prop :=
  ∃ f fd, FnOk P w K mg base CX0 k f fd ps sp ∧ Binds K fd ps [] ∧ mg x = some (.ref f) ∧ PySem.W.keepIn K (.ref f) = true
def CalG (P : Program) (w : World) (K : PySem.W.Frag) (mg : Str → Option Value) (base : Heap) (x : Str) (k : Nat) (ps : List Str) (sp : Sp) : Prop :=
  ∃ f fd, FnG P w K mg base k f fd ps sp ∧ Binds K fd ps [] ∧ mg x = some (.ref f) ∧ PySem.W.keepIn K (.ref f) = true
theorem Cal.mono {x : Str} {j k : Nat} {ps : List Str} {sp : Sp} (C : Cal P w K mg base x j ps sp) (h : j ≤ k) : Cal P w K mg base x k ps sp :=
  let ⟨f, fd, F, r⟩ := C
  ⟨f, fd, F.mono h, r⟩
end

section
variable {X : Cx} {k : Nat} {x : Str} {ps : List Str} {sp : Sp} {p pos : Pos} {e : Expr} {es : List Expr} {t : TA}

theorem pe_cal (C : Cal X.prog X.w X.K X.mg X.base x k ps sp) (hr : Room k X.A) (hg : Gl X x) (ha : PA X (e :: es) t) (hdb : (x == ("__debug__" : Str)) = false := by decide)
    (he : starEach (e :: es) X.env = (false, eval e X.env) :: starEach es X.env := by rfl) (hpl : (backTo pos (starEach es X.env)).any (·.1) = false := by rfl) :
    PE X (.Call (.Name x p) (e :: es) [] pos) (tCall sp [] E0 t) := by
  obtain ⟨_, _, F, b, g, kp⟩ := C
  exact pe_call F hr hg g kp b .nil pass0 ha hdb he hpl

theorem pe_calG (C : CalG X.prog X.w X.K X.mg X.base x k ps sp) (gd : X.A.guards = some []) (hr : Room k X.A) (hg : Gl X x) (ha : PA X (e :: es) t) (hdb : (x == ("__debug__" : Str)) = false := by decide)
    (he : starEach (e :: es) X.env = (false, eval e X.env) :: starEach es X.env := by rfl) (hpl : (backTo pos (starEach es X.env)).any (·.1) = false := by rfl) :
    PE X (.Call (.Name x p) (e :: es) [] pos) (tCall sp [] E0 t) := by
  obtain ⟨f, fd, F, b, g, kp⟩ := C
  constructor
  intro pins s σ H Q I h
  apply wpAny_Call_Name_kw (ld_glob I hg g ?_ hdb)
  apply PySem.W.callWith_K (h₀ := X.base) I.ok.mod.kin kp ?_ he hpl
  apply thn (ha.run pos pins s σ H _ I h)
  rintro us s1 ⟨vs, H1, I1, r, q⟩
  refine And.intro I1.kIn ?_
  have q' : sp (vs ++ []) H1 Q E0 := q
  rw [List.append_nil] at q'
  have n1 : us.length = ps.length := by rw [← r.length]; exact F.few _ _ _ _ q'
  have bb := b s1 us I1.kIn (by rw [List.append_nil]; exact n1)
  rw [List.append_nil] at bb
  apply wpAny_call
  apply codeAny_mono (F.go X.A X.stack s1 H1 ⟨us, []⟩ us vs Q gd hr I1.env0 bb r q')
  intro res s2 z
  match res, z with
  | .ok (.ret u), z => exact I1.after z
  | .ok .next, z => exact False.elim z
  | .ok .brk, z => exact False.elim z
  | .ok .cont, z => exact False.elim z
  | .error _, z => exact False.elim z
end

/-! ### repr of data -/
section
variable {X : Cx}
/-- repr(v): v data of any depth -/
def rRepr (K : PySem.W.Frag) : List V → Hp → VK → Prop := fun xs H Q => ∃ v d, xs = [v] ∧ Dp K H v d ∧ d.showable = true ∧ d.hasDict = false ∧ d.depth ≤ 40 ∧ d.shown.length ≤ sizeLine ∧ Q (.str d.shown) H
theorem call_reprD (gd : X.A.guards = some []) (hu : X.A.units + 64 < cLine) : CallR X (.builtin "repr") (rRepr X.K) := by
  intro pins s σ H xs us Q I r h
  obtain ⟨v, d, rfl, hd, sh, nd, dep, sz, q⟩ := h
  obtain ⟨u, rfl, ru⟩ := vals1 r
  have fin : ∀ (h' : Heap) (u : Tok) (tk : Nat), (∀ b o, s.heap.get? b = some o → h'.get? b = some o) → EP X pins σ Q (.str d.shown u) { s with heap := h', toks := tk } :=
    fun h' u tk kp => ⟨.str d.shown, H, I.kept kp, ⟨u, rfl⟩, q⟩
  obtain ⟨as, rd⟩ := Dp.reads I d v u hd ru
  cases hd with
  | lst hs ha =>
    cases ru
    exact repr_of_reads' rd sh (PyData.noDict_hsm nd) gd (by omega) (fun _ _ z => z) fin sz
  | tup hs ha =>
    cases ru
    exact repr_of_reads' rd sh (PyData.noDict_hsm nd) gd (by omega) (fun _ _ z => z) fin sz
  | non =>
    cases ru
    exact PySem.P.repr_of_none (fin _ _ _ fun _ _ z => z)
  | bl b =>
    cases ru
    exact PySem.P.repr_of_bool (by simpa only [PyData.shown] using fin s.heap _ (s.toks + 1) fun _ _ z => z)
  | int i =>
    obtain ⟨t, rfl⟩ := ru
    exact PySem.P.repr_of_int (by simpa [PyData.showable] using sh) (by simpa only [PyData.shown] using fin s.heap _ (s.toks + 1) fun _ _ z => z)
  | str z =>
    obtain ⟨t, rfl⟩ := ru
    exact PySem.P.repr_of_str (by simpa only [PyData.shown] using fin s.heap _ (s.toks + 1) fun _ _ z => z) (by simpa only [PyData.shown] using sz)
end

/-! ### the law's own entry -/
section
variable {P : Program} {w : World} {K : PySem.W.Frag} {mg mb : Str → Option Value}
/-- the state in which the law is entered: at most the script is tracked -/
structure Entry (P : Program) (w : World) (K : PySem.W.Frag) (H : Hp) (h : Heap) (a : Addr) (ns : List Int) : Prop where
  only : Only H
  seq : SqL K H a (ns.map V.int)
  held : HOk P w H h
  nope : ∀ b, b ≠ a → H b = none
  off : H a = none ∨ K.lookup a = none
theorem Entry.there {s : Shared} {a : Addr} {vs : List Value} {ns : List Int} (hk : K.In s.heap) (at_a : s.heap.get? a = some { cls := .type "list", data := .seq vs.toArray }) (hi : IntsAre vs ns) (few : ns.length ≤ sizeLine) :
    ∃ H, Entry P w K H s.heap a ns := by
  have rel := vals_ints hi
  by_cases e : ∃ o, K.lookup a = some o
  · obtain ⟨o, e⟩ := e
    obtain rfl : o = { cls := .type "list", data := .seq vs.toArray } := Option.some.inj ((hk a o e).symm.trans at_a)
    have nl : ∀ b u, (fun _ => none : Hp) b = some u → False := fun b u q => by cases q
    exact ⟨fun _ => none, fun _ => Or.inl rfl, Or.inr ⟨_, vs.toArray, _, e, rfl, rfl, rfl, by rw [List.size_toArray, hi.length]; exact few, by simpa using rel⟩, fun b u q => (nl b u q).elim, fun _ _ => rfl, Or.inl rfl⟩
  · have e' : K.lookup a = none := by
      cases q : K.lookup a with
      | none => rfl
      | some o => exact absurd ⟨o, q⟩ e
    refine ⟨fun b => if b = a then some (.frz { cls := .type "list", data := .seq vs.toArray } (.lst (ns.map V.int))) else none, ?_, Or.inl (Or.inr ⟨_, if_pos rfl⟩), ?_, fun b hb => if_neg hb, Or.inr e'⟩
    · intro b
      by_cases hb : b = a
      · right; exact ⟨_, _, if_pos hb⟩
      · left; exact if_neg hb
    · intro b u q
      by_cases hb : b = a
      · subst hb
        simp only [if_pos] at q
        cases q
        exact ⟨at_a, by rw [List.length_map]; exact few, vs, _, rel, at_a⟩
      · simp [hb] at q
theorem enter_law {k : Nat} {fa a : Addr} {fd : FuncData} {x : Str} {sp : Sp} {s : Shared} {vs : List Value} {ns : List Int}
    (hk : K.In s.heap) (hn : s.heap.Ns mainGlobals mg) (hb : s.heap.Ns builtinsNs mb) (hbb : ∀ x : Str, x ≠ "__name__" → mb x = bootBuiltins x) (nl : s.heap.NoLimit) (hg : s.gens = #[])
    (at_a : s.heap.get? a = some { cls := .type "list", data := .seq vs.toArray }) (hi : IntsAre vs ns) (few : ns.length ≤ sizeLine) (hr : Room k callerA)
    (F : ∀ base : Heap, K.In base → base.Ns mainGlobals mg → FnG P w K mg base k fa fd [x] sp) (hbind : ∀ (s : Shared) (u : Value), BindsTo s fd ⟨[u], []⟩ [(x, u)])
    (hsp : ∀ H : Hp, Only H → SqL K H a (ns.map V.int) → sp [.ref a] H (fun v _ => v = .bl true) E0) :
    codeAny (model P w) callerA (.call (.ref fa) ⟨[.ref a], []⟩) (fun r s' => r = .ok (.ret (.bool true)) ∧ OldK s.heap s'.heap ∧ s'.os = s.os ∧ AllBare s'.gens) s := by
  obtain ⟨H, En⟩ := Entry.there (P := P) (w := w) hk at_a hi few
  have out : ∀ {b : Addr} {o : Obj}, s.heap.get? b = some o → b ≠ a → (hidT s.heap H).get? b = some o := fun q hne => hidT_get q (En.nope _ hne)
  have dicts : ∀ {b : Addr} {m : Str → Option Value}, s.heap.Ns b m → (hidT s.heap H).Ns b m := by
    rintro b m ⟨o, es, ep, q, d, r⟩
    refine ⟨o, es, ep, out q ?_, d, r⟩
    rintro rfl
    rw [at_a] at q
    cases q
    cases d
  have inK : K.In (hidT s.heap H) := by
    intro b o q
    by_cases hba : b = a
    · subst hba
      rcases En.off with z | z
      · exact hidT_get (hk _ _ q) z
      · rw [z] at q; cases q
    · exact out (hk _ _ q) hba
  have modl : Mod K mg (hidT s.heap H) := {
    kin := inK
    glob := dicts hn
    blt := ⟨mb, dicts hb, hbb⟩
    nolimit := by obtain ⟨mc, z1, z2⟩ := nl; exact ⟨mc, dicts z1, z2⟩ }
  have none_in : ∀ b, b ∈ frs ([] : List Env) → False := fun b z => by
    have z' : b ∈ ([] : List Addr) := z
    cases z'
  have e0 : Env0 P w K mg (hidT s.heap H) callerA [] s H := {
    frames := rfl
    mod := modl
    bs := fun b o q => of_hidT q
    bsz := Nat.le_of_eq (hidT_size _ _)
    funs := trivial
    frf := fun b z => (none_in b z).elim
    hok := En.held
    bare := .of_eq hg }
  apply codeAny_mono ((F _ inK (dicts hn)).go callerA [] s H ⟨[.ref a], []⟩ [.ref a] [.ref a] _ rfl hr e0 (hbind s (.ref a)) (.cons rfl .nil) (hsp H En.only En.seq))
  intro r s' z
  match r, z with
  | .error _, z => exact False.elim z
  | .ok .next, z => exact False.elim z
  | .ok .brk, z => exact False.elim z
  | .ok .cont, z => exact False.elim z
  | .ok (.ret u), z =>
    obtain ⟨v, H', os, bare, un, held, rv, rfl⟩ := z
    cases rv
    refine ⟨rfl, OldK.of_keep ?_, os, bare⟩
    intro b o q
    rcases En.only b with y | ⟨ob, xs, y⟩
    · exact un.keep b o q y (none_in b) (by intro y2; cases y2)
    · have y1 := (En.held b _ y).left
      have y2 := (held b _ (un.frzs b ob _ y)).left
      rw [y1] at q
      cases q
      exact y2
end

/-- the goal that k_head leaves, from the law's promise -/
theorem walkG {l : PySem.W.OpenLaw} {n k : Nat} {q : Program} {loose : List Str} {XP : (Str → Option Value) → Heap → Prop} {YP : World → Heap → Prop} {d : DefRec} {K : Params → PySem.W.Frag} {sp : PySem.W.Frag → Sp} {x : Str}
    (hn : l.most = some n) (few : n ≤ sizeLine) (hdf : d.params.defaults = []) (hr : Room k callerA) (hY : ∀ (w : World) (h : Heap), YP w h → (K w.params).In h)
    (F : ∀ (w : World) (mg : Str → Option Value) (fa : Addr) (h : Heap), (K w.params).In h → h.Ns mainGlobals mg → mg d.name = some (.ref fa) →
      ∃ fd : FuncData, (∀ (s : Shared) (u : Value), BindsTo s fd ⟨[u], []⟩ [(x, u)]) ∧ ∀ base : Heap, (K w.params).In base → base.Ns mainGlobals mg → FnG l.prog w (K w.params) mg base k fa fd [x] (sp (K w.params)))
    (hsp : ∀ (K : PySem.W.Frag) (H : Hp) (a : Addr) (ns : List Int), ns.length ≤ n → SqL K H a (ns.map V.int) → sp K [.ref a] H (fun v _ => v = .bl true) E0) :
    PySem.W.WalkO q loose XP YP l.row.toRowW d [] (fun f vs => PySem.call f vs) := by
  apply Att.attach_call hn hdf
  intro w s0 s1 mg mb fa o pm cd doc a vs ns G Y ho hd hcd hmg hobj hints hlen hg
  obtain ⟨fd, hb, hF⟩ := F w mg fa _ (hY w _ Y) G.T.g hmg
  exact enter_law (hY w _ Y) G.T.g G.T.b G.T.builtins G.T.nolimit hg hobj hints (Nat.le_trans hlen few) hr hF hb (fun H _ hS => hsp _ H a ns hlen hS)
end Pg

/-! len(set(names)) for texts, a text times a number. -/
namespace Pg
open PySem PySem.Spec PyProof.Rows L2

/-- how many different texts there are: each counted where it stands first -/
def cntS : List Str → Nat
  | [] => 0
  | x :: r => (if x ∈ r then 0 else 1) + cntS r
theorem cntS_le : ∀ l : List Str, cntS l ≤ l.length
  | [] => Nat.le_refl 0
  | x :: r => by
    have h := cntS_le r
    show (if x ∈ r then 0 else 1) + cntS r ≤ r.length + 1
    split <;> omega
theorem cntS_full : ∀ l : List Str, cntS l = l.length ↔ l.Nodup
  | [] => by simp [cntS]
  | x :: r => by
    have h := cntS_full r
    have h1 := cntS_le r
    rw [List.nodup_cons, ← h]
    show (if x ∈ r then 0 else 1) + cntS r = r.length + 1 ↔ _
    split
    · rename_i m
      constructor
      · intro z; omega
      · intro z; exact absurd m z.1
    · rename_i m
      constructor
      · intro z; exact ⟨m, by omega⟩
      · intro z; omega
theorem cntS_snoc : ∀ (l : List Str) (x : Str), cntS (l ++ [x]) = if x ∈ l then cntS l else cntS l + 1
  | [], x => by simp [cntS]
  | y :: r, x => by
    have ih := cntS_snoc r x
    show (if y ∈ r ++ [x] then 0 else 1) + cntS (r ++ [x]) = if x ∈ y :: r then (if y ∈ r then 0 else 1) + cntS r else (if y ∈ r then 0 else 1) + cntS r + 1
    rw [ih]
    by_cases e : x = y
    · subst e
      by_cases m : x ∈ r <;> simp [m] <;> omega
    · have e' : ¬ y = x := fun z => e z.symm
      by_cases m : x ∈ r <;> by_cases m2 : y ∈ r <;> simp [m, m2, e, e'] <;> omega

section
variable {prog : Program} {w : World} {A : Around} {R : Result → Shared → Prop}
theorem setOf_moved {h h' : Heap} {S : Addr} {g : Str → Bool} {c : Nat} (z : h.SetOf (PySem.strKind prog w) S g c) (kp : ∀ o, h.get? S = some o → h'.get? S = some o) : h'.SetOf (PySem.strKind prog w) S g c := by
  obtain ⟨o, es, ep, tb, ho, more⟩ := z
  exact ⟨o, es, ep, tb, kp o ho, more⟩
/-- the loop of set.update over texts -/
theorem set_texts_loop {I : Addr} {fp wr : List Addr} {G : Array GenState → Array GenState → Prop} {n : Nat} {Pv : Nat → Value → Prop} {St : Nat → Shared → Prop}
    (W : WalksS prog w A.in1 I fp wr G n Pv St) (S : Addr) (off : S ∉ fp) (xs : List Str) (hn : n = xs.length) (room : xs.length + 1 < scanBound)
    (vals : ∀ i v, Pv i v → ∃ x t, xs[i]? = some x ∧ v = .str x t) :
    ∀ (left i : Nat) (s : Shared), i + left = n → St i s → s.heap.SetOf (PySem.strKind prog w) S (fun x => decide (x ∈ xs.take i)) (cntS (xs.take i)) →
      (∀ s', Moved (S :: wr) G s s' → s'.heap.SetOf (PySem.strKind prog w) S (fun x => decide (x ∈ xs)) (cntS xs) → R (.ok (.ret .none)) s') →
      codeAny (model prog w) A (.builtin "set.update.loop" ⟨[.ref S, .ref I], []⟩) R s := by
  have offw : S ∉ wr := fun z => off (W.sub _ z)
  have sub : ∀ b ∈ wr, b ∈ S :: wr := fun b z => List.mem_cons_of_mem _ z
  intro left
  induction left with
  | zero =>
    intro i s e st set fin
    obtain rfl : i = n := by omega
    apply codeAny_builtin PyProof.Rows.F.entry_set_update_loop
    rw [Around.under_plainId PyProof.Rows.F.plain_set_update_loop _]
    show wpAny _ A.in1 (pyNext (.ref I) >>= _) _ _ s
    apply wpAny_bind
    apply W.done s _ _ st
    intro s' mv
    have all : xs.take i = xs := List.take_of_length_le (by omega)
    rw [all] at set
    show wpAny _ A.in1 (ret Value.none) _ _ s'
    exact wpAny_pure (fin s' (mv.mono sub) (setOf_moved set fun o q => mv.heap S o offw q))
  | succ left ih =>
    intro i s e st set fin
    have lt : i < n := by omega
    apply codeAny_builtin PyProof.Rows.F.entry_set_update_loop
    rw [Around.under_plainId PyProof.Rows.F.plain_set_update_loop _]
    show wpAny _ A.in1 (pyNext (.ref I) >>= _) _ _ s
    apply wpAny_bind
    apply W.item i s _ _ lt st
    intro v s' pv' st' mv
    obtain ⟨x, t, hx, rfl⟩ := vals i v pv'
    have set' := setOf_moved set fun o q => mv.heap S o offw q
    show wpAny _ A.in1 (holding [Value.str x t] (setAdd S (.str x t)) >>= _) _ _ s'
    apply wpAny_bind
    apply wpAny_holding
    unfold setAdd
    apply wpAny_holding
    apply wpAny_bind
    apply (PySem.strKind prog w).pyHash (k := x) (strKind_is _ _ _ _)
    have cle := cntS_le (xs.take i)
    rw [List.length_take] at cle
    apply wpAny_setAddHashed_of (knd := PySem.strKind prog w) (s := { s' with toks := s'.toks + 1 }) (strKind_is _ _ _ _) rfl set' (by omega)
    intro h' but set2
    have nx : xs.take (i + 1) = xs.take i ++ [x] := by
      rw [List.take_add_one, hx]
      rfl
    have set3 : h'.SetOf (PySem.strKind prog w) S (fun y => decide (y ∈ xs.take (i + 1))) (cntS (xs.take (i + 1))) := by
      refine PyProof.Rows.SetOf_congr set2 (fun y => ?_) ?_
      · rw [nx]
        simp [List.mem_append]
      · rw [nx, cntS_snoc]
        by_cases m : x ∈ xs.take i <;> simp [m]
    apply wpAny_pure
    refine ⟨plainId_quiet PyProof.Rows.F.plain_set_update_loop _, ih (i + 1) _ (by omega) ?_ set3 ?_⟩
    · apply W.frame _ s' _ _ st' (Nat.le_succ _)
      intro b hb o q
      have : b ≠ S := fun z => off (z ▸ hb)
      rw [but.2 b this]
      exact q
    · intro s2 mv2 z
      apply fin s2 _ z
      apply Moved.trans W.gtrans _ mv2
      apply (mv.mono sub).then_heap (Nat.le_succ _)
      intro b o hb q
      have : b ≠ S := fun z => hb (z ▸ List.mem_cons_self)
      rw [but.2 b this]
      exact q
end

set_option maxHeartbeats 8000000 in
/-- set(t), t a tuple of texts -/
theorem set_of_texts {prog : Program} {w : World} {A : Around} {E : Value → Shared → Prop} {s : Shared} {l : Addr} {items : Array Value} {xs : List Str} {Q : Value → Shared → Prop}
    (hot : A.handled = none) (tup : s.heap.IsTuple l items) (are : StrsAre items.toList xs) (room : xs.length + 1 < scanBound)
    (k : ∀ (h' : Heap) (tk : Nat), h'.SetOf (PySem.strKind prog w) s.heap.objs.size (fun x => decide (x ∈ xs)) (cntS xs) → (∀ b o, s.heap.get? b = some o → h'.get? b = some o) →
      Q (.ref s.heap.objs.size) { s with heap := h', toks := tk }) : wpAny (model prog w) A (call (.type "set") [.ref l]) Q E s := by
  have size : items.size = xs.length := by
    have z := StrsAre.len_eq are
    rw [Array.length_toList] at z
    exact z.symm ▸ rfl
  obtain ⟨_, _, mro⟩ := PySem.F.called_set.mro
  have made := PySem.F.called_set.made
  have sub := PySem.F.called_set.sub
  apply wpAny_call
  apply codeAny_of_tree
  show wpAny _ _ (callAny (.type "set") _) _ _ _
  apply wpAny_pure
  refine And.intro (Code.quiet_builtin _ (by decide +kernel)) ?_
  apply codeAny_builtin PySem.F.entry_type_call
  rw [Around.under_plain (weight_type_call_type "set" [.ref l] []) rfl]
  have t1 := PySem.F.called_set.notType
  have t2 := PySem.F.called_set.canCreate
  have t3 := PySem.F.typeCall_set_1 (.ref l)
  repeat (any_goals (first | assumption | wp_step))
  apply codeAny_mono (code_set_new_1 (.ref l) (E := E) (Q₁ := fun obj s1 => ∃ led : Bool, obj = .ref s.heap.objs.size ∧ s1 = { s with heap := s.heap.push { cls := .type "set", dict := none, data := .set #[] 0 (.fresh 0 0 led) } }) fun led => ⟨led, rfl, rfl⟩)
  intro r s1 hr
  match r, hr with
  | .error _, hr => exact hr
  | .ok .next, hr => exact hr.elim
  | .ok .brk, hr => exact hr.elim
  | .ok .cont, hr => exact hr.elim
  | .ok (.ret obj), hr =>
    obtain ⟨led, rfl, rfl⟩ := hr
    let so : Obj := { cls := .type "set", dict := none, data := .set #[] 0 (.fresh 0 0 led) }
    have here : (s.heap.push so).get? s.heap.objs.size = some so := Heap.get?_push_size _ rfl
    have typ : Shared.TypeIs { s with heap := s.heap.push so } (.ref s.heap.objs.size) "set" := ⟨_, here, rfl⟩
    have i1 := PySem.F.called_set.init.lookup
    have i2 := PySem.F.called_set.init.bind (.ref s.heap.objs.size)
    repeat (any_goals (first | assumption | wp_step))
    apply codeAny_mono (codeAny_call_builtin (R := wants (fun r s2 => r = .none ∧ ∃ h' tk, s2 = { s with heap := h', toks := tk } ∧
      h'.SetOf (PySem.strKind prog w) s.heap.objs.size (fun x => decide (x ∈ xs)) (cntS xs) ∧ (∀ b o, s.heap.get? b = some o → h'.get? b = some o)) E)
      PySem.F.called_set.init.plain PySem.F.entry_set_init (check_set_init_1 typ ?_))
    · intro r2 s2 hr2
      match r2, hr2 with
      | .error _, hr2 => exact hr2
      | .ok .next, hr2 => exact hr2.elim
      | .ok .brk, hr2 => exact hr2.elim
      | .ok .cont, hr2 => exact hr2.elim
      | .ok (.ret v2), hr2 =>
        obtain ⟨rfl, h', tk, rfl, set, kp⟩ := hr2
        repeat (any_goals (first | assumption | wp_step))
        exact k _ _ set kp
    · obtain ⟨⟨oc, od, oda, osl⟩, at_l, cl, nl, dl⟩ := tup
      simp only at cl dl
      subst cl
      subst dl
      have at_l2 : (s.heap.push so).get? l = some { cls := .type "tuple", dict := od, data := .seq items nl, slots := osl } := Heap.get?_push_of_some _ at_l
      have s1 := PySem.F.sub_tuple_set
      have s2 := PySem.F.sub_tuple_frozenset
      have ne : (Value.type "tuple" == Value.type "dict") = false := by decide
      have tup2 : (s.heap.push so).IsTuple l items := ⟨_, at_l2, rfl, nl, rfl⟩
      unfold Builtin.«set.__init__» noKeywords Builtin.Frozenset.updateFrom
      generalize hPI : pyIter = PI
      wp_walk
      subst hPI
      apply wpAny_pyIter_tuple tup2
      apply wpAny_bind
      apply wpAny_runValue
      have lt : l < s.heap.objs.size := Heap.lt_size at_l
      have sz : (s.heap.push so).objs.size = s.heap.objs.size + 1 := Heap.size_push ..
      have ne1 : l ≠ (s.heap.push so).objs.size := by rw [sz]; exact Nat.ne_of_lt (Nat.lt_succ_of_lt lt)
      have off : s.heap.objs.size ∉ [(s.heap.push so).objs.size, l] := by
        rw [sz]
        intro z
        rcases List.mem_cons.mp z with z | z
        · exact Nat.ne_of_lt (Nat.lt_succ_self _) z
        · rcases List.mem_cons.mp z with z | z
          · exact Nat.ne_of_gt lt z
          · cases z
      have hot3 : A.in1.in1.in1.handled = none := by simp [hot]
      apply set_texts_loop ((Walks.tuple hot3 _ l ne1 items).toS) s.heap.objs.size off xs size room ?vals items.size 0 _ (by omega) ⟨⟨_, Heap.get?_push_size _ rfl, rfl, rfl⟩, (tup2.push _)⟩ ?s0 ?fin
      case vals =>
        intro i v hv
        have hi : i < xs.length := by rw [← size]; exact (Array.getElem?_eq_some_iff.mp hv).1
        obtain ⟨t, e⟩ := SS.strs_at are i v (by rw [Array.getElem?_toList]; exact hv)
        refine ⟨xs[i], t, List.getElem?_eq_getElem hi, ?_⟩
        rw [e, List.getD_eq_getElem?_getD, List.getElem?_eq_getElem hi]
        rfl
      case s0 =>
        have here2 : ((s.heap.push so).push { cls := .type "tuple_iterator", data := .fields #[.ref l, .int 0 0] }).get? s.heap.objs.size = some so := Heap.get?_push_of_some _ here
        exact PyProof.Rows.SetOf_congr ((PyProof.Rows.setObjOf_fresh (knd := PySem.strKind prog w) led).setOf here2 (by unfold scanBound; omega)) (fun _ => rfl) rfl
      case fin =>
        intro s' mv set
        obtain ⟨h', g', d', tk', os'⟩ := s'
        obtain rfl : g' = s.gens := mv.gens
        obtain rfl : d' = s.drawn := mv.drawn
        obtain rfl : os' = s.os := mv.os
        show wpAny _ _ _ _ _ _
        apply wpAny_pure
        show wpAny _ _ (ret Value.none) _ _ _
        apply wpAny_pure
        refine ⟨rfl, h', tk', rfl, set, ?_⟩
        intro b o q
        have lb : b < s.heap.objs.size := Heap.lt_size q
        apply mv.heap b o _ (Heap.get?_push_of_some _ (Heap.get?_push_of_some _ q))
        intro z
        rcases List.mem_cons.mp z with z | z
        · exact Nat.ne_of_lt lb z
        · rcases List.mem_cons.mp z with z | z
          · rw [sz] at z
            exact Nat.ne_of_lt (Nat.lt_succ_of_lt lb) z
          · cases z

/-- len(set(t)), t a tuple of texts -/
def tCountT (K : PySem.W.Frag) (ta : TE) : TE := fun σ H Q => ta σ H fun x H1 => ∃ (l : Addr) (xs : List Str), x = .ref l ∧ SqT K H1 l (xs.map V.str) ∧ xs.length ≤ 1000 ∧ Q (.int (cntS xs : Nat)) H1
theorem pe_countT {X : Cx} {a : Expr} {ta : TE} {p p2 q pos : Pos} (hc : X.calm = true) (hg : Gl X "len") (hm : X.mg "len" = none) (hg2 : Gl X "set") (hm2 : X.mg "set" = none) (ha : PE X a ta)
    (na : starEach [a] X.env = (false, eval a X.env) :: starEach [] X.env := by rfl) : PE X (.Call (.Name "len" p) [.Call (.Name "set" p2) [a] [] q] [] pos) (tCountT X.K ta) := by
  constructor
  intro pins s σ H Q I h
  apply Call_ (ld_blt I hg hm boot_len ?_)
  apply PyProof.Rows.callWith_builtin1 (PyProof.Rows.args_cons ?_ rfl) rfl rfl
  apply Call_ (ld_blt I hg2 hm2 boot_set ?_)
  apply PyProof.Rows.callWith_type1 (PyProof.Rows.args_cons (thn (ha.run pins s σ H _ I h) ?_) na) na rfl
  rintro v s1 ⟨x, H1, I1, r1, l, xs, rfl, ht, few, z⟩
  apply PyProof.Rows.args_nil
  cases r1
  obtain ⟨its, r, tp, _⟩ := I1.tuple ht
  apply set_of_texts (I1.ok.hd hc) tp (by simpa using strsAre_of r) (by unfold scanBound; omega)
  intro h' tk set kp
  apply PyProof.Rows.args_nil
  obtain ⟨o, es, ep, tb, ho, ex, od, _, _, _, fl, nn⟩ := set
  have I2 : Inv X pins σ H1 { s1 with heap := h', toks := tk } := I1.kept kp
  have le := cntS_le xs
  apply call_len_set ho ex od fl (by rw [nn]; omega)
  exact ⟨.int (cntS xs : Nat), H1, I2.tok _, ⟨_, by rw [nn]⟩, z⟩
end Pg

/-! Loops over texts, products of texts, what the laws' helpers promise. -/
namespace Pg
open PySem PySem.Spec PyProof.Rows L2

/-! ### loops and comprehensions over a text -/
theorem for_str {z : Str} {g : TG} {tb : TS} {D : Ends} {σ : L2.St} {H : Hp} (Pv : Nat → L2.St → Hp → Prop) (h0 : Pv 0 σ H)
    (hs : ∀ i c σ H, z.cps.toList[i]? = some c → Pv i σ H → g (.str ⟨#[c]⟩) σ H fun σ2 H2 => tb { D with nx := Pv (i + 1), ct := Pv (i + 1), bk := D.nx } σ2 H2) (hd : ∀ σ H, Pv z.length σ H → D.nx σ H) :
    ∃ W : Nat → Nat → L2.St → Hp → Prop, (∃ m, W 0 m σ H) ∧ ∀ i m σ H, W i m σ H →
      ((Its z).stop i H ∧ D.nx σ H) ∨ ((Its z).go i H ∧ ∃ N : L2.St → Hp → Prop, (∀ σ' H', N σ' H' → ∃ m', m' < m ∧ W (i + 1) m' σ' H') ∧ ∀ x H', (Its z).yld i H x H' → g x σ H' fun σ2 H2 => tb { D with nx := N, ct := N, bk := D.nx } σ2 H2) := by
  refine ⟨fun i m σ H => i + m = z.length ∧ Pv i σ H, ⟨z.length, by omega, h0⟩, ?_⟩
  rintro i m σ H ⟨e, p⟩
  by_cases lt : i < z.length
  · refine Or.inr ⟨lt, Pv (i + 1), fun σ' H' q => ⟨m - 1, by omega, by omega, q⟩, ?_⟩
    rintro x H' ⟨rfl, c, hc, rfl⟩
    exact hs i c σ _ (by rw [Array.getElem?_toList]; exact hc) p
  · obtain rfl : i = z.length := by omega
    exact Or.inl ⟨Nat.le_refl _, hd σ H p⟩
theorem lc_str {z : Str} {g : TG} {tt : TT} {te : TE} {vs : List Nat} {σ : L2.St} {H1 : Hp} {D : Addr} {Qd : Hp → Prop} (Pv : Nat → Hp → Prop) (h0 : Pv 0 (upd H1 D (.lst [])))
    (hs : ∀ i c H, z.cps.toList[i]? = some c → Pv i H → g (.str ⟨#[c]⟩) (wipe σ vs) H fun σ2 H2 => wipe σ2 vs = wipe σ vs ∧ tt σ2 H2 fun b H3 =>
      if b = true then te σ2 H3 fun y H4 => ∃ acc, H4 D = some (.lst acc) ∧ acc.length < sizeLine ∧ Pv (i + 1) (upd H4 D (.lst (acc ++ [y]))) else Pv (i + 1) H3) (hd : ∀ H, Pv z.length H → Qd H) :
    ∃ W : Nat → Nat → Hp → Prop, (∃ m, W 0 m (upd H1 D (.lst []))) ∧ ∀ i m H, W i m H →
      ((Its z).stop i H ∧ Qd H) ∨ ((Its z).go i H ∧ ∃ Nx : Hp → Prop, (∀ H', Nx H' → ∃ m', m' < m ∧ W (i + 1) m' H') ∧ ∀ x H', (Its z).yld i H x H' → g x (wipe σ vs) H' fun σ2 H2 => wipe σ2 vs = wipe σ vs ∧ tt σ2 H2 fun b H3 =>
        if b = true then te σ2 H3 fun y H4 => ∃ acc, H4 D = some (.lst acc) ∧ acc.length < sizeLine ∧ Nx (upd H4 D (.lst (acc ++ [y]))) else Nx H3) := by
  refine ⟨fun i m H => i + m = z.length ∧ Pv i H, ⟨z.length, by omega, h0⟩, ?_⟩
  rintro i m H ⟨e, p⟩
  by_cases lt : i < z.length
  · refine Or.inr ⟨lt, Pv (i + 1), fun H' q => ⟨m - 1, by omega, by omega, q⟩, ?_⟩
    rintro x H' ⟨rfl, c, hc, rfl⟩
    exact hs i c _ (by rw [Array.getElem?_toList]; exact hc) p
  · obtain rfl : i = z.length := by omega
    exact Or.inl ⟨Nat.le_refl _, hd H p⟩

/-! ### a module's number -/
theorem pe_cI {X : Cx} {x : Str} {i : Int} {pos : Pos} (hg : Gl X x) (hm : ∃ t, X.mg x = some (.int i t)) (hd : (x == ("__debug__" : Str)) = false := by decide) : PE X (.Name x pos) (tC (.int i)) := by
  obtain ⟨t, e⟩ := hm
  exact pe_glob hg e ⟨t, rfl⟩ hd

/-! ### a text times a number -/
def repS (z : Str) (n : Nat) : Str := ⟨((List.replicate n z.cps.toList).flatten).toArray⟩
theorem foldl_app : ∀ (l : List (Array Nat)) (a : Array Nat), (l.foldl (· ++ ·) a).toList = a.toList ++ (l.map Array.toList).flatten
  | [], a => by simp
  | x :: r, a => by
    rw [List.foldl_cons, foldl_app r (a ++ x)]
    simp
theorem op_mulS {X : Cx} : OpR X (binaryOp .Mult) (fun x y H Q => ∃ (z : Str) (n : Nat), x = .str z ∧ y = .int n ∧ n ≤ 1000 ∧ z.length ≤ 1000 ∧ Q (.str (repS z n)) H) := by
  intro pins s σ H x y v u Q I rx ry h
  obtain ⟨z, n, rfl, rfl, n1, z1, q⟩ := h
  obtain ⟨t, rfl⟩ := rx
  obtain ⟨t', rfl⟩ := ry
  have fin : ∀ (g : Str) (u : Tok) (k : Nat), g = repS z n → EP X pins σ Q (.str g u) { s with toks := k } := by
    rintro g u k rfl
    exact ⟨.str (repS z n), H, I.tok _, ⟨u, rfl⟩, q⟩
  have big : (z.length : Int) ≤ 1000 := by omega
  have lenz : z.length = z.cps.toList.length := by simp [Str.length]
  apply PySem.P.mul_str
  · have h1 : ¬ ((n : Int) < -(2 ^ 63 : Int)) := by omega
    have h2 : ¬ ((n : Int) ≥ 2 ^ 63) := by omega
    rw [decide_eq_false h1, decide_eq_false h2]
    rfl
  · intro n0 _
    have pos : (0 : Int) < n := by omega
    have : (1000 : Int) ≤ (2 ^ 63 - 1) / n := (Int.le_ediv_iff_mul_le pos).mpr (by have : (n : Int) ≤ 1000 := by omega
                                                                                   omega)
    omega
  · intro n0 _
    have h2 : z.length * n ≤ 1000 * 1000 := Nat.mul_le_mul z1 n1
    have hl : sizeLine = 16777216 := sizeLine_eq
    show decide (z.length * ((n : Int)).toNat > sizeLine) = false
    rw [Int.toNat_natCast, hl]
    exact decide_eq_false (by omega)
  · by_cases h0 : (n : Int) < 1
    · rw [if_pos h0]
      have e : n = 0 := by omega
      subst e
      exact ⟨by decide, fin _ _ _ (Str.ext' (by simp [repS, Str.empty]))⟩
    · rw [if_neg h0]
      by_cases h1 : ((n : Int) == 1 || z.length == 0) = true
      · rw [if_pos h1]
        rcases Bool.or_eq_true_iff.mp h1 with e | e
        · have e1 : n = 1 := by have := eq_of_beq e; omega
          subst e1
          refine fin z t s.toks (Str.ext' ?_)
          simp [repS]
        · have e1 : z.cps.toList = [] := List.eq_nil_of_length_eq_zero (by rw [← lenz]; exact eq_of_beq e)
          refine fin z t s.toks (Str.ext' ?_)
          apply Array.toList_inj.mp
          rw [e1]
          simp [repS, e1]
      · rw [if_neg h1]
        have eq : (⟨(List.replicate ((n : Int)).toNat z.cps).foldl (· ++ ·) #[]⟩ : Str) = repS z n := by
          apply Str.ext'
          apply Array.toList_inj.mp
          rw [foldl_app, Int.toNat_natCast]
          simp [repS]
        rw [eq]
        refine ⟨?_, fin _ _ _ rfl⟩
        have hl : sizeLine = 16777216 := sizeLine_eq
        have : (repS z n).length = n * z.length := by simp [repS, Str.length]
        rw [this, hl]
        have h2 : n * z.length ≤ 1000 * 1000 := Nat.mul_le_mul n1 z1
        omega
end Pg
namespace Pg
open PySem PySem.Spec PyProof.Rows L2
/-- within a comprehension: the written part is the def's own -/
theorem ix_listK {X : Cx} {K : PySem.W.Frag} (h : X.K = K) : IxR X (rIxL K) := h ▸ ix_list
theorem ix_tupK {X : Cx} {K : PySem.W.Frag} (h : X.K = K) : IxR X (rIxT K) := h ▸ ix_tup
end Pg

/-! A walk over the items of a written dict of the module. -/
namespace Pg
open PySem PySem.Spec PyProof.Rows L2

/-- the entries of a written dict, as values -/
def Entries (es : Array DictEntry) (kvs : List (V × V)) : Prop := kvs.length = es.size ∧ ∀ (i : Nat) (hi : i < es.size), ∃ k v, kvs[i]? = some (k, v) ∧ RelV k es[i].key ∧ RelV v es[i].val
theorem entries3 {e0 e1 e2 : DictEntry} {k0 v0 k1 v1 k2 v2 : V} (a0 : RelV k0 e0.key) (b0 : RelV v0 e0.val) (a1 : RelV k1 e1.key) (b1 : RelV v1 e1.val) (a2 : RelV k2 e2.key) (b2 : RelV v2 e2.val) :
    Entries #[e0, e1, e2] [(k0, v0), (k1, v1), (k2, v2)] :=
  ⟨rfl, fun i hi => match i, hi with
    | 0, _ => ⟨_, _, rfl, a0, b0⟩
    | 1, _ => ⟨_, _, rfl, a1, b1⟩
    | 2, _ => ⟨_, _, rfl, a2, b2⟩
    | n + 3, hi => absurd hi (by show ¬ (n + 3 < 3); omega)⟩
/-- its items, each a new tuple -/
def ItW (kvs : List (V × V)) : It :=
  ⟨fun i _ => i < kvs.length, fun i H x H' => ∃ T k v, kvs[i]? = some (k, v) ∧ x = .ref T ∧ H T = none ∧ H' = upd H T (.tup [k, v]), fun i _ => kvs.length ≤ i⟩
theorem raw_of {K : PySem.W.Frag} {h : Heap} {d : Addr} {es : Array DictEntry} {n : Nat} (inK : K.In h) (e : K.lookup d = some ⟨.type "dict", none, .dict es n, #[]⟩) : h.DictRaw d es n :=
  ⟨_, inK _ _ e, ⟨rfl, rfl, rfl⟩, rfl⟩
theorem turn_itemsW {P : Program} {w : World} {K : PySem.W.Frag} {d : Addr} {es : Array DictEntry} {n : Nat} {kvs : List (V × V)} {elts : List Expr} {kk : Nat} {tpos : Pos} (it : Addr)
    (at_d : K.lookup d = some ⟨.type "dict", none, .dict es n, #[]⟩) (en : Entries es kvs) : Turn P w K (.Tuple elts kk tpos) (ItW kvs) [it] it (fun i h => ∃ ok ov, IsItemIter h it d i es.size n ok ov) := by
  constructor
  case mem => simp
  case obj =>
    rintro i h ⟨ok, ov, e⟩ b hb
    obtain rfl : b = it := by simpa using hb
    exact ⟨_, e, fun v z => nomatch z⟩
  case keep =>
    rintro i h h' ⟨ok, ov, e⟩ k
    exact ⟨ok, ov, k it (by simp) _ e⟩
  case item =>
    intro X hP hw hK hc i pins s σ H E I hf st hg
    subst hP hw hK
    obtain ⟨ok, ov, he⟩ := st
    have lt : it < s.heap.objs.size := Heap.lt_size he
    have hi : i < es.size := by rw [← en.1]; exact hg
    obtain ⟨k, v, hkv, rk, rv⟩ := en.2 i hi
    apply wpAny_pyNext_items_item_raw he (raw_of I.kIn at_d) hi
    intro h' out here size kp
    refine ⟨_, rfl, ?_⟩
    apply wpAny_letOwnedTupleGo_items (s := { s with heap := h' }) out
    intro h2 back but
    have here2 : h2.get? s.heap.objs.size = some { cls := .type "tuple", data := .seq #[es[i].key, es[i].val] } := (but.2 _ (Nat.ne_of_gt lt)).trans here
    have fresh : H s.heap.objs.size = none := I.hok.fresh (Nat.le_refl _)
    have new : ObjOk X.prog X.w (upd H s.heap.objs.size (.tup [k, v])) h2 s.heap.objs.size (.tup [k, v]) :=
      ⟨by show 2 ≤ sizeLine; decide, [es[i].key, es[i].val], .cons rk (.cons rv .nil), ⟨_, here2, rfl, _, rfl⟩⟩
    have J := I.turnedNew (t' := s.toks) (h' := h2) (ch := [it]) (fun b o hb e => (but.2 b (by simpa using hb)).trans (kp b o (by simpa using hb) e)) hf (Nat.le_refl _) new
    refine ⟨.ref s.heap.objs.size, _, J, rfl, ⟨_, k, v, hkv, rfl, fresh, rfl⟩, ⟨_, _, back⟩, ?_⟩
    intro b hb
    obtain rfl : b = it := by simpa using hb
    rw [upd_ne (Nat.ne_of_lt lt)]
    exact (hf b (by simp)).1
  case done =>
    intro X hP hw hK hc i pins s σ H E I hf st hg
    subst hP hw hK
    obtain ⟨ok, ov, he⟩ := st
    obtain ⟨f0, f1, f2, f3, f4, f5⟩ := hf it (by simp)
    apply wpAny_pyNext_items_end_raw (I.ok.hd hc) he (raw_of I.kIn at_d) (by rw [← en.1]; exact hg)
    intro h' eb
    exact ⟨rfl, I.turned (t' := s.toks) (fun b o hb e => eb b o hb e) f0 f1 f3 f4 f5⟩
  case self =>
    rintro A i s Q E ⟨_, _, e⟩ h
    exact PySem.W.kcp_self e h
/-- for .. in d.items(), d a written dict of the module -/
def iItemsW (K : PySem.W.Frag) (td : TE) : TI := fun σ H R => td σ H fun x H1 => ∃ d es n kvs, x = .ref d ∧ K.lookup d = some ⟨.type "dict", none, .dict es n, #[]⟩ ∧ Entries es kvs ∧ (d == sysModules) = false ∧ R (ItW kvs) H1
theorem pi_itemsW {X : Cx} {e : Expr} {td : TE} {apos cpos : Pos} {elts : List Expr} {kk : Nat} {tpos : Pos} (he : PE X e td) (hbase : attributeBase e "items" X.env (eval e X.env) = eval e X.env := by rfl)
    (hline : (apos.endLine == cpos.line) = true := by rfl) : PI X (.Tuple elts kk tpos) (.Call (.Attribute e "items" apos) [] [] cpos) (iItemsW X.K td) := by
  constructor
  intro pins s σ H R I h
  apply wpAny_Call_method (T := "dict") (id := "dict.items") hbase rfl hline F.plainAttrs_dict F.slot_dict_items F.type_dict_items
  apply thn (he.run pins s σ H _ I h)
  rintro u s1 ⟨x, H1, I1, rx, d, es, n, kvs, rfl, at_d, en, low, q⟩
  obtain rfl : u = Value.ref d := rx
  have raw := raw_of I1.kIn at_d
  refine ⟨raw.typeIs, fun a z => ?_, ?_⟩
  · cases z
    exact ⟨_, I1.kIn _ _ at_d, rfl⟩
  have I2 : Inv X pins σ H1 { s1 with heap := s1.heap.push { cls := .type "dict_items", data := .fields #[.ref d] } } := I1.kept (t' := s1.toks) fun b o z => Heap.get?_push_of_some _ z
  have fin : wpAny (model X.prog X.w) X.A (pyIter (.ref s1.heap.objs.size)) (PIE X pins σ (.Tuple elts kk tpos) R) X.xe { s1 with heap := s1.heap.push { cls := .type "dict_items", data := .fields #[.ref d] } } :=
    wpAny_pyIter_items_raw (d := d) ⟨_, Heap.get?_push_size _ rfl, rfl, rfl⟩ (raw_of I2.kIn at_d)
      (pi_one (tk := s1.toks) I2 _ (turn_itemsW _ at_d en) ⟨.none, .none, Heap.get?_push_size _ rfl⟩ q)
  show wpAny _ _ (callWith cpos (.builtin "dict.items") [.ref d] [] []) _ X.xe s1
  exact method_meetsIn F.slot_dict_items F.entry_dict_items rfl (PySem.evalArgs_none ⟨rfl, raw.typeIs, F.args_dict_items_1 _, _, meets_dict_items_raw d low, ⟨_, _, raw⟩, fin⟩)
theorem for_itemsW {kvs : List (V × V)} {g : TG} {tb : TS} {D : Ends} {σ : L2.St} {H : Hp} (Pv : Nat → L2.St → Hp → Prop) (h0 : Pv 0 σ H)
    (hs : ∀ i k v σ H T, kvs[i]? = some (k, v) → Pv i σ H → H T = none → g (.ref T) σ (upd H T (.tup [k, v])) fun σ2 H2 => tb { D with nx := Pv (i + 1), ct := Pv (i + 1), bk := D.nx } σ2 H2) (hd : ∀ σ H, Pv kvs.length σ H → D.nx σ H) :
    ∃ W : Nat → Nat → L2.St → Hp → Prop, (∃ m, W 0 m σ H) ∧ ∀ i m σ H, W i m σ H →
      ((ItW kvs).stop i H ∧ D.nx σ H) ∨ ((ItW kvs).go i H ∧ ∃ N : L2.St → Hp → Prop, (∀ σ' H', N σ' H' → ∃ m', m' < m ∧ W (i + 1) m' σ' H') ∧ ∀ x H', (ItW kvs).yld i H x H' → g x σ H' fun σ2 H2 => tb { D with nx := N, ct := N, bk := D.nx } σ2 H2) := by
  refine ⟨fun i m σ H => i + m = kvs.length ∧ Pv i σ H, ⟨kvs.length, by omega, h0⟩, ?_⟩
  rintro i m σ H ⟨e, p⟩
  by_cases lt : i < kvs.length
  · refine Or.inr ⟨lt, Pv (i + 1), fun σ' H' q => ⟨m - 1, by omega, by omega, q⟩, ?_⟩
    rintro x H' ⟨T, k, v, hkv, rfl, nT, rfl⟩
    exact hs i k v σ H T hkv p nT
  · obtain rfl : i = kvs.length := by omega
    exact Or.inl ⟨Nat.le_refl _, hd σ H p⟩
end Pg

/-! Segments of a text: the mathematics. -/
namespace Pg
open PySem PySem.Spec PyProof.Rows L2

abbrev cd (z : Str) : List Nat := z.cps.toList
theorem cd_len (z : Str) : z.length = (cd z).length := by simp [Str.length]
theorem cd_inj {x y : Str} (h : cd x = cd y) : x = y := Str.ext' (Array.toList_inj.mp h)
theorem cd_app (x y : Str) : cd (x ++ y) = cd x ++ cd y := by
  show (x.cps ++ y.cps).toList = _
  rw [Array.toList_append]
/-- the signs from a to b -/
def sub (t : Str) (a b : Nat) : Str := ⟨(((cd t).drop a).take (b - a)).toArray⟩
theorem cd_sub (t : Str) (a b : Nat) : cd (sub t a b) = ((cd t).drop a).take (b - a) := rfl
theorem cut_sub (t : Str) (a b : Nat) : cutS t (some (a : Int)) (some (b : Int)) = sub t a b := by
  apply cd_inj
  unfold cutS
  rw [show HT.sIx t.length 0 (some (a : Int)) = min a t.length from HT.sIx_nat t.length 0 a, show HT.sIx t.length t.length (some (b : Int)) = min b t.length from HT.sIx_nat t.length t.length b, cd_len]
  show List.take (min b (cd t).length - min a (cd t).length) (List.drop (min a (cd t).length) (cd t)) = List.take (b - a) (List.drop a (cd t))
  by_cases h : a ≤ (cd t).length
  · rw [Nat.min_eq_left h, List.take_eq_take_iff, List.length_drop]
    omega
  · have h1 : (cd t).length ≤ a := by omega
    rw [Nat.min_eq_right h1, List.drop_of_length_le h1, List.drop_of_length_le (Nat.le_refl _), List.take_nil, List.take_nil]
theorem cut_from (t : Str) (a : Nat) : cutS t (some (a : Int)) none = sub t a t.length := by
  apply cd_inj
  unfold cutS
  rw [show HT.sIx t.length 0 (some (a : Int)) = min a t.length from HT.sIx_nat t.length 0 a, HT.sIx_none, cd_len]
  show List.take ((cd t).length - min a (cd t).length) (List.drop (min a (cd t).length) (cd t)) = List.take (t.length - a) (List.drop a (cd t))
  rw [cd_len]
  by_cases h : a ≤ (cd t).length
  · rw [Nat.min_eq_left h]
  · have h1 : (cd t).length ≤ a := by omega
    rw [Nat.min_eq_right h1, List.drop_of_length_le h1, List.drop_of_length_le (Nat.le_refl _), List.take_nil, List.take_nil]
theorem sub_len {t : Str} {a b : Nat} (h : b ≤ t.length) : (sub t a b).length = b - a := by
  rw [cd_len, cd_sub, List.length_take, List.length_drop, ← cd_len]
  omega
theorem sub_self (t : Str) (a : Nat) : sub t a a = ⟨#[]⟩ := by
  apply cd_inj
  rw [cd_sub, Nat.sub_self, List.take_zero]
theorem sub_full (t : Str) : sub t 0 t.length = t := by
  apply cd_inj
  rw [cd_sub, List.drop_zero, Nat.sub_zero, cd_len, List.take_length]
theorem sub_join {t : Str} {a b c : Nat} (h1 : a ≤ b) (h2 : b ≤ c) : sub t a b ++ sub t b c = sub t a c := by
  apply cd_inj
  rw [cd_app, cd_sub, cd_sub, cd_sub]
  have e : (cd t).drop b = ((cd t).drop a).drop (b - a) := by rw [List.drop_drop]; congr 1; omega
  rw [e]
  have e2 : c - a = (b - a) + (c - b) := by omega
  rw [e2, List.take_add]
theorem sub_one {t : Str} {a c : Nat} (h : (cd t)[a]? = some c) : sub t a (a + 1) = ⟨#[c]⟩ := by
  apply cd_inj
  rw [cd_sub]
  obtain ⟨lt, e⟩ := List.getElem?_eq_some_iff.mp h
  have e1 : a + 1 - a = 1 := by omega
  rw [e1, List.drop_eq_getElem_cons lt, e]
  rfl
/-- one sign there -/
theorem sub_is1 (t : Str) (a c : Nat) : sub t a (a + 1) = ⟨#[c]⟩ ↔ (cd t)[a]? = some c := by
  constructor
  · intro h
    have h2 := congrArg cd h
    rw [cd_sub, show a + 1 - a = 1 by omega] at h2
    cases e : (cd t)[a]? with
    | none =>
      rw [List.drop_of_length_le (List.getElem?_eq_none_iff.mp e)] at h2
      cases h2
    | some d =>
      obtain ⟨lt, e1⟩ := List.getElem?_eq_some_iff.mp e
      rw [List.drop_eq_getElem_cons lt, e1] at h2
      have h3 : [d] = [c] := h2
      rw [List.cons.inj h3 |>.1]
  · exact sub_one
theorem sub_is2 (t : Str) (a c d : Nat) : sub t a (a + 2) = ⟨#[c, d]⟩ ↔ (cd t)[a]? = some c ∧ (cd t)[a + 1]? = some d := by
  have j : sub t a (a + 1) ++ sub t (a + 1) (a + 2) = sub t a (a + 2) := sub_join (by omega) (by omega)
  constructor
  · intro h
    have h2 := congrArg cd h
    rw [cd_sub, show a + 2 - a = 2 by omega] at h2
    have h0 : ((cd t).drop a)[0]? = some c := by
      have : (List.take 2 ((cd t).drop a))[0]? = some c := by rw [h2]; rfl
      rw [List.getElem?_take_of_lt (by omega)] at this
      exact this
    have h1 : ((cd t).drop a)[1]? = some d := by
      have : (List.take 2 ((cd t).drop a))[1]? = some d := by rw [h2]; rfl
      rw [List.getElem?_take_of_lt (by omega)] at this
      exact this
    rw [List.getElem?_drop] at h0 h1
    exact ⟨h0, h1⟩
  · rintro ⟨h0, h1⟩
    rw [← j, sub_one h0, sub_one h1]
    rfl

/-- the first c from i on -/
def closeAt (t : Str) (c i : Nat) : Option Nat := if i + ((cd t).drop i).findIdx (· == c) < (cd t).length then some (i + ((cd t).drop i).findIdx (· == c)) else none
theorem close_some {t : Str} {c i k : Nat} (h1 : i ≤ k) (h2 : (cd t)[k]? = some c) (h3 : ∀ v, i ≤ v → v < k → (cd t)[v]? ≠ some c) : closeAt t c i = some k := by
  have hk : ((cd t).drop i)[k - i]? = some c := by rw [List.getElem?_drop]; rw [show i + (k - i) = k by omega]; exact h2
  obtain ⟨lt, e⟩ := List.getElem?_eq_some_iff.mp hk
  have lt2 : k < (cd t).length := (List.getElem?_eq_some_iff.mp h2).1
  have : ((cd t).drop i).findIdx (· == c) = k - i := by
    rw [List.findIdx_eq lt]
    refine ⟨by rw [e]; exact beq_self_eq_true c, fun j hj => ?_⟩
    have hjl : j < ((cd t).drop i).length := by omega
    rw [beq_eq_false_iff_ne]
    intro e2
    apply h3 (i + j) (by omega) (by omega)
    have h4 : ((cd t).drop i)[j]? = some c := by rw [List.getElem?_eq_getElem hjl, e2]
    rw [List.getElem?_drop] at h4
    exact h4
  unfold closeAt
  rw [this, if_pos (by omega)]
  congr 1
  omega
theorem close_is {t : Str} {c i k : Nat} (h : closeAt t c i = some k) : i ≤ k ∧ k < t.length ∧ (cd t)[k]? = some c ∧ ∀ v, i ≤ v → v < k → (cd t)[v]? ≠ some c := by
  unfold closeAt at h
  by_cases lt : i + ((cd t).drop i).findIdx (· == c) < (cd t).length
  · rw [if_pos lt] at h
    have hk2 : i + ((cd t).drop i).findIdx (· == c) = k := Option.some.inj h
    have lt3 : ((cd t).drop i).findIdx (· == c) < ((cd t).drop i).length := by rw [List.length_drop]; omega
    have e := List.findIdx_getElem (w := lt3)
    have at_k : ((cd t).drop i)[((cd t).drop i).findIdx (· == c)]? = some c := by rw [List.getElem?_eq_getElem lt3, eq_of_beq e]
    rw [List.getElem?_drop, hk2] at at_k
    refine ⟨by omega, by rw [cd_len]; omega, at_k, fun v hv1 hv2 hv3 => ?_⟩
    have hlt : v - i < ((cd t).drop i).findIdx (· == c) := by omega
    have := List.not_of_lt_findIdx hlt
    have h4 : ((cd t).drop i)[v - i]? = some c := by rw [List.getElem?_drop]; rw [show i + (v - i) = v by omega]; exact hv3
    obtain ⟨lt4, e4⟩ := List.getElem?_eq_some_iff.mp h4
    rw [e4] at this
    simp at this
  · rw [if_neg lt] at h
    cases h
theorem close_none {t : Str} {c i : Nat} (h : ∀ v, i ≤ v → (cd t)[v]? ≠ some c) : closeAt t c i = none := by
  cases e : closeAt t c i with
  | none => rfl
  | some k =>
    obtain ⟨h1, _, h2, _⟩ := close_is e
    exact absurd h2 (h k h1)
theorem close_free {t : Str} {c i : Nat} (h : closeAt t c i = none) : ∀ v, i ≤ v → (cd t)[v]? ≠ some c := by
  intro v h1 h2
  have fd : ∀ m k, k - i = m → i ≤ k → (cd t)[k]? = some c → False := by
    intro m
    induction m using Nat.strongRecOn with
    | _ m ih =>
      intro k hm hk1 hk2
      by_cases ex : ∀ v, i ≤ v → v < k → (cd t)[v]? ≠ some c
      · rw [close_some hk1 hk2 ex] at h
        cases h
      · have ⟨v, hv⟩ : ∃ v, ¬ (i ≤ v → v < k → (cd t)[v]? ≠ some c) := Classical.not_forall.mp ex
        have h1' : i ≤ v := Classical.byContradiction fun z => hv fun a => absurd a z
        have h2' : v < k := Classical.byContradiction fun z => hv fun _ b => absurd b z
        have h3' : (cd t)[v]? = some c := Classical.byContradiction fun z => hv fun _ _ => z
        exact ih (v - i) (by omega) v rfl h1' h3'
  exact fd _ v rfl h1 h2
/-- the sign at the start is another: one may begin behind it -/
theorem close_step {t : Str} {c i d : Nat} (h : (cd t)[i]? = some d) (ne : d ≠ c) : closeAt t c i = closeAt t c (i + 1) := by
  have skip : ∀ v, i ≤ v → (cd t)[v]? = some c → i + 1 ≤ v := fun v h1 h2 => by
    by_cases e : v = i
    · rw [e, h] at h2
      exact absurd (Option.some.inj h2) ne
    · omega
  cases e : closeAt t c (i + 1) with
  | none => exact close_none fun v h1 h2 => close_free e v (skip v h1 h2) h2
  | some k =>
    obtain ⟨h1, _, h2, h3⟩ := close_is e
    exact close_some (by omega) h2 fun v v1 v2 v3 => h3 v (skip v v1 v3) v2 v3
/-- str.find of one sign -/
theorem find_close (t : Str) (c i : Nat) : Txt.find3 t ⟨#[c]⟩ (i : Int) = match closeAt t c i with | some k => (k : Int) | none => -1 := by
  have fi : PySem.fromIndex t.length (i : Int) = i := by
    unfold PySem.fromIndex
    rw [if_neg (by omega)]
    omega
  have gd : ∀ v, v < t.length → ((cd t)[v]? = some c ↔ t.cps.getD v 0 = c) := by
    intro v hv
    constructor
    · intro h
      exact StrLaws.getD_of_getElem? h
    · intro h
      exact StrLaws.getElem?_of_getD hv h
  have big : ∀ v, (cd t)[v]? = some c → v < t.length := fun v h => by rw [cd_len]; exact (List.getElem?_eq_some_iff.mp h).1
  rcases StrLaws.find3_spec t c (i : Int) with ⟨h0, hn⟩ | ⟨k, h0, h1, h2, h3, h4⟩
  · rw [fi] at hn
    rw [close_none fun v hv hs => hn v hv (big v hs) ((gd v (big v hs)).mp hs), h0]
  · rw [fi] at h1 h4
    rw [close_some h1 ((gd k h2).mpr h3) fun v hv1 hv2 hs => h4 v hv1 hv2 ((gd v (big v hs)).mp hs), h0]
end Pg

/-! What splits a text. -/
namespace Pg
open PySem PySem.Spec PyProof.Rows L2
abbrev Seg := Str × Str
/-- the segment that is no text and begins at i: its kind, its name, the place behind it -/
def brk (N A : Str → Bool) (t : Str) (i : Nat) : Option (Str × Str × Nat) :=
  if (cd t)[i]? = some 91 then
    match closeAt t 93 (i + 1) with
    | some e => if N (sub t (i + 1) e) = true then some ("link", sub t (i + 1) e, e + 1) else none
    | none => none
  else if (cd t)[i]? = some 60 then
    match closeAt t 62 (i + 1) with
    | some e =>
      if (cd t)[i + 1]? = some 64 then (if (N (sub t (i + 2) e) && A (sub t (i + 2) e)) = true then some ("indirect", sub t (i + 2) e, e + 1) else none)
      else (if (N (sub t (i + 1) e) && A (sub t (i + 1) e)) = true then some ("include", sub t (i + 1) e, e + 1) else none)
    | none => none
  else none
/-- a segment's own text -/
def textOf (s : Seg) : Str := if s.1 = "text" then s.2 else if s.1 = "include" then "<" ++ s.2 ++ ">" else if s.1 = "indirect" then "<@" ++ s.2 ++ ">" else "[" ++ s.2 ++ "]"
theorem text_link (z : Str) : textOf ("link", z) = "[" ++ z ++ "]" := by
  unfold textOf
  rw [if_neg (show ¬ (("link" : Str) = "text") by decide +kernel), if_neg (show ¬ (("link" : Str) = "include") by decide +kernel), if_neg (show ¬ (("link" : Str) = "indirect") by decide +kernel)]
theorem text_ind (z : Str) : textOf ("indirect", z) = "<@" ++ z ++ ">" := by
  unfold textOf
  rw [if_neg (show ¬ (("indirect" : Str) = "text") by decide +kernel), if_neg (show ¬ (("indirect" : Str) = "include") by decide +kernel), if_pos rfl]
theorem text_inc (z : Str) : textOf ("include", z) = "<" ++ z ++ ">" := by
  unfold textOf
  rw [if_neg (show ¬ (("include" : Str) = "text") by decide +kernel), if_pos rfl]
theorem s60 : ("<" : Str) = ⟨#[60]⟩ := by decide +kernel
theorem s62 : (">" : Str) = ⟨#[62]⟩ := by decide +kernel
theorem s91 : ("[" : Str) = ⟨#[91]⟩ := by decide +kernel
theorem s93 : ("]" : Str) = ⟨#[93]⟩ := by decide +kernel
theorem s6064 : ("<@" : Str) = ⟨#[60, 64]⟩ := by decide +kernel
theorem s0 : ("" : Str) = ⟨#[]⟩ := by decide +kernel
theorem wrap1 {t : Str} {i e : Nat} {b c : Nat} (h1 : i + 1 ≤ e) (hb : (cd t)[i]? = some b) (hc : (cd t)[e]? = some c) : (⟨#[b]⟩ : Str) ++ sub t (i + 1) e ++ ⟨#[c]⟩ = sub t i (e + 1) := by
  rw [← sub_one hb, ← sub_one hc, sub_join (by omega) h1, sub_join (by omega) (by omega)]
theorem wrap2 {t : Str} {i e : Nat} {b d c : Nat} (h1 : i + 2 ≤ e) (hb : (cd t)[i]? = some b) (hd : (cd t)[i + 1]? = some d) (hc : (cd t)[e]? = some c) : (⟨#[b, d]⟩ : Str) ++ sub t (i + 2) e ++ ⟨#[c]⟩ = sub t i (e + 1) := by
  rw [← (sub_is2 t i b d).mpr ⟨hb, hd⟩, ← sub_one hc, sub_join (by omega) h1, sub_join (by omega) (by omega)]
def kinds : List Str := ["include", "indirect", "link"]
theorem kinds_no : ∀ k ∈ kinds, k ≠ "text" := by decide +kernel
theorem brk_is {N A : Str → Bool} {t k z : Str} {i e : Nat} (h : brk N A t i = some (k, z, e)) : i < e ∧ e ≤ t.length ∧ textOf (k, z) = sub t i e ∧ k ∈ kinds ∧ z.length ≤ t.length := by
  unfold brk at h
  by_cases h1 : (cd t)[i]? = some 91
  · rw [if_pos h1] at h
    split at h
    · rename_i e0 he
      obtain ⟨c1, c2, c3, _⟩ := close_is he
      split at h
      · cases h
        refine ⟨by omega, by omega, ?_, by decide +kernel, by rw [sub_len (by omega)]; omega⟩
        rw [← wrap1 c1 h1 c3, ← s91, ← s93, text_link]
      · cases h
    · cases h
  · rw [if_neg h1] at h
    by_cases h2 : (cd t)[i]? = some 60
    · rw [if_pos h2] at h
      split at h
      · rename_i e0 he
        obtain ⟨c1, c2, c3, c4⟩ := close_is he
        by_cases h3 : (cd t)[i + 1]? = some 64
        · rw [if_pos h3] at h
          split at h
          · cases h
            have c1' : i + 2 ≤ e0 := by
              by_cases e : e0 = i + 1
              · subst e
                rw [h3] at c3
                cases c3
              · omega
            refine ⟨by omega, by omega, ?_, by decide +kernel, by rw [sub_len (by omega)]; omega⟩
            rw [← wrap2 c1' h2 h3 c3, ← s6064, ← s62, text_ind]
          · cases h
        · rw [if_neg h3] at h
          split at h
          · cases h
            refine ⟨by omega, by omega, ?_, by decide +kernel, by rw [sub_len (by omega)]; omega⟩
            rw [← wrap1 c1 h2 c3, ← s60, ← s62, text_inc]
          · cases h
      · cases h
    · rw [if_neg h2] at h
      cases h
/-- plain signs as a segment, or none -/
def plain (z : Str) : List Seg := if z = ⟨#[]⟩ then [] else [("text", z)]
/-- the segments, when all before `done` is told and i is reached -/
def segs (N A : Str → Bool) (t : Str) (done i : Nat) : List Seg :=
  if i < t.length then
    match brk N A t i with
    | none => segs N A t done (i + 1)
    | some (k, z, e) => if i < e then plain (sub t done i) ++ ((k, z) :: segs N A t e e) else []
  else plain (sub t done t.length)
termination_by t.length - i
theorem segs_end {N A : Str → Bool} {t : Str} {done i : Nat} (h : ¬ i < t.length) : segs N A t done i = plain (sub t done t.length) := by
  rw [segs, if_neg h]
theorem segs_none {N A : Str → Bool} {t : Str} {done i : Nat} (h : i < t.length) (b : brk N A t i = none) : segs N A t done i = segs N A t done (i + 1) := by
  rw [segs, if_pos h, b]
theorem segs_some {N A : Str → Bool} {t k z : Str} {done i e : Nat} (h : i < t.length) (b : brk N A t i = some (k, z, e)) : segs N A t done i = plain (sub t done i) ++ ((k, z) :: segs N A t e e) := by
  rw [segs, if_pos h, b]
  simp only
  rw [if_pos (brk_is b).1]
/-- texts one behind another -/
def glue : List Str → Str
  | [] => ⟨#[]⟩
  | x :: r => x ++ glue r
theorem glue_app : ∀ a b : List Str, glue (a ++ b) = glue a ++ glue b
  | [], b => by
    apply cd_inj
    rw [cd_app]
    rfl
  | x :: a, b => by
    show x ++ glue (a ++ b) = x ++ glue a ++ glue b
    rw [glue_app a b]
    apply cd_inj
    simp only [cd_app, List.append_assoc]
theorem glue_plain (z : Str) : glue ((plain z).map textOf) = z := by
  unfold plain
  split
  · rename_i e
    rw [e]
    rfl
  · apply cd_inj
    show cd (textOf ("text", z) ++ ⟨#[]⟩) = _
    rw [cd_app]
    unfold textOf
    rw [if_pos rfl]
    simp
theorem glue_segs (N A : Str → Bool) (t : Str) : ∀ (m done i : Nat), t.length - i = m → done ≤ i → i ≤ t.length → glue ((segs N A t done i).map textOf) = sub t done t.length := by
  intro m
  induction m using Nat.strongRecOn with
  | _ m ih =>
    intro done i hm h1 h2
    by_cases lt : i < t.length
    · cases b : brk N A t i with
      | none =>
        rw [segs_none lt b]
        exact ih (t.length - (i + 1)) (by omega) done (i + 1) rfl (by omega) (by omega)
      | some r =>
        obtain ⟨k, z, e⟩ := r
        obtain ⟨b1, b2, b3, _⟩ := brk_is b
        rw [segs_some lt b, List.map_append, glue_app, glue_plain, List.map_cons]
        show sub t done i ++ (textOf (k, z) ++ glue ((segs N A t e e).map textOf)) = _
        rw [ih (t.length - e) (by omega) e e rfl (Nat.le_refl _) b2, b3, sub_join (by omega) b2, sub_join h1 (by omega)]
    · rw [segs_end lt, glue_plain]
theorem glue_all (N A : Str → Bool) (t : Str) : glue ((segs N A t 0 0).map textOf) = t := by
  rw [glue_segs N A t t.length 0 0 rfl (Nat.le_refl _) (Nat.zero_le _), sub_full]
def noText : Seg := (("text" : Str), (⟨#[]⟩ : Str))
/-- no empty text, no text beside another one -/
def okL : List Seg → Prop
  | [] => True
  | s :: r => s ≠ noText ∧ (∀ s', r.head? = some s' → ¬ (s.1 = "text" ∧ s'.1 = "text")) ∧ okL r
theorem okL_plain {z : Str} {r : List Seg} (h : okL r) (no : ∀ s, r.head? = some s → s.1 ≠ "text") : okL (plain z ++ r) := by
  unfold plain
  split
  · exact h
  · rename_i e
    exact ⟨fun q => e (Prod.mk.inj q).2, fun s' hs q => no s' hs q.2, h⟩
theorem okL_segs (N A : Str → Bool) (t : Str) : ∀ (m done i : Nat), t.length - i = m → i ≤ t.length → okL (segs N A t done i) := by
  intro m
  induction m using Nat.strongRecOn with
  | _ m ih =>
    intro done i hm h2
    by_cases lt : i < t.length
    · cases b : brk N A t i with
      | none =>
        rw [segs_none lt b]
        exact ih (t.length - (i + 1)) (by omega) done (i + 1) rfl (by omega)
      | some r =>
        obtain ⟨k, z, e⟩ := r
        obtain ⟨b1, b2, b3, b4, _⟩ := brk_is b
        have kn := kinds_no k b4
        rw [segs_some lt b]
        apply okL_plain
        · refine ⟨fun q => kn (Prod.mk.inj q).1, fun s' _ q => kn q.1, ih (t.length - e) (by omega) e e rfl b2⟩
        · intro s hs
          cases hs
          exact kn
    · rw [segs_end lt]
      have : plain (sub t done t.length) = plain (sub t done t.length) ++ [] := (List.append_nil _).symm
      rw [this]
      exact okL_plain trivial (fun s hs => by cases hs)
theorem okL_get : ∀ {l : List Seg} {i : Nat} {s : Seg}, okL l → l[i]? = some s → s ≠ noText ∧ ∀ j r, i = j + 1 → l[j]? = some r → ¬ (s.1 = "text" ∧ r.1 = "text")
  | [], _, _, _, h => by simp at h
  | x :: l, 0, s, ok, h => by
    obtain rfl : x = s := Option.some.inj h
    exact ⟨ok.1, fun j r e => by omega⟩
  | x :: l, i + 1, s, ok, h => by
    have h' : l[i]? = some s := by simpa using h
    obtain ⟨a, b⟩ := okL_get ok.2.2 h'
    refine ⟨a, fun j r e hr => ?_⟩
    obtain rfl : i = j := by omega
    cases i with
    | zero =>
      obtain rfl : x = r := by simpa using hr
      have hd : l.head? = some s := by rw [List.head?_eq_getElem?]; exact h'
      exact fun q => ok.2.1 s hd ⟨q.2, q.1⟩
    | succ i =>
      have hr' : l[i]? = some r := by simpa using hr
      exact b i r rfl hr'
theorem segs_few (N A : Str → Bool) (t : Str) : ∀ (m done i : Nat), t.length - i = m → i ≤ t.length → (segs N A t done i).length ≤ 2 * (t.length - i) + 1 := by
  intro m
  have pl : ∀ z : Str, (plain z).length ≤ 1 := fun z => by unfold plain; split <;> simp
  induction m using Nat.strongRecOn with
  | _ m ih =>
    intro done i hm h2
    by_cases lt : i < t.length
    · cases b : brk N A t i with
      | none =>
        rw [segs_none lt b]
        have := ih (t.length - (i + 1)) (by omega) done (i + 1) rfl (by omega)
        omega
      | some r =>
        obtain ⟨k, z, e⟩ := r
        obtain ⟨b1, b2, _⟩ := brk_is b
        rw [segs_some lt b, List.length_append, List.length_cons]
        have h1 := pl (sub t done i)
        have h2 := ih (t.length - e) (by omega) e e rfl b2
        omega
    · rw [segs_end lt]
      have := pl (sub t done t.length)
      omega
end Pg
namespace Pg
open PySem PySem.Spec PyProof.Rows L2
/-- one kind, tried at i -/
def tryK (N A : Str → Bool) (t : Str) (i : Nat) (k b : Str) (c : Nat) : Option (Str × Str × Nat) :=
  if sub t i (i + b.length) = b then
    match closeAt t c (i + b.length) with
    | some e => if (N (sub t (i + b.length) e) && (decide (k = "link") || A (sub t (i + b.length) e))) = true then some (k, sub t (i + b.length) e, e + 1) else none
    | none => none
  else none
theorem brk_try {N A : Str → Bool} {t : Str} {i : Nat} (hN : ∀ z, N z = true → 64 ∉ cd z) :
    brk N A t i = ((tryK N A t i "include" "<" 62).or ((tryK N A t i "indirect" "<@" 62).or (tryK N A t i "link" "[" 93))) := by
  have l1 : ("<" : Str).length = 1 := rfl
  have l2 : ("<@" : Str).length = 2 := rfl
  have l3 : ("[" : Str).length = 1 := rfl
  have k1 : decide (("include" : Str) = "link") = false := by decide +kernel
  have k2 : decide (("indirect" : Str) = "link") = false := by decide +kernel
  have k3 : decide (("link" : Str) = "link") = true := decide_eq_true rfl
  unfold brk tryK
  rw [l1, l2, l3, k1, k2, k3]
  simp only [s60, s6064, s91, sub_is1, sub_is2, Bool.false_or, Bool.true_or, Bool.and_true]
  by_cases h1 : (cd t)[i]? = some 91
  · have n60 : ¬ (cd t)[i]? = some 60 := by rw [h1]; simp
    rw [if_pos h1, if_neg n60, if_neg (fun z => n60 z.1), if_pos h1]
    rfl
  · rw [if_neg h1]
    by_cases h2 : (cd t)[i]? = some 60
    · rw [if_pos h2, if_pos h2, if_neg h1]
      by_cases h3 : (cd t)[i + 1]? = some 64
      · rw [if_pos ⟨h2, h3⟩]
        have cs : closeAt t 62 (i + 1) = closeAt t 62 (i + 2) := close_step h3 (by decide)
        rw [← cs]
        cases e : closeAt t 62 (i + 1) with
        | none => rfl
        | some k =>
          obtain ⟨c1, c2, c3, _⟩ := close_is e
          have no : N (sub t (i + 1) k) = false := by
            cases q : N (sub t (i + 1) k) with
            | false => rfl
            | true =>
              exfalso
              apply hN _ q
              have lt : i + 1 < k := by
                by_cases z : k = i + 1
                · subst z
                  rw [h3] at c3
                  cases c3
                · omega
              have : (cd (sub t (i + 1) k))[0]? = some 64 := by
                rw [cd_sub, List.getElem?_take_of_lt (by omega), List.getElem?_drop]
                exact h3
              exact List.mem_of_getElem? this
          simp only [h3, no, if_true, Bool.false_and, Bool.false_eq_true, if_false, Option.none_or, Option.or_none]
      · rw [if_neg (fun z => h3 z.2)]
        cases e : closeAt t 62 (i + 1) with
        | none => rfl
        | some k => simp only [h3, if_false, Option.or_none]
    · rw [if_neg h2, if_neg h2, if_neg (fun z => h2 z.1), if_neg h1]
      rfl
theorem segs_kinds (N A : Str → Bool) (t : Str) : ∀ (m done i : Nat), t.length - i = m → done ≤ i → i ≤ t.length → ∀ s ∈ segs N A t done i, (s.1 = "text" ∨ s.1 ∈ kinds) ∧ s.2.length ≤ t.length := by
  intro m
  have pl : ∀ a b : Nat, b ≤ t.length → ∀ s ∈ plain (sub t a b), (s.1 = "text" ∨ s.1 ∈ kinds) ∧ s.2.length ≤ t.length := by
    intro a b hb s hs
    unfold plain at hs
    split at hs
    · cases hs
    · rw [List.mem_singleton.mp hs]
      exact ⟨Or.inl rfl, by show (sub t a b).length ≤ _; rw [sub_len hb]; omega⟩
  induction m using Nat.strongRecOn with
  | _ m ih =>
    intro done i hm h1 h2 s hs
    by_cases lt : i < t.length
    · cases b : brk N A t i with
      | none =>
        rw [segs_none lt b] at hs
        exact ih (t.length - (i + 1)) (by omega) done (i + 1) rfl (by omega) (by omega) s hs
      | some r =>
        obtain ⟨k, z, e⟩ := r
        obtain ⟨b1, b2, _, b4, b5⟩ := brk_is b
        rw [segs_some lt b] at hs
        rcases List.mem_append.mp hs with h | h
        · exact pl done i h2 s h
        · rcases List.mem_cons.mp h with h | h
          · rw [h]
            exact ⟨Or.inr b4, b5⟩
          · exact ih (t.length - e) (by omega) e e rfl (Nat.le_refl _) b2 s h
    · rw [segs_end lt] at hs
      exact pl done t.length (Nat.le_refl _) s hs
end Pg
namespace Pg
open PySem PySem.Spec PyProof.Rows L2
/-- signs that there are -/
def Codes (z : Str) : Prop := ∀ c ∈ cd z, c < 1114112
theorem Codes.ok {z : Str} (h : Codes z) : PyData.strOk z = true := by
  unfold PyData.strOk
  rw [← Array.all_toList, List.all_eq_true]
  intro c hc
  exact decide_eq_true (h c hc)
theorem Codes.sub {t : Str} (h : Codes t) (a b : Nat) : Codes (sub t a b) := fun c hc => h c (List.mem_of_mem_drop (List.mem_of_mem_take hc))
theorem kinds_codes : ∀ k ∈ (("text" : Str) :: kinds), k.cps.toList.all (fun c => decide (c < 127)) = true ∧ k.length ≤ 8 := by decide +kernel
theorem kind_codes {k : Str} (h : k = "text" ∨ k ∈ kinds) : Codes k := fun c hc => by
  have m : k ∈ (("text" : Str) :: kinds) := by
    rcases h with h | h
    · rw [h]; exact List.mem_cons_self
    · exact List.mem_cons_of_mem _ h
  have := of_decide_eq_true (List.all_eq_true.mp (kinds_codes k m).1 c hc)
  omega
/-- a segment of a text: its kind, its signs -/
def Fine (t : Str) (s : Seg) : Prop := (s.1 = "text" ∨ s.1 ∈ kinds) ∧ s.2.length ≤ t.length ∧ ∀ c ∈ cd s.2, c ∈ cd t
theorem plain_fine {t : Str} {a b : Nat} (hb : b ≤ t.length) : ∀ s ∈ plain (sub t a b), Fine t s := by
  intro s hs
  unfold plain at hs
  split at hs
  · cases hs
  · rw [List.mem_singleton.mp hs]
    exact ⟨Or.inl rfl, by show (sub t a b).length ≤ _; rw [sub_len hb]; omega, fun c hc => List.mem_of_mem_drop (List.mem_of_mem_take hc)⟩
theorem brk_part {N A : Str → Bool} {t k z : Str} {i e : Nat} (h : brk N A t i = some (k, z, e)) : ∀ c ∈ cd z, c ∈ cd t := by
  have sb : ∀ a b, ∀ c ∈ cd (sub t a b), c ∈ cd t := fun a b c hc => List.mem_of_mem_drop (List.mem_of_mem_take hc)
  unfold brk at h
  repeat' split at h
  all_goals first
    | (cases h; done)
    | (cases h; exact sb _ _)
theorem segs_fine (N A : Str → Bool) (t : Str) : ∀ (m done i : Nat), t.length - i = m → done ≤ i → i ≤ t.length → ∀ s ∈ segs N A t done i, Fine t s := by
  intro m
  induction m using Nat.strongRecOn with
  | _ m ih =>
    intro done i hm h1 h2 s hs
    by_cases lt : i < t.length
    · cases b : brk N A t i with
      | none =>
        rw [segs_none lt b] at hs
        exact ih (t.length - (i + 1)) (by omega) done (i + 1) rfl (by omega) (by omega) s hs
      | some r =>
        obtain ⟨k, z, e⟩ := r
        obtain ⟨b1, b2, _, b4, b5⟩ := brk_is b
        rw [segs_some lt b] at hs
        rcases List.mem_append.mp hs with h | h
        · exact plain_fine h2 s h
        · rcases List.mem_cons.mp h with h | h
          · rw [h]
            exact ⟨Or.inr b4, b5, brk_part b⟩
          · exact ih (t.length - e) (by omega) e e rfl (Nat.le_refl _) b2 s h
    · rw [segs_end lt] at hs
      exact plain_fine (Nat.le_refl _) s hs
end Pg
namespace Pg
open PySem PySem.Spec PyProof.Rows L2
theorem brk_after {N A : Str → Bool} {t k z : Str} {i e : Nat} (h : brk N A t i = some (k, z, e)) : (k = "link" ∧ N z = true) ∨ ((k = "include" ∨ k = "indirect") ∧ N z = true ∧ A z = true) := by
  unfold brk at h
  repeat' split at h
  all_goals first
    | (cases h; done)
    | (rename_i q; cases h; exact .inl ⟨rfl, q⟩)
    | (rename_i q; cases h; obtain ⟨q1, q2⟩ := Bool.and_eq_true_iff.mp q; exact .inr ⟨.inl rfl, q1, q2⟩)
    | (rename_i q; cases h; obtain ⟨q1, q2⟩ := Bool.and_eq_true_iff.mp q; exact .inr ⟨.inr rfl, q1, q2⟩)
theorem plain_kind {z : Str} : ∀ s ∈ plain z, s.1 = "text" := by
  intro s hs
  unfold plain at hs
  split at hs
  · cases hs
  · rw [List.mem_singleton.mp hs]
theorem segs_after (N A : Str → Bool) (t : Str) : ∀ (m done i : Nat), t.length - i = m → i ≤ t.length → ∀ s ∈ segs N A t done i, s.1 = "text" ∨ (s.1 = "link" ∧ N s.2 = true) ∨ ((s.1 = "include" ∨ s.1 = "indirect") ∧ N s.2 = true ∧ A s.2 = true) := by
  intro m
  induction m using Nat.strongRecOn with
  | _ m ih =>
    intro done i hm h2 s hs
    by_cases lt : i < t.length
    · cases b : brk N A t i with
      | none =>
        rw [segs_none lt b] at hs
        exact ih (t.length - (i + 1)) (by omega) done (i + 1) rfl (by omega) s hs
      | some r =>
        obtain ⟨k, z, e⟩ := r
        obtain ⟨b1, b2, _⟩ := brk_is b
        rw [segs_some lt b] at hs
        rcases List.mem_append.mp hs with h | h
        · exact .inl (plain_kind s h)
        · rcases List.mem_cons.mp h with h | h
          · rw [h]
            exact .inr (brk_after b)
          · exact ih (t.length - e) (by omega) e e rfl b2 s h
    · rw [segs_end lt] at hs
      exact .inl (plain_kind s hs)
end Pg

/-! Dicts with texts as keys, as rows of pairs. -/
namespace Pg
open PySem PySem.Spec PyProof.Rows L2
section
variable {β : Type}
/-- the row of pairs as the dict's own -/
def enc (f : β → V) (kvs : List (Str × β)) : List (Key × V) := kvs.map fun p => (Sum.inr p.1, f p.2)
def getS : List (Str × β) → Str → Option β
  | [], _ => none
  | p :: r, k => if p.1 = k then some p.2 else getS r k
/-- in its place, or at the end -/
def putS : List (Str × β) → Str → β → List (Str × β)
  | [], k, v => [(k, v)]
  | p :: r, k, v => if p.1 = k then (p.1, v) :: r.map (fun q => if q.1 = k then (q.1, v) else q) else p :: putS r k v
theorem valV_enc (f : β → V) : ∀ (kvs : List (Str × β)) (k : Str), valV (enc f kvs) (Sum.inr k) = (getS kvs k).map f
  | [], k => rfl
  | p :: r, k => by
    by_cases e : p.1 = k
    · rw [show enc f (p :: r) = (Sum.inr p.1, f p.2) :: enc f r from rfl, valV_pos (by rw [e]), getS, if_pos e]
      rfl
    · rw [show enc f (p :: r) = (Sum.inr p.1, f p.2) :: enc f r from rfl, valV_neg (fun h => e (Sum.inr.inj h)), getS, if_neg e]
      exact valV_enc f r k
theorem any_enc (f : β → V) : ∀ (kvs : List (Str × β)) (k : Str), ((enc f kvs).any fun kv => decide (kv.1 = Sum.inr k)) = (getS kvs k).isSome
  | [], k => rfl
  | p :: r, k => by
    rw [show enc f (p :: r) = (Sum.inr p.1, f p.2) :: enc f r from rfl, List.any_cons, getS]
    by_cases e : p.1 = k
    · rw [if_pos e, decide_eq_true (by rw [e]), Bool.true_or]
      rfl
    · rw [if_neg e, decide_eq_false (fun h => e (Sum.inr.inj h)), Bool.false_or]
      exact any_enc f r k
theorem map_enc (f : β → V) (k : Str) (v : β) : ∀ kvs : List (Str × β), (enc f kvs).map (fun kv => if kv.1 = Sum.inr k then (kv.1, f v) else kv) = enc f (kvs.map fun q => if q.1 = k then (q.1, v) else q)
  | [] => rfl
  | p :: r => by
    have ih := map_enc f k v r
    show (if (Sum.inr p.1 : Key) = Sum.inr k then ((Sum.inr p.1 : Key), f v) else (Sum.inr p.1, f p.2)) :: (enc f r).map _ = (Sum.inr (if p.1 = k then (p.1, v) else p).1, f (if p.1 = k then (p.1, v) else p).2) :: enc f (r.map _)
    rw [ih]
    by_cases e : p.1 = k
    · rw [if_pos e, if_pos (by rw [e])]
    · rw [if_neg e, if_neg (fun h => e (Sum.inr.inj h))]
theorem putS_has : ∀ {kvs : List (Str × β)} {k : Str} {v : β}, (getS kvs k).isSome = true → putS kvs k v = kvs.map (fun q => if q.1 = k then (q.1, v) else q)
  | [], k, v, h => by cases h
  | p :: r, k, v, h => by
    unfold putS
    by_cases e : p.1 = k
    · rw [if_pos e, List.map_cons, if_pos e]
    · rw [getS, if_neg e] at h
      rw [if_neg e, putS_has h, List.map_cons, if_neg e]
theorem putS_new : ∀ {kvs : List (Str × β)} {k : Str} {v : β}, (getS kvs k).isSome = false → putS kvs k v = kvs ++ [(k, v)]
  | [], k, v, h => rfl
  | p :: r, k, v, h => by
    unfold putS
    by_cases e : p.1 = k
    · rw [getS, if_pos e] at h
      cases h
    · rw [getS, if_neg e] at h
      rw [if_neg e, putS_new h]
      rfl
theorem putK_enc (f : β → V) (kvs : List (Str × β)) (k : Str) (v : β) : putK (enc f kvs) (Sum.inr k) (f v) = enc f (putS kvs k v) := by
  unfold putK
  rw [any_enc]
  cases e : (getS kvs k).isSome with
  | true => rw [if_pos rfl, putS_has e, map_enc]
  | false =>
    rw [if_neg Bool.false_ne_true, putS_new e]
    unfold enc
    rw [List.map_append]
    rfl
theorem keys_put : ∀ (kvs : List (Str × β)) (k : Str) (v : β), (putS kvs k v).map (·.1) = if (getS kvs k).isSome = true then kvs.map (·.1) else kvs.map (·.1) ++ [k] := by
  intro kvs k v
  cases e : (getS kvs k).isSome with
  | true =>
    rw [if_pos rfl, putS_has e, List.map_map]
    refine List.map_congr_left fun p _ => ?_
    show (if p.1 = k then (p.1, v) else p).1 = p.1
    split <;> rfl
  | false =>
    rw [if_neg Bool.false_ne_true, putS_new e, List.map_append]
    rfl
theorem get_some : ∀ {kvs : List (Str × β)} {k : Str} {v : β}, getS kvs k = some v → (k, v) ∈ kvs
  | [], k, v, h => by cases h
  | p :: r, k, v, h => by
    rw [getS] at h
    by_cases e : p.1 = k
    · rw [if_pos e] at h
      obtain rfl := Option.some.inj h
      rw [← e]
      exact List.mem_cons_self
    · rw [if_neg e] at h
      exact List.mem_cons_of_mem _ (get_some h)
theorem get_none : ∀ {kvs : List (Str × β)} {k : Str}, getS kvs k = none ↔ k ∉ kvs.map (·.1)
  | [], k => ⟨fun _ h => (by cases h), fun _ => rfl⟩
  | p :: r, k => by
    rw [getS, List.map_cons, List.mem_cons]
    by_cases e : p.1 = k
    · rw [if_pos e]
      exact ⟨fun h => (by cases h), fun h => absurd (Or.inl e.symm) h⟩
    · rw [if_neg e, get_none]
      exact ⟨fun h z => z.elim (fun q => e q.symm) h, fun h z => h (Or.inr z)⟩
theorem nodup_put {kvs : List (Str × β)} (k : Str) (v : β) (h : (kvs.map (·.1)).Nodup) : ((putS kvs k v).map (·.1)).Nodup := by
  rw [keys_put]
  split
  · exact h
  · rename_i e
    have n : getS kvs k = none := by
      cases q : getS kvs k with
      | none => rfl
      | some _ => rw [q] at e; exact absurd rfl e
    have nin := get_none.mp n
    rw [List.nodup_append]
    exact ⟨h, by simp, fun a ha c hc => by rw [List.mem_singleton.mp hc]; rintro rfl; exact nin ha⟩
theorem mem_put {kvs : List (Str × β)} {k : Str} {v : β} {p : Str × β} (h : p ∈ putS kvs k v) : p = (k, v) ∨ p ∈ kvs := by
  cases e : (getS kvs k).isSome with
  | true =>
    rw [putS_has e] at h
    obtain ⟨q, hq, rfl⟩ := List.mem_map.mp h
    by_cases z : q.1 = k
    · rw [if_pos z, z]
      exact Or.inl rfl
    · rw [if_neg z]
      exact Or.inr hq
  | false =>
    rw [putS_new e] at h
    rcases List.mem_append.mp h with h | h
    · exact Or.inr h
    · exact Or.inl (List.mem_singleton.mp h)
theorem get_put {kvs : List (Str × β)} {k j : Str} {v : β} : getS (putS kvs k v) j = if j = k then some v else getS kvs j := by
  induction kvs with
  | nil =>
    show (if k = j then some v else none) = _
    by_cases e : j = k
    · rw [if_pos e, if_pos e.symm]
    · rw [if_neg e, if_neg (fun h => e h.symm)]
      rfl
  | cons p r ih =>
    unfold putS
    by_cases e : p.1 = k
    · rw [if_pos e]
      by_cases z : j = k
      · rw [if_pos z, getS, if_pos (by rw [z]; exact e)]
      · rw [if_neg z, getS, getS, if_neg (by rw [e]; exact fun h => z h.symm), if_neg (by rw [e]; exact fun h => z h.symm)]
        have mp : ∀ l : List (Str × β), getS (l.map fun q => if q.1 = k then (q.1, v) else q) j = getS l j := by
          intro l
          induction l with
          | nil => rfl
          | cons q l il =>
            rw [List.map_cons, getS, getS, il]
            by_cases w : q.1 = k
            · rw [if_pos w, if_neg (by show ¬ q.1 = j; rw [w]; exact fun h => z h.symm), if_neg (by rw [w]; exact fun h => z h.symm)]
            · rw [if_neg w]
        exact mp r
    · rw [if_neg e, getS, getS, ih]
      by_cases z : p.1 = j
      · rw [if_pos z, if_pos z, if_neg (by rw [← z]; exact e)]
      · rw [if_neg z, if_neg z]
theorem len_put (kvs : List (Str × β)) (k : Str) (v : β) : (putS kvs k v).length ≤ kvs.length + 1 := by
  cases e : (getS kvs k).isSome with
  | true => rw [putS_has e, List.length_map]; omega
  | false => rw [putS_new e, List.length_append]; exact Nat.le_refl _
end
/-- some different texts out of a row are no more than the row -/
theorem few_of : ∀ {xs ys : List Str}, xs.Nodup → (∀ x ∈ xs, x ∈ ys) → xs.length ≤ ys.length
  | [], _, _, _ => Nat.zero_le _
  | x :: r, ys, nd, h => by
    obtain ⟨nx, nr⟩ := List.nodup_cons.mp nd
    have mx := h x List.mem_cons_self
    have ih := few_of (ys := ys.erase x) nr fun y hy => (List.mem_erase_of_ne (by rintro rfl; exact nx hy)).mpr (h y (List.mem_cons_of_mem _ hy))
    rw [List.length_erase_of_mem mx] at ih
    have : 0 < ys.length := List.length_pos_of_mem mx
    rw [List.length_cons]
    omega
end Pg

/-! Texts in their order: sorted of any number, and rows that rise. -/
namespace Pg
open PySem PySem.Spec PyProof.Rows L2
section
variable {X : Cx}
/-- sorted(l), l a row of texts of any length: the same texts, in order, in a new row -/
def rSortedSA (K : PySem.W.Frag) : List V → Hp → VK → Prop := fun args H Q =>
  ∃ (l : Addr) (texts : List Str), args = [.ref l] ∧ SqL K H l (texts.map V.str) ∧
    ∀ (inOrder : List Str) (new : Addr), inOrder.Perm texts → sortedS inOrder = true → H new = none →
      Q (.ref new) (upd H new (.lst (inOrder.map V.str)))
theorem cr_sortedSA : CallR X (.builtin "sorted") (rSortedSA X.K) := by
  rintro pins s σ H args vals Q I rel ⟨l, texts, rfl, at_l, want⟩
  obtain ⟨items, same, isl, small⟩ := I.list at_l
  rw [Vals.ref1 rel]
  have size := same.length
  apply PyProof.Rows.sorted_strsAny isl.isList same.strs (by rw [← size]; exact small)
  intro out inOrder areTexts perm order
  obtain ⟨extra, made⟩ := PyProof.Rows.sortedAll_at s.heap items out
  have isNew : H (s.heap.objs.size + 1) = none := I.hok.fresh (Nat.le_succ _)
  have fits : (inOrder.map V.str).length ≤ sizeLine := by
    rw [List.length_map] at small ⊢
    rw [perm.length_eq]
    exact small
  refine ⟨V.ref (s.heap.objs.size + 1), upd H (s.heap.objs.size + 1) (.lst (inOrder.map V.str)), ?_, rfl, ?_⟩
  · apply I.laid (t' := s.toks) (fun _ _ old => PyProof.Rows.sortedAll_old old) (Nat.le_succ _)
    exact ⟨fits, out.toList, extra, vals_of_strs areTexts, made⟩
  · exact want inOrder _ perm order isNew
end
theorem lc_irr : ∀ a : List Nat, ltCps a a = false
  | [] => rfl
  | x :: r => by simp [ltCps, lc_irr r]
theorem lc_trans : ∀ {a b c : List Nat}, ltCps a b = true → ltCps b c = true → ltCps a c = true
  | [], [], _, h, _ => by cases h
  | [], _ :: _, [], _, h => by cases h
  | [], _ :: _, _ :: _, _, _ => rfl
  | _ :: _, [], _, h, _ => by cases h
  | _ :: _, _ :: _, [], _, h => by cases h
  | x :: a, y :: b, z :: c, h, k => by
    simp only [ltCps, Bool.or_eq_true, decide_eq_true_eq, Bool.and_eq_true, beq_iff_eq] at h k ⊢
    rcases h with h | ⟨rfl, h⟩
    · rcases k with k | ⟨rfl, k⟩
      · exact Or.inl (by omega)
      · exact Or.inl h
    · rcases k with k | ⟨rfl, k⟩
      · exact Or.inl k
      · exact Or.inr ⟨rfl, lc_trans h k⟩
theorem lc_tri : ∀ {a b : List Nat}, ltCps a b = false → ltCps b a = false → a = b
  | [], [], _, _ => rfl
  | [], _ :: _, h, _ => by cases h
  | _ :: _, [], _, h => by cases h
  | x :: a, y :: b, h, k => by
    simp only [ltCps, Bool.or_eq_false_iff, decide_eq_false_iff_not, Bool.and_eq_false_iff, beq_eq_false_iff_ne] at h k
    have e : x = y := by omega
    subst e
    rw [lc_tri (h.2.resolve_left fun q => q rfl) (k.2.resolve_left fun q => q rfl)]
/-- x stands ahead of y -/
def ahead (x y : Str) : Bool := ltCps (cd x) (cd y)
theorem ahead_irr (x : Str) : ahead x x = false := lc_irr _
theorem ahead_trans {x y z : Str} (h : ahead x y = true) (k : ahead y z = true) : ahead x z = true := lc_trans h k
theorem ahead_tri {x y : Str} (h : ahead x y = false) (k : ahead y x = false) : x = y := cd_inj (lc_tri h k)
/-- each stands ahead of the next ones -/
def Rise (l : List Str) : Prop := l.Pairwise fun a b => ahead a b = true
def insS (x : Str) : List Str → List Str
  | [] => [x]
  | y :: r => if ahead x y = true then x :: y :: r else if x = y then y :: r else y :: insS x r
def rise (l : List Str) : List Str := l.foldr insS []
theorem mem_ins {x z : Str} : ∀ {l : List Str}, z ∈ insS x l ↔ z = x ∨ z ∈ l
  | [] => by simp [insS]
  | y :: r => by
    unfold insS
    split
    · simp
    · split
      · rename_i e
        subst e
        simp
      · rw [List.mem_cons, mem_ins, List.mem_cons]
        constructor
        · rintro (h | h | h)
          · exact Or.inr (Or.inl h)
          · exact Or.inl h
          · exact Or.inr (Or.inr h)
        · rintro (h | h | h)
          · exact Or.inr (Or.inl h)
          · exact Or.inl h
          · exact Or.inr (Or.inr h)
theorem rise_ins {x : Str} : ∀ {l : List Str}, Rise l → Rise (insS x l)
  | [], _ => List.pairwise_singleton _ _
  | y :: r, h => by
    obtain ⟨h1, h2⟩ := List.pairwise_cons.mp h
    unfold insS
    split
    · rename_i e
      refine List.pairwise_cons.mpr ⟨fun z hz => ?_, h⟩
      rcases List.mem_cons.mp hz with rfl | hz
      · exact e
      · exact ahead_trans e (h1 z hz)
    · split
      · exact h
      · rename_i e ne
        refine List.pairwise_cons.mpr ⟨fun z hz => ?_, rise_ins h2⟩
        rcases mem_ins.mp hz with rfl | hz
        · cases q : ahead y z with
          | true => rfl
          | false =>
            refine absurd (ahead_tri ?_ q) ne
            cases w : ahead z y with
            | false => rfl
            | true => exact absurd w e
        · exact h1 z hz
theorem rise_rise : ∀ l : List Str, Rise (rise l)
  | [] => List.Pairwise.nil
  | x :: r => rise_ins (rise_rise r)
theorem mem_rise {z : Str} : ∀ {l : List Str}, z ∈ rise l ↔ z ∈ l
  | [] => Iff.rfl
  | x :: r => by
    show z ∈ insS x (rise r) ↔ _
    rw [mem_ins, mem_rise, List.mem_cons]
/-- rows that rise and have the same texts are one -/
theorem rise_ext : ∀ {a b : List Str}, Rise a → Rise b → (∀ x, x ∈ a ↔ x ∈ b) → a = b
  | [], [], _, _, _ => rfl
  | [], y :: b, _, _, h => by cases (h y).mpr List.mem_cons_self
  | x :: a, [], _, _, h => by cases (h x).mp List.mem_cons_self
  | x :: a, y :: b, ha, hb, h => by
    obtain ⟨ha1, ha2⟩ := List.pairwise_cons.mp ha
    obtain ⟨hb1, hb2⟩ := List.pairwise_cons.mp hb
    have e : x = y := by
      rcases List.mem_cons.mp ((h x).mp List.mem_cons_self) with e | hx
      · exact e
      · rcases List.mem_cons.mp ((h y).mpr List.mem_cons_self) with e | hy
        · exact e.symm
        · have := ahead_trans (hb1 x hx) (ha1 y hy)
          rw [ahead_irr] at this
          cases this
    subst e
    rw [rise_ext ha2 hb2 fun z => ?_]
    constructor
    · intro hz
      rcases List.mem_cons.mp ((h z).mp (List.mem_cons_of_mem _ hz)) with e | hz2
      · rw [e] at hz
        have := ha1 x hz
        rw [ahead_irr] at this
        cases this
      · exact hz2
    · intro hz
      rcases List.mem_cons.mp ((h z).mpr (List.mem_cons_of_mem _ hz)) with e | hz2
      · rw [e] at hz
        have := hb1 x hz
        rw [ahead_irr] at this
        cases this
      · exact hz2
theorem rising_pw : ∀ {l : List Str} {p : Str}, risingS p l = true → (∀ x ∈ l, ahead x p = false) ∧ l.Pairwise fun a b => ahead b a = false
  | [], _, _ => ⟨fun x hx => (by cases hx), List.Pairwise.nil⟩
  | x :: r, p, h => by
    obtain ⟨h1, h2⟩ := Bool.and_eq_true_iff.mp h
    have hxp : ahead x p = false := by
      cases q : ahead x p with
      | false => rfl
      | true =>
        have h1 : (!ahead x p) = true := h1
        rw [q] at h1
        cases h1
    obtain ⟨k1, k2⟩ := rising_pw h2
    refine ⟨fun z hz => ?_, List.pairwise_cons.mpr ⟨k1, k2⟩⟩
    rcases List.mem_cons.mp hz with rfl | hz
    · exact hxp
    · have hzx := k1 z hz
      cases q : ahead z p with
      | false => rfl
      | true =>
        cases w : ahead p x with
        | true =>
          have := ahead_trans q w
          rw [hzx] at this
          cases this
        | false =>
          have e := ahead_tri hxp w
          rw [e] at hzx
          rw [hzx] at q
          cases q
theorem sorted_pw {l : List Str} (h : sortedS l = true) : l.Pairwise fun a b => ahead b a = false := by
  cases l with
  | nil => exact List.Pairwise.nil
  | cons x r =>
    obtain ⟨h1, h2⟩ := rising_pw (p := x) (l := r) h
    exact List.pairwise_cons.mpr ⟨h1, h2⟩
/-- the next of a sorted row, if it is new, rises behind what stands -/
theorem rise_snoc {rs ys : List Str} {j : Nat} {y : Str} (hr : Rise rs) (hm : ∀ x, x ∈ rs ↔ x ∈ ys.take j) (hs : sortedS ys = true) (hy : ys[j]? = some y) (nin : y ∉ rs) : Rise (rs ++ [y]) := by
  refine List.pairwise_append.mpr ⟨hr, List.pairwise_singleton _ _, fun a ha b hb => ?_⟩
  rw [List.mem_singleton.mp hb]
  have pw := sorted_pw hs
  have ha2 := (hm a).mp ha
  obtain ⟨i, hi⟩ := List.getElem?_of_mem ha2
  have hij : i < j := by
    by_cases lt : i < j
    · exact lt
    · rw [List.getElem?_eq_none (by rw [List.length_take]; omega)] at hi
      cases hi
  rw [List.getElem?_take_of_lt hij] at hi
  have li : i < ys.length := by
    by_cases lt : i < ys.length
    · exact lt
    · rw [List.getElem?_eq_none (by omega)] at hi
      cases hi
  have lj : j < ys.length := by
    by_cases lt : j < ys.length
    · exact lt
    · rw [List.getElem?_eq_none (by omega)] at hy
      cases hy
  have e1 : ys[i] = a := by
    rw [List.getElem?_eq_getElem li] at hi
    exact Option.some.inj hi
  have e2 : ys[j] = y := by
    rw [List.getElem?_eq_getElem lj] at hy
    exact Option.some.inj hy
  have h := (List.pairwise_iff_getElem.mp pw) i j li lj hij
  rw [e1, e2] at h
  cases q : ahead a y with
  | true => rfl
  | false => exact absurd (ahead_tri h q) (by rintro rfl; exact nin ha)
end Pg

/-! The package's own error with a field: OutOfRange(name), whose __init__ hands a text on to its base's and keeps the name. -/
namespace PySem
namespace OorX
open PySem.W PySem.Calls PyProof.Rows PySem.HandSPX
def iA (p1 p2 : Pos) : Arguments := { posonlyargs := [], args := [{ arg := "self", annotation := none, pos := p1 }, { arg := "name", annotation := none, pos := p2 }], vararg := none, kwonlyargs := [], kw_defaults := [], kwarg := none, defaults := [] }
def behindS : Str := " is out of range"
/-- the text that is handed on -/
def jS (q0 q1 q2 q3 : Pos) : Expr := .JoinedStr [.FormattedValue (.Name "name" q0) (-1) none q1, .Constant (.str behindS) 0 q2] q3
def s1 (j : Expr) (r1 r2 r3 r4 r5 : Pos) : Stmt := .Expr (.Call (.Attribute (.Call (.Name "super" r1) [] [] r2) "__init__" r3) [j] [] r4) r5
def s2 (q1 q2 q3 q4 : Pos) : Stmt := .Assign [.Attribute (.Name "self" q1) "name" q2] (.Name "name" q3) q4
def iS : Scope := { kind := .function, names := [(PySem.Str.ofString "self", .local), (PySem.Str.ofString "name", .local), (PySem.Str.ofString "__class__", .free), (PySem.Str.ofString "super", .globalImplicit)], isGenerator := false, isCoroutine := false, more := [] }
/-- what the written part says of OutOfRange, at C, and of its __init__, at fI -/
structure OorTxt (prog : Program) (K : Frag) (mg : Str → Option Value) (C fI : Addr) : Prop where
  gC : mg "OutOfRange" = some (.ref C)
  gS : mg "super" = none
  cls : ∃ nm q N bs bm sn sub ab col dd k0 k1 k2 k3 k5, K.lookup C = some (excClassObj nm q C N bs bm true sn sub ab col dd k0 k1 k2 k3 k5 "ValueError.__new__") ∧ refsVE bm = true
  sa : findIn K (.ref C) "__setattr__" = some (some (.builtin "object.__setattr__"))
  ga : findIn K (.ref C) "__getattribute__" = some (some (.builtin "BaseException.__getattribute__"))
  gg : findIn K (.ref C) "__getattr__" = some none
  noN : findIn K (.ref C) "name" = some none
  iC : findIn K (.ref C) "__init__" = some (some (.ref fI))
  tC : typeIn K (.ref fI) = some (.type "function")
  kC : keepIn K (.ref C) = true
  exC : subIn K (.ref C) (.type "BaseException") = some true
  veC : subIn K (.ref C) (.type "ValueError") = some true
  tyC : typeIn K (.ref C) = some (.type "type")
  hdC : hasDictIn K C = true
  te : exmOne K (.ref C) (.ref C) = some true
  opq : nsIn K cStatics "thirdparty.any" = some none
  sup : ks_superIn K C C "__init__" = some (some (.builtin "ValueError.__init__"))
  own : mroIn K C (.ref C) = some true
  top : (prog.main.scope.names.lookup ("super" : Str)).isSome = false
  fn : ∃ (oc : Value) (od : Option Addr) (doc pm : Value) (an : Option Addr) (cc cda : Addr) (ct : Value) (osl : Array (Option Value)) (p1 p2 q0 q1 q2 q3 r1 r2 r3 r4 r5 u1 u2 u3 u4 : Pos),
    K.lookup fI = some ⟨oc, od, .func (ksFn "__init__" "OutOfRange.__init__" (iA p1 p2) [s1 (jS q0 q1 q2 q3) r1 r2 r3 r4 r5, s2 u1 u2 u3 u4] iS .none .none doc pm an (.ref cda) ct cc), osl⟩ ∧ codeIn K (.ref cda) "OutOfRange.__init__" = true ∧
    (∃ (ccl : Value) (cdd : Option Addr) (vs : Array Value) (ccs : Array (Option Value)) (file : Str) (tf : Tok), K.lookup cda = some ⟨ccl, cdd, .fields vs, ccs⟩ ∧ vs[2]? = some (.str file tf) ∧ ((prog.main.file : Str) == file) = true) ∧ (r3.endLine == r4.line) = true ∧
    ∃ (cl : Value) (cld : Option Addr) (csl : Array (Option Value)), K.lookup cc = some ⟨cl, cld, .cell (some (.ref C)), csl⟩
/-- what __init__ leaves of a fresh exception at x -/
structure InitEnd (h h' : Heap) (x C dx t1 : Addr) (v : Value) : Prop where
  keep : ∀ b o, b ≠ x → h.get? b = some o → h'.get? b = some o
  obj : h'.get? x = some { cls := .ref C, dict := some dx, data := .fields #[.ref t1, .none, .none, .none, .bool false, .none] }
  dbig : h.objs.size ≤ dx
  dne : dx ≠ x
  ns : h'.Ns1 dx (fun y => if y = "name" then some v else none)
section
variable {prog : Program} {w : World} {A : Around} {E : Value → Shared → Prop} {R : Result → Shared → Prop} {s : Shared} {K : Frag} {mg mb : Str → Option Value} {C fI : Addr}
/-- a bound __init__, called with one written text -/
theorem call1 {M : Model} {pos jp : Pos} {env : Env} {vals : List Expr} {u x : Addr} {i : String} {Q : Value → Shared → Prop}
    (h : wpAny M A (spliced (backTo pos (starEach [.JoinedStr vals jp] env)))
      (fun vs s₁ => KxsAt i u x s₁.heap ∧ wpAny M A (call (.ref u) vs) Q E s₁) E s) :
    wpAny M A (callWith pos (.ref u) [] (backTo pos (starEach [.JoinedStr vals jp] env)) []) Q E s := by
  have one : starEach [.JoinedStr vals jp] env = [(false, eval (.JoinedStr vals jp) env)] := rfl
  rw [one] at h ⊢
  exact kxs_callWith (i := i) (x := x) rfl (evalArgs_plain h)
theorem run_bound {u x t0 : Addr} {v : Value} {nm q : Str} {N : Addr} {bs bm : List Value} {sn : List Str} {sub : List Value} {ab : Bool} {col : Option Bool} {dd : Option Addr} {k0 k1 k2 k3 k5 : Option Value} {Q : Value → Shared → Prop}
    (hC : s.heap.get? C = some (excClassObj nm q C N bs bm true sn sub ab col dd k0 k1 k2 k3 k5 "ValueError.__new__")) (hu : s.heap.get? u = some (kxs_mw "ValueError.__init__" x)) (hx : s.heap.get? x = some (excO C t0))
    (h : ∀ h', (∀ b o, b ≠ x → s.heap.get? b = some o → h'.get? b = some o) → h'.get? x = some (excO C s.heap.objs.size) → Q .none { s with heap := h' }) :
    wpAny (model prog w) A (call (.ref u) [v]) Q E s := by
  obtain ⟨hh, g, d, tk, os⟩ := s
  refine wpAny_call (codeAny_of_tree ?_)
  show wpAny _ A.in1 (callAny (.ref u) ⟨[v], []⟩) _ _ _
  simp only [callAny]
  refine wpAny_bind (wpAny_load hu ?_)
  have wrapper : ∀ b : Bool, (b || (Value.type "method-wrapper" == Value.type "method-wrapper")) = true := by decide
  simp only [kxs_mw, wrapper, if_true]
  refine KFB.if_so (by decide) ?_
  refine wpAny_bind (check_bound_init F.excBase_ValueError.toExcCallFacts hC hx rfl ?_)
  refine wpAny_bind (wpAny_pure (wpAny_pure ?_))
  refine ⟨plainId_quiet F.excBase_ValueError.init.plain _, codeAny_builtin F.excBase_ValueError.initEntry ?_⟩
  exact exc_init_tree (cls := .ref C) (t0 := t0) (dv := none) (c2 := .none) (c3 := .none) (b4 := .bool false) hx (by rw [sizeLine_eq]; exact (by decide : 1 ≤ 16777216)) fun h' k e _ => h h' k e
theorem oor_init (T : OorTxt prog K mg C fI) {x t0 : Addr} {z : Str} {tz : Tok} (hz : z.length ≤ 1000) (X : K.In s.heap) (G : s.heap.Ns mainGlobals mg) (B : s.heap.Ns builtinsNs mb) (hsup : mb "super" = some (.type "super")) (hlim : s.heap.NoLimit)
    (hx : s.heap.get? x = some (excO C t0)) (hnx : K.lookup x = none) (hroom : A.depth < recursionLimit)
    (hq : ∀ h' tk dx t1, InitEnd s.heap h' x C dx t1 (.str z tz) → R (.ok (.ret .none)) { s with heap := h', toks := tk }) :
    codeAny (model prog w) A (.call (.ref fI) ⟨[.ref x, .str z tz], []⟩) R s := by
  obtain ⟨oc, od, doc, pm, an, cc, cda, ct, osl, p1, p2, q0, q1, q2, q3, r1, r2, r3, r4, r5, u1, u2, u3, u4, ho, hcd, ⟨ccl, cdd, vs, ccs, file, tf, hcode, hvs, hfile⟩, ln, cl, cld, csl, hcell⟩ := T.fn
  obtain ⟨nm, q, N, bs, bm, sn, sub, ab, col, dd, k0, k1, k2, k3, k5, hC, hbm⟩ := T.cls
  have hcl : clsIn K C = some { name := nm, bases := bs, mro := .ref C :: bm, ns := N, qualname := q, hasDict := true, slotNames := sn, subclasses := sub, abstract := ab, collection := col, hasDel := false } := by unfold clsIn; rw [hC] <;> rfl
  refine ks_codeAny_call_defAt (fd := ksFn "__init__" "OutOfRange.__init__" (iA p1 p2) [s1 (jS q0 q1 q2 q3) r1 r2 r3 r4 r5, s2 u1 u2 u3 u4] iS .none .none doc pm an (.ref cda) ct cc) (binds := [("self", .ref x), ("name", .str z tz)]) hroom (X _ _ ho) rfl hlim (codeRec_of X hcd) rfl
    (BindsTo.of_eq (by first | rfl | with_unfolding_all rfl)) (fun y hy => by
      have : ∀ y ∈ iS.names, y.2 ≠ .cell := by decide
      exact this y hy) (fun y hy => by
      have : ∀ y ∈ ["self", "name"], iS.names.lookup (y : Str) = some .local := by decide +kernel
      rcases List.mem_cons.mp hy with rfl | hy
      · exact this _ (.head _)
      · rcases List.mem_cons.mp hy with rfl | hy
        · exact this _ (.tail _ (.head _))
        · cases hy) (fun h₁ hns kk => ?_)
  have X₁ : K.In h₁ := X.keeps kk
  have hx₁ := kk _ _ hx
  refine ks_wpAt_execs_cons (ks_wpAt_Expr_any ?_)
  refine' ks_wpAt_MethodCall (pl := ?pl) ?big ?he
  rotate_left
  case he =>
    rw [arm_eval_Call]
    have hpos : ∀ o env, methodCallPos true o env r3 r4 = pure r4 := fun o env => by
      unfold methodCallPos
      rw [ln]
      rfl
    unfold methodCall
    have hform : ∀ (j : Expr) (env : Env), methodCallForm ([j].length + ([] : List Keyword).length) (backTo r4 (starEach [jS q0 q1 q2 q3] env)) (backToKw r4 (keywordEach [] env)) = true := fun j env => by rfl
    simp only [hform, hpos, pure_bind]
    rfl
  have go := X₁ _ _ ho
  have gcode := X₁ _ _ hcode
  have gcell := X₁ _ _ hcell
  have gC := X₁ _ _ hC
  refine ks_wpAt_super_base (env := ksEnv "OutOfRange.__init__" iS s.heap.objs.size fI (.ref cda) cc) (s := ⟨h₁, _, _, _, _⟩) (attr := "__init__") (f := fI) (cc := cda) (ar := { arg := "self", annotation := none, pos := p1 }) rfl rfl (by decide) rfl go rfl rfl rfl gcode rfl hvs hfile T.top ?_
  refine ks_loadName_global rfl rfl (loadGlobal_builtin (G.keeps kk) T.gS (B.keeps kk) hsup ⟨rfl, ?_⟩)
  refine wpAny_loadName_free rfl rfl rfl ⟨_, gcell, rfl⟩ ?_
  refine wpAny_loadName_local rfl rfl hns rfl ?_
  refine ks_wpAny_isType_cls gC rfl ⟨rfl, ?_⟩
  refine ks_wpAny_call_super gC rfl hx₁ rfl (by intro c e; cases e) (looks_mroIn X₁ T.own) (fun h₂ hso k₂ => ?_)
  have X₂ : K.In h₂ := X₁.keeps k₂
  have I₂ : InstAt h₂ x (excO C t0) C none := ⟨k₂ _ _ hx₁, rfl, rfl, trivial⟩
  have hI : Looks (model prog w) h₂ (isInstance (.ref x) (.type "ValueError")) true := I₂.type.andThen (looks_subIn X₂ T.veC)
  have along : alongIn K "__init__" (((Value.ref C :: bm).dropWhile (· != .ref C)).drop 1) = some (some (.builtin "ValueError.__init__")) := by
    have q := T.sup
    unfold ks_superIn at q
    rw [hcl] at q
    exact q
  refine kxs_getMethod kxs_ValueError hso (looks_opaque X₂ T.opq) (l₀ := .ref C :: bm) (fun A Q E s k q => wpAny_bind ((looks_clsIn X₂ hcl) A _ E s k (wpAny_pure q))) rfl X₂ along hI (ks_ne X₂ I₂ hcl) (by decide) ?_
  have k₃ : ∀ b o, h₂.get? b = some o → (h₂.push (kxs_mw "ValueError.__init__" x)).get? b = some o := fun b o e => Heap.get?_push_of_some _ e
  have hu : (h₂.push (kxs_mw "ValueError.__init__" x)).get? h₂.objs.size = some (kxs_mw "ValueError.__init__" x) := Heap.get?_push_at rfl rfl
  have hns₃ := hns.keeps fun b o e => k₃ b o (k₂ b o e)
  generalize hh3 : h₂.push (kxs_mw "ValueError.__init__" x) = h₃ at *
  refine call1 (i := "ValueError.__init__") (x := x) ?_
  refine args_cons ?_
  refine wpAny_JoinedStr ?_
  refine wpAny_FormattedValue_plain (wpAny_Name (wpAny_loadName_local rfl rfl hns₃ rfl ?_) (by decide))
  have lz : z.length ≤ sizeLine := Nat.le_trans hz (by decide)
  refine wpAny_mono (Q := fun v s' => ∃ t tk, v = .str z t ∧ s' = ({ heap := h₃, gens := s.gens, drawn := s.drawn, toks := tk, os := s.os } : Shared)) (E := fun _ _ => False) (wpAny_formatField_str ⟨_, _, rfl, rfl⟩ ⟨_, _, rfl, rfl⟩ lz) (fun v s' hv => ?_) (fun _ _ e => e.elim)
  obtain ⟨t1, tk1, rfl, rfl⟩ := hv
  have l1 : (Str.empty ++ z).length ≤ 1000 := by
    show (#[] ++ z.cps).size ≤ 1000
    rw [Array.empty_append]
    exact hz
  have l2 : ((Str.empty ++ z) ++ behindS).length ≤ 2000 := by
    have e : ((Str.empty ++ z) ++ behindS).length = (Str.empty ++ z).length + behindS.length := by
      show ((Str.empty ++ z).cps ++ behindS.cps).size = _
      rw [Array.size_append]
      rfl
    have e2 : behindS.length = 16 := by decide +kernel
    omega
  refine ⟨z, t1, rfl, Nat.le_trans l1 (by decide), ?_⟩
  refine wpAny_Constant_str ?_
  refine ⟨behindS, _, rfl, Nat.le_trans l2 (by decide), ?_⟩
  refine ⟨Nat.le_trans l2 (by decide), ?_⟩
  refine args_nil ?_
  refine ⟨hu, ?_⟩
  refine run_bound (C := C) (t0 := t0) ((X₂.keeps k₃) _ _ hC) hu (k₃ _ _ (k₂ _ _ hx₁)) (fun h₄ k₄ e₄ => ?_)
  refine wpAt_of_wpAny ?_
  have hns₄ : h₄.Ns s.heap.objs.size (fun y => List.lookup y [(Str.ofString "self", Value.ref x), (Str.ofString "name", Value.str z tz)].reverse) := by
    obtain ⟨oL, es, ep, hL, r⟩ := hns₃
    exact ⟨oL, es, ep, k₄ _ _ (Nat.ne_of_gt (Heap.lt_size hx)) hL, r⟩
  have kx : ∀ b o, b ≠ x → s.heap.get? b = some o → h₄.get? b = some o := fun b o hb e => k₄ b o hb (k₃ b o (k₂ b o (kk b o e)))
  have X₄ : K.In h₄ := fun a o e => kx a o (fun zz => by rw [zz, hnx] at e; cases e) (X a o e)
  refine wpAny_execs_cons (plainObj_wpAny_Assign_Attribute ?_)
  refine wpAny_Name (wpAny_loadName_local rfl rfl hns₄ rfl ?_) (by decide)
  refine wpAny_Name (wpAny_loadName_local rfl rfl hns₄ rfl ?_) (by decide)
  refine set_plain X₄ (ox := excO C h₃.objs.size) (od := none) ⟨e₄, rfl, rfl, trivial⟩ T.sa ?_
  refine exc_osa X₄ e₄ hcl (show refsVE (.ref C :: bm) = true from hbm) rfl T.noN (fun h₅ tk₅ dx k₅ dn dne hx₅ hn₅ => ?_)
  show wpAny _ _ (execs _ _) _ _ _
  exact wpAny_execs_nil (hq h₅ tk₅ dx _ ⟨fun b o hb e => k₅ b o hb (kx b o hb e), hx₅, Nat.le_of_lt (Nat.lt_of_lt_of_le hns₄.lt dn), dne, hn₅⟩)
/-- a made OutOfRange -/
structure OwnMade (h h' : Heap) (e C d : Addr) (v : Value) : Prop where
  keep : ∀ b o, h.get? b = some o → h'.get? b = some o
  new : h.objs.size ≤ e
  obj : ∃ oe vs, h'.get? e = some oe ∧ oe.cls = .ref C ∧ oe.dict = some d ∧ oe.data = .fields vs ∧ vs[1]? = some .none
  dbig : h.objs.size ≤ d
  dne : d ≠ e
  ns : h'.Ns1 d (fun y => if y = "name" then some v else none)
theorem oor_made (T : OorTxt prog K mg C fI) {z : Str} {tz : Tok} (hz : z.length ≤ 1000) (X : K.In s.heap) (G : s.heap.Ns mainGlobals mg) (B : s.heap.Ns builtinsNs mb) (hsup : mb "super" = some (.type "super")) (hlim : s.heap.NoLimit) (hroom : A.depth + 1 < recursionLimit)
    (hq : ∀ h' tk e d, OwnMade s.heap h' e C d (.str z tz) → R (.ok (.ret (.ref e))) { s with heap := h', toks := tk }) :
    codeAny (model prog w) A (.call (.ref C) ⟨[.str z tz], []⟩) R s := by
  obtain ⟨nm, q, N, bs, bm, sn, sub, ab, col, dd, k0, k1, k2, k3, k5, hC, hbm⟩ := T.cls
  obtain ⟨hp, g, dr, tk, os⟩ := s
  have k : ∀ b o, hp.get? b = some o → ((hp.push (kdv_tup [.str z tz])).push (excO C hp.objs.size)).get? b = some o := fun b o e => Heap.get?_push_of_some _ (Heap.get?_push_of_some _ e)
  have hget : ((hp.push (kdv_tup [.str z tz])).push (excO C hp.objs.size)).get? (hp.objs.size + 1) = some (excO C hp.objs.size) := by heap_get
  have hnx : K.lookup (hp.objs.size + 1) = none := by
    cases e : K.lookup (hp.objs.size + 1) with
    | none => rfl
    | some o =>
      have q : hp.get? (hp.objs.size + 1) = some o := X _ _ e
      exact absurd (Nat.lt_of_succ_lt (Heap.lt_size q)) (Nat.lt_irrefl _)
  refine call_own F.excBase_ValueError (fun X => refsVE_contains X bm hbm) (X _ _ hC) (looks_findIn X T.iC) (fun self => bind_fn X self T.tC) (by rw [sizeLine_eq]; exact (by decide : 1 ≤ 16777216)) ?_
  refine oor_init (s := ⟨(hp.push (kdv_tup [.str z tz])).push (excO C hp.objs.size), g, dr, tk, os⟩) T hz (X.keeps k) (G.keeps k) (B.keeps k) hsup (hlim.keeps k) hget hnx ?_ fun h' tk' dx t1 ⟨k', hx, dn, dne, hns⟩ => ?_
  · show A.depth + 1 < recursionLimit
    exact hroom
  · have old : ∀ b o, hp.get? b = some o → h'.get? b = some o := fun b o e => k' b o (Nat.ne_of_lt (Nat.lt_succ_of_lt (Heap.lt_size e))) (k b o e)
    have big : hp.objs.size + 1 + 1 ≤ dx := by
      first
        | (simpa only [Heap.size_push] using dn)
        | exact dn
        | (have q := dn; rw [Heap.size_push, Heap.size_push] at q; exact q)
    exact ⟨rfl, hq h' tk' (hp.objs.size + 1) dx ⟨old, Nat.le_succ _, ⟨_, _, hx, rfl, rfl, rfl, rfl⟩, Nat.le_trans (Nat.le_trans (Nat.le_succ _) (Nat.le_succ _)) big, dne, hns⟩⟩
end
end OorX
end PySem
namespace Pg
open PySem PySem.Spec PyProof.Rows L2 PySem.OorX
theorem relO_oor {v : V} {v' : Value} (r : RelV v v') (f : Str) : RelO (List.lookup f [(("name" : Str), v)]) (if f = "name" then some v' else none) := by
  by_cases hw : f = "name"
  · subst hw
    rw [if_pos rfl]
    have q : List.lookup ("name" : Str) [(("name" : Str), v)] = some v := by simp [List.lookup]
    rw [q]
    exact r
  · rw [if_neg hw]
    have qw : (f == ("name" : Str)) = false := by simpa using hw
    have q2 : List.lookup f [(("name" : Str), v)] = none := by simp [List.lookup, qw]
    rw [q2]
    trivial
section
variable {X : Cx} {C fI : Addr}
/-- OutOfRange(e) -/
def tMkOor (C : Addr) (ta : TA) : L2.St → Hp → XK → Prop := fun σ H Q => ta σ H fun vs H1 => ∃ z : Str, vs = [.str z] ∧ z.length ≤ 1000 ∧ ∀ d, H1 d = none → Q (.ref C) (some d) (upd H1 d (.xd [(("name" : Str), .str z)]))
theorem pmk_oor {a : Expr} {ta : TA} {p pos : Pos} {k : Nat} (T : OorTxt X.prog X.K X.mg C fI) (hr : Room k X.A) (ha : PA X [a] ta) (hg : Gl X "OutOfRange" := by rfl)
    (he : starEach (a :: []) X.env = (false, eval a X.env) :: starEach [] X.env := by rfl) (hpl : (backTo pos (starEach [] X.env)).any (·.1) = false := by rfl) :
    PMk X (.Call (.Name "OutOfRange" p) [a] [] pos) (tMkOor C ta) := by
  intro pins s σ H Q I h
  refine wpAny_Call_Name_kw (ld_glob I hg T.gC ?_)
  refine PySem.W.callWith_K (h₀ := X.base) I.ok.mod.kin T.kC (thn (ha.run pos pins s σ H _ I h) fun us s1 hh => ?_) he hpl
  obtain ⟨vs, H1, I1, r1, z, ev, hz, q1⟩ := hh
  subst ev
  refine ⟨I1.kIn, ?_⟩
  cases r1 with
  | cons rv rn =>
    rename_i v' us'
    cases rn
    obtain ⟨tz, rfl⟩ := rv
    show wpAny _ _ (call (.ref C) [.str z tz]) _ _ _
    have hlim := I1.nolimit
    obtain ⟨mb, hb1, hb2⟩ := I1.mod.blt
    have G1 := I1.mod.glob.keeps I1.bk
    have B1 := hb1.keeps I1.bk
    have hsup : mb "super" = some (.type "super") := (hb2 _ (by decide)).trans (by kernel_rfl)
    obtain ⟨hp, g, dr, tk, os⟩ := s1
    refine wpAny_call (oor_made T hz I1.kIn G1 B1 hsup hlim (by have := hr.dp; omega) fun h' tk' e d M => ?_)
    show MkP X pins σ Q (.ref e) ⟨h', g, dr, tk', os⟩
    obtain ⟨oe, fv, hoe, hc, hd, hdat, h1⟩ := M.obj
    have hns := M.ns
    obtain ⟨G', g1, g2⟩ := restrict h' fun b => decide (b ≠ e)
    have gk : ∀ b, b ≠ e → G'.get? b = h'.get? b := fun b hb => g1 b (decide_eq_true hb)
    have ge : G'.get? e = none := g2 e (by simp)
    have old : ∀ b o, hp.get? b = some o → G'.get? b = some o := fun b o q => (gk b (Nat.ne_of_lt (Nat.lt_of_lt_of_le (Heap.lt_size q) M.new))).trans (M.keep b o q)
    have ob : ObjOk X.prog X.w (upd H1 d (.xd [(("name" : Str), V.str z)])) G' d (.xd [(("name" : Str), V.str z)]) :=
      ⟨_, hns.at (fun o q => (gk d M.dne).trans q), fun f => relO_oor (v := V.str z) (v' := Value.str z tz) ⟨tz, rfl⟩ f⟩
    have J : Inv X pins σ (upd H1 d (.xd [(("name" : Str), V.str z)])) ⟨G', g, dr, tk', os⟩ := I1.laid (t' := tk') old M.dbig ob
    refine ⟨e, oe, fv, ⟨G', g, dr, tk', os⟩, _, .ref C, some d, rfl, J, fun b o q => ?_, ge, hoe, ⟨hc, hd⟩, hdat, h1, ?_, rfl, I1.bare, raises_own T.exC T.tyC, q1 d (I1.hok.fresh M.dbig)⟩
    · by_cases hb : b = e
      · have q' : G'.get? b = some o := q
        rw [hb, ge] at q'; cases q'
      · exact (gk b hb).symm.trans q
    · rw [upd_ne (Ne.symm M.dne)]
      exact I1.hok.fresh M.new
/-- raise OutOfRange(e) -/
def tRaiseOor (C : Addr) (W : WX) (ta : TA) : TS := fun _ σ H => tMkOor C ta σ H fun cls d H' => W cls d σ H'
theorem ps_raiseOor {a : Expr} {ta : TA} {W : WX} {p pos pos2 : Pos} {k : Nat} (hc : X.calm = true) (T : OorTxt X.prog X.K X.mg C fI) (hr : Room k X.A) (tk : Takes X W) (ha : PA X [a] ta) (hg : Gl X "OutOfRange" := by rfl)
    (he : starEach (a :: []) X.env = (false, eval a X.env) :: starEach [] X.env := by rfl) (hpl : (backTo pos (starEach [] X.env)).any (·.1) = false := by rfl) :
    PS X (.Raise (some (.Call (.Name "OutOfRange" p) [a] [] pos)) none pos2) (tRaiseOor C W ta) := ps_raise hc tk (pmk_oor T hr ha hg he hpl)
/-- n.name, n the exception that the suite holds (at a; its class cls, its dict d) -/
def tNameOor (C : Addr) (a : Addr) (cls : Value) (d : Option Addr) (te : TE) : TE := fun σ H Q => te σ H fun x H1 => x = .ref a ∧ cls = .ref C ∧ ∃ (dd : Addr) (v : V), d = some dd ∧ H1 dd = some (.xd [(("name" : Str), v)]) ∧ Q v H1
theorem pe_nameOor {a : Addr} {oe : Obj} {cls : Value} {d : Option Addr} {pn : List (Addr × Obj)} {e : Expr} {te : TE} {pos : Pos} (T : OorTxt X.prog X.K X.mg C fI) (hz : Zc cls d oe) (hf : ∃ vs, oe.data = .fields vs) (he : PE (X.suite a ((a, oe) :: pn)) e te)
    (hb : attributeBase e "name" X.env (eval e X.env) = eval e X.env := by rfl) :
    PE (X.suite a ((a, oe) :: pn)) (.Attribute e "name" pos) (tNameOor C a cls d te) := by
  refine ⟨fun pins s σ H Q I h => ?_⟩
  refine attr_of hb (thn (he.run pins s σ H _ I h) fun u s1 hh => ?_)
  obtain ⟨x, H1, I1, rx, ex, ec, dd, v, ed, ea, q⟩ := hh
  subst ex
  obtain rfl : u = Value.ref a := rx
  subst ec
  subst ed
  obtain ⟨ha, _⟩ := I1.pin (a, oe) (List.mem_append_left _ List.mem_cons_self)
  obtain ⟨vs, hd⟩ := hf
  have hx : ObjOk X.prog X.w H1 s1.heap dd (.xd [(("name" : Str), v)]) := I1.hok dd _ ea
  obtain ⟨mA, hns, hr⟩ := hx
  obtain ⟨od, ho, hl⟩ := lookIn_ns hns
  have l : List.lookup ("name" : Str) [(("name" : Str), v)] = some v := by simp [List.lookup]
  obtain ⟨u, hu, ru⟩ := RelO.some_of (v := v) (o := mA "name") (by rw [← l]; exact hr "name")
  have J : PySem.W.InstAt s1.heap a oe C (some od) := ⟨ha, hz.1, by unfold PySem.W.notCls; rw [hd] <;> rfl, by rw [hz.2]; exact ho⟩
  exact HandSPX.exc_get I1.kIn J T.ga T.gg T.exC (PySem.W.findObj_own T.hdC T.noN rfl (by rw [hl, hu])) (handed_of ru) ⟨v, H1, I1.tok _, ru, q⟩
end
end Pg
namespace Pg
open PySem PySem.Spec PyProof.Rows L2
/-- a callee that may raise -/
def CalX (P : Program) (w : World) (K : PySem.W.Frag) (mg : Str → Option Value) (base : Heap) (x : Str) (k : Nat) (ps : List Str) (sp : Sp) : Prop :=
  ∃ f fd, FnOk P w K mg base (L2.CX P w) k f fd ps sp ∧ Binds K fd ps [] ∧ mg x = some (.ref f) ∧ PySem.W.keepIn K (.ref f) = true
section
variable {X : Cx} {k : Nat} {x : Str} {ps : List Str} {sp : Sp} {p pos : Pos} {e : Expr} {es : List Expr} {t : TA} {E : L2.St → XK}
theorem pe_calX (C : CalX X.prog X.w X.K X.mg X.base x k ps sp) (hr : Room k X.A) (hg : Gl X x) (hx : ∀ σ, PassesAt (L2.CX X.prog X.w) X σ (E σ)) (ha : PA X (e :: es) t) (hdb : (x == ("__debug__" : Str)) = false := by decide)
    (he : starEach (e :: es) X.env = (false, eval e X.env) :: starEach es X.env := by rfl) (hpl : (backTo pos (starEach es X.env)).any (·.1) = false := by rfl) :
    PE X (.Call (.Name x p) (e :: es) [] pos) (tCallS sp E t) := by
  obtain ⟨_, _, F, b, g, kp⟩ := C
  exact pe_callS F hr hg g kp b hx ha hdb he hpl
end
end Pg
namespace Pg
open PySem PySem.Spec PyProof.Rows L2
/-- an error of a class is what its own name names -/
theorem exm_self {K : PySem.W.Frag} {S : Addr} (h1 : PySem.W.subIn K (.ref S) (.type "BaseException") = some true) (h2 : PySem.W.isClsIn K S = true) (h3 : PySem.W.typeIn K (.ref S) = some (.type "type")) (h4 : PySem.W.subIn K (.ref S) (.ref S) = some true) :
    PySem.W.exmOne K (.ref S) (.ref S) = some true := by
  have e1 : (PySem.W.subIn K (.ref S) (.type "BaseException") == some true) = true := by rw [h1] <;> rfl
  have e2 : ((PySem.W.clsIn K S).isSome && PySem.W.typeIn K (.ref S) == some (.type "type")) = true := by
    have h2' : (PySem.W.clsIn K S).isSome = true := h2
    rw [h2', h3] <;> rfl
  show (if (PySem.W.subIn K (.ref S) (.type "BaseException") == some true) = true then (if ((PySem.W.clsIn K S).isSome && PySem.W.typeIn K (.ref S) == some (.type "type")) = true then PySem.W.subIn K (.ref S) (.ref S) else none) else none) = some true
  rw [if_pos e1, if_pos e2]
  exact h4
end Pg

/-! Own classes by their names; data that no store reaches. -/
namespace Pg
open PySem PySem.Spec PyProof.Rows L2
/-- a method of the class at C, with all its arguments given -/
def CalM (P : Program) (w : World) (K : PySem.W.Frag) (mg : Str → Option Value) (base : Heap) (C : Addr) (m : Str) (k : Nat) (ps : List Str) (sp : Sp) : Prop :=
  Cls K C ∧ ∃ f fd, FnOk P w K mg base CX0 k f fd ps sp ∧ Binds K fd ps [] ∧ Meth K C m f
/-- the class x at C, made by an __init__ of that promise -/
def CalK (P : Program) (w : World) (K : PySem.W.Frag) (mg : Str → Option Value) (base : Heap) (x : Str) (C : Addr) (k : Nat) (ps : List Str) (sp : Sp) : Prop :=
  mg x = some (.ref C) ∧ ∃ f fd, Mk K C f ∧ FnOk P w K mg base CX0 k f fd ps sp ∧ Binds K fd ps []
section
variable {X : Cx} {C : Addr} {k : Nat} {m x : Str} {ps : List Str} {sp : Sp} {o e : Expr} {es : List Expr} {to : TE} {t : TA} {apos pos p : Pos}
theorem pe_calM {pl : Sem Bool} (M : CalM X.prog X.w X.K X.mg X.base C m k ps sp) (hr : Room k X.A) (ho : PE X o to) (ha : PA X (e :: es) t)
    (hst : starEach (e :: es) X.env = (false, eval e X.env) :: starEach es X.env := by rfl) (hpl : (backTo pos (starEach es X.env)).any (·.1) = false := by rfl)
    (ht : eval (.Call (.Attribute o m apos) (e :: es) [] pos) X.env = (do
      let ov ← eval o X.env
      standAt apos.atName
      let (f, first) ← holding [ov] (getMethod ov m pl)
      callWith pos f first (backTo pos (starEach (e :: es) X.env)) (backToKw pos (keywordEach [] X.env))) := by rfl) :
    PE X (.Call (.Attribute o m apos) (e :: es) [] pos) (tMeth C m sp [] E0 to t) := by
  obtain ⟨c, f, fd, F, b, h⟩ := M
  exact pe_meth ho c h F hr b .nil pass0 ha hst hpl ht
theorem pe_calM0 {pl : Sem Bool} (M : CalM X.prog X.w X.K X.mg X.base C m k ps sp) (hr : Room k X.A) (ho : PE X o to)
    (ht : eval (.Call (.Attribute o m apos) [] [] pos) X.env = (do
      let ov ← eval o X.env
      standAt apos.atName
      let (f, first) ← holding [ov] (getMethod ov m pl)
      callWith pos f first (backTo pos (starEach [] X.env)) (backToKw pos (keywordEach [] X.env))) := by rfl) :
    PE X (.Call (.Attribute o m apos) [] [] pos) (tMeth C m sp [] E0 to tNil) := by
  obtain ⟨c, f, fd, F, b, h⟩ := M
  exact pe_meth0 ho c h F hr b .nil pass0 ht
theorem pe_mk0 (M : CalK X.prog X.w X.K X.mg X.base x C k ps sp) (hr : Room (k + 1) X.A) (hg : Gl X x) (hdb : (x == ("__debug__" : Str)) = false := by decide) : PE X (.Call (.Name x p) [] [] pos) (tMake C sp [] E0 tNil) := by
  obtain ⟨g, f, fd, mk, F, b⟩ := M
  exact pe_make0 mk F hr hg g b .nil pass0 hdb
theorem pe_mkA (M : CalK X.prog X.w X.K X.mg X.base x C k ps sp) (hr : Room (k + 1) X.A) (hg : Gl X x) (ha : PA X (e :: es) t) (hdb : (x == ("__debug__" : Str)) = false := by decide)
    (he : starEach (e :: es) X.env = (false, eval e X.env) :: starEach es X.env := by rfl) (hpl : (backTo pos (starEach es X.env)).any (·.1) = false := by rfl) :
    PE X (.Call (.Name x p) (e :: es) [] pos) (tMake C sp [] E0 t) := by
  obtain ⟨g, f, fd, mk, F, b⟩ := M
  exact pe_make mk F hr hg g b .nil pass0 ha hdb he hpl
end
theorem same_seqT {K : PySem.W.Frag} {H H' : Hp} {a : Addr} {xs : List V} (e : Same H H') (h : SqT K H a xs) : SqT K H' a xs := by
  rcases h with (h | ⟨o, h⟩) | h
  · exact .inl (.inl (e _ _ h))
  · exact .inl (.inr ⟨o, e _ _ h⟩)
  · exact .inr h
/-! ### data of tuples, texts, numbers: no store reaches it -/
/-- all tuples are as they were -/
def KeepT (K : PySem.W.Frag) (H H' : Hp) : Prop := ∀ a xs, SqT K H a xs → SqT K H' a xs
theorem Same.keepT {K : PySem.W.Frag} {H H' : Hp} (e : Same H H') : KeepT K H H' := fun _ _ h => same_seqT e h
theorem KeepT.trans {K : PySem.W.Frag} {H H1 H2 : Hp} (a : KeepT K H H1) (b : KeepT K H1 H2) : KeepT K H H2 := fun c xs h => b c xs (a c xs h)
/-- a store at an object that is no tuple -/
theorem KeepT.upd {K : PySem.W.Frag} {H : Hp} {p : Addr} {o : HO} (no : ∀ xs, H p ≠ some (.tup xs)) (nf : ∀ b xs, H p ≠ some (.frz b (.tup xs))) : KeepT K H (upd H p o) := by
  rintro a xs ((h | ⟨b, h⟩) | h)
  · exact .inl (.inl (by rw [upd_ne (by rintro rfl; exact no _ h)]; exact h))
  · exact .inl (.inr ⟨b, by rw [upd_ne (by rintro rfl; exact nf _ _ h)]; exact h⟩)
  · exact .inr h
mutual
def noL : PyData → Bool
  | .tuple ds => noLAll ds
  | .list _ => false
  | .dict _ => false
  | _ => true
def noLAll : List PyData → Bool
  | [] => true
  | d :: ds => noL d && noLAll ds
end
mutual
theorem Dp.keepT {K : PySem.W.Frag} {H H' : Hp} (k : KeepT K H H') : ∀ (d : PyData) (v : V), noL d = true → Dp K H v d → Dp K H' v d
  | .none, _, _, h => by cases h; exact .non
  | .bool b, _, _, h => by cases h; exact .bl b
  | .int i, _, _, h => by cases h; exact .int i
  | .str x, _, _, h => by cases h; exact .str x
  | .tuple ds, _, n, h => by
    cases h with
    | tup hs ha => exact .tup (k _ _ hs) (DpAll.keepT k ds _ n ha)
  | .list _, _, n, _ => by cases n
  | .dict _, _, n, _ => by cases n
theorem DpAll.keepT {K : PySem.W.Frag} {H H' : Hp} (k : KeepT K H H') : ∀ (ds : List PyData) (vs : List V), noLAll ds = true → DpAll K H vs ds → DpAll K H' vs ds
  | [], _, _, h => by cases h; exact .nil
  | d :: ds, _, n, h => by
    have n' : noL d = true ∧ noLAll ds = true := Bool.and_eq_true_iff.mp n
    cases h with
    | cons h1 h2 => exact .cons (Dp.keepT k d _ n'.1 h1) (DpAll.keepT k ds _ n'.2 h2)
end
/-! no truth value: equal as values is equal as data -/
mutual
def noB : PyData → Bool
  | .tuple ds => noBAll ds
  | .list ds => noBAll ds
  | .bool _ => false
  | .dict _ => false
  | _ => true
def noBAll : List PyData → Bool
  | [] => true
  | d :: ds => noB d && noBAll ds
end
mutual
theorem eqv_iff : ∀ (d e : PyData), noB d = true → noB e = true → (PyData.eqv d e = true ↔ d = e)
  | .none, e, _, n2 => by cases e <;> simp_all [PyData.eqv, noB]
  | .int i, e, _, n2 => by cases e <;> simp_all [PyData.eqv, noB]
  | .str x, e, _, n2 => by cases e <;> simp_all [PyData.eqv, noB]
  | .tuple ds, e, n1, n2 => by
    cases e with
    | tuple es =>
      rw [PyData.eqv, eqvAll_iff ds es n1 n2]
      exact ⟨fun h => by rw [h], fun h => PyData.tuple.inj h⟩
    | _ => simp_all [PyData.eqv, noB]
  | .list ds, e, n1, n2 => by
    cases e with
    | list es =>
      rw [PyData.eqv, eqvAll_iff ds es n1 n2]
      exact ⟨fun h => by rw [h], fun h => PyData.list.inj h⟩
    | _ => simp_all [PyData.eqv, noB]
  | .bool _, _, n1, _ => by cases n1
  | .dict _, _, n1, _ => by cases n1
theorem eqvAll_iff : ∀ (ds es : List PyData), noBAll ds = true → noBAll es = true → (PyData.eqvAll ds es = true ↔ ds = es)
  | [], [], _, _ => by simp [PyData.eqvAll]
  | [], _ :: _, _, _ => by simp [PyData.eqvAll]
  | _ :: _, [], _, _ => by simp [PyData.eqvAll]
  | d :: ds, e :: es, n1, n2 => by
    have n1' : noB d = true ∧ noBAll ds = true := Bool.and_eq_true_iff.mp n1
    have n2' : noB e = true ∧ noBAll es = true := Bool.and_eq_true_iff.mp n2
    rw [PyData.eqvAll, Bool.and_eq_true, eqv_iff d e n1'.1 n2'.1, eqvAll_iff ds es n1'.2 n2'.2]
    exact ⟨fun ⟨a, b⟩ => by rw [a, b], fun h => List.cons.inj h⟩
end
end Pg

/-! Data of a known size: what repr and == ask of it, put together from its parts. -/
namespace Pg
open PySem PySem.Spec PyProof.Rows L2
/-- at most D deep, at most M signs and parts -/
structure Sz (D M : Nat) (d : PyData) : Prop where
  ok : d.showable = true
  cl : d.canLay0 = true
  dep : d.depth ≤ D
  lv : d.leavesShort 13 = true
  bk : d.bulk ≤ M
structure SzA (D M : Nat) (ds : List PyData) : Prop where
  ok : PyData.showableAll ds = true
  cl : PyData.canLayAll0 ds = true
  dep : PyData.depthAll ds ≤ D
  lv : PyData.leavesShortAll 13 ds = true
  bk : PyData.bulkAll ds ≤ M
theorem Sz.mono {D D' M M' : Nat} {d : PyData} (s : Sz D M d) (h1 : D ≤ D') (h2 : M ≤ M') : Sz D' M' d := ⟨s.ok, s.cl, Nat.le_trans s.dep h1, s.lv, Nat.le_trans s.bk h2⟩
theorem SzA.mono {D D' M M' : Nat} {d : List PyData} (s : SzA D M d) (h1 : D ≤ D') (h2 : M ≤ M') : SzA D' M' d := ⟨s.ok, s.cl, Nat.le_trans s.dep h1, s.lv, Nat.le_trans s.bk h2⟩
theorem Sz.none : Sz 0 0 .none := ⟨rfl, rfl, Nat.le_refl _, rfl, Nat.le_refl _⟩
theorem Sz.bool (b : Bool) : Sz 0 0 (.bool b) := ⟨rfl, rfl, Nat.le_refl _, rfl, Nat.le_refl _⟩
theorem Sz.int {i : Int} (h1 : -999999999999 ≤ i) (h2 : i ≤ 999999999999) : Sz 0 0 (.int i) := by
  refine ⟨?_, rfl, Nat.le_refl _, ?_, Nat.le_refl _⟩
  · simp only [PyData.showable]
    refine decide_eq_true ?_
    by_cases z : i.natAbs = 0
    · rw [z]
      decide
    · refine (Nat.log2_lt z).mpr (Nat.lt_of_lt_of_le (show i.natAbs < 2 ^ 40 by omega) (Nat.pow_le_pow_right (n := 2) (by decide) (by decide)))
  · simp only [PyData.leavesShort]
    exact decide_eq_true (PyData.shown_int_le2 h1 h2)
theorem Sz.str {z : Str} {M : Nat} (c : Codes z) (l : z.length ≤ M) : Sz 0 M (.str z) := by
  refine ⟨rfl, ?_, Nat.le_refl _, ?_, ?_⟩
  · simp only [PyData.canLay0]
    exact c.ok
  · simp only [PyData.leavesShort]
    rw [List.all_eq_true]
    intro x hx
    have := c x hx
    exact decide_eq_true (by omega)
  · simp only [PyData.bulk]
    exact l
theorem SzA.nil {D : Nat} : SzA D 0 [] := ⟨rfl, rfl, Nat.zero_le _, rfl, Nat.le_refl _⟩
theorem SzA.cons {D M N : Nat} {d : PyData} {ds : List PyData} (a : Sz D M d) (b : SzA D N ds) : SzA D (M + 1 + N) (d :: ds) := by
  refine ⟨?_, ?_, ?_, ?_, ?_⟩
  · simp only [PyData.showableAll, a.ok, b.ok, Bool.and_true]
  · simp only [PyData.canLayAll0, a.cl, b.cl, Bool.and_true]
  · simp only [PyData.depthAll]
    exact Nat.max_le.mpr ⟨a.dep, b.dep⟩
  · simp only [PyData.leavesShortAll, a.lv, b.lv, Bool.and_true]
  · simp only [PyData.bulkAll]
    have := a.bk
    have := b.bk
    omega
theorem SzA.all {D M n : Nat} : ∀ {ds : List PyData}, (∀ d ∈ ds, Sz D M d) → ds.length ≤ n → SzA D (n * (M + 1)) ds
  | [], _, _ => SzA.nil.mono (Nat.le_refl _) (Nat.zero_le _)
  | d :: ds, h, l => by
    obtain ⟨n, rfl⟩ : ∃ m, n = m + 1 := ⟨n - 1, by rw [List.length_cons] at l; omega⟩
    have ih := SzA.all (n := n) (fun x hx => h x (List.mem_cons_of_mem _ hx)) (by rw [List.length_cons] at l; omega)
    refine (SzA.cons (h d List.mem_cons_self) ih).mono (Nat.le_refl _) ?_
    rw [Nat.succ_mul]
    omega
theorem SzA.tup {D M : Nat} {ds : List PyData} (a : SzA D M ds) : Sz (D + 1) M (.tuple ds) := by
  refine ⟨?_, ?_, ?_, ?_, ?_⟩
  · simp only [PyData.showable, a.ok]
  · simp only [PyData.canLay0, a.cl]
  · simp only [PyData.depth]
    exact Nat.succ_le_succ a.dep
  · simp only [PyData.leavesShort, a.lv]
  · simp only [PyData.bulk]
    exact a.bk
theorem SzA.lst {D M : Nat} {ds : List PyData} (a : SzA D M ds) : Sz (D + 1) M (.list ds) := by
  refine ⟨?_, ?_, ?_, ?_, ?_⟩
  · simp only [PyData.showable, a.ok]
  · simp only [PyData.canLay0, a.cl]
  · simp only [PyData.depth]
    exact Nat.succ_le_succ a.dep
  · simp only [PyData.leavesShort, a.lv]
  · simp only [PyData.bulk]
    exact a.bk
theorem Sz.nd {D M : Nat} {d : PyData} (s : Sz D M d) : d.hasDict = false := PyData.hasDict_of_canLay _ s.cl
theorem Sz.fits {D M : Nat} {d : PyData} (s : Sz D M d) (h : M ≤ 2 ^ 20) : d.shown.length ≤ sizeLine := PyData.shown_fits_bulk (B := 13) (by decide) (by decide) s.lv (Nat.le_trans s.bk h)
theorem Sz.shaped {D M : Nat} {d : PyData} (s : Sz D M d) (h : D ≤ 64) : SeqAt.shaped d = true := by
  unfold SeqAt.shaped
  rw [s.cl, Bool.true_and]
  exact decide_eq_true (Nat.le_trans s.dep h)
/-- .. of tuples, texts, numbers, None alone -/
structure Pd (D M : Nat) (d : PyData) : Prop where
  sz : Sz D M d
  nl : noL d = true
  nb : noB d = true
structure PdA (D M : Nat) (ds : List PyData) : Prop where
  sz : SzA D M ds
  nl : noLAll ds = true
  nb : noBAll ds = true
theorem Pd.mono {D D' M M' : Nat} {d : PyData} (s : Pd D M d) (h1 : D ≤ D') (h2 : M ≤ M') : Pd D' M' d := ⟨s.sz.mono h1 h2, s.nl, s.nb⟩
theorem PdA.mono {D D' M M' : Nat} {d : List PyData} (s : PdA D M d) (h1 : D ≤ D') (h2 : M ≤ M') : PdA D' M' d := ⟨s.sz.mono h1 h2, s.nl, s.nb⟩
theorem Pd.none : Pd 0 0 .none := ⟨Sz.none, rfl, rfl⟩
theorem Pd.int {i : Int} (h1 : -999999999999 ≤ i) (h2 : i ≤ 999999999999) : Pd 0 0 (.int i) := ⟨Sz.int h1 h2, rfl, rfl⟩
theorem Pd.str {z : Str} {M : Nat} (c : Codes z) (l : z.length ≤ M) : Pd 0 M (.str z) := ⟨Sz.str c l, rfl, rfl⟩
theorem PdA.nil {D : Nat} : PdA D 0 [] := ⟨SzA.nil, rfl, rfl⟩
theorem PdA.cons {D M N : Nat} {d : PyData} {ds : List PyData} (a : Pd D M d) (b : PdA D N ds) : PdA D (M + 1 + N) (d :: ds) :=
  ⟨SzA.cons a.sz b.sz, by simp only [noLAll, a.nl, b.nl, Bool.and_true], by simp only [noBAll, a.nb, b.nb, Bool.and_true]⟩
theorem PdA.all {D M n : Nat} {ds : List PyData} (h : ∀ d ∈ ds, Pd D M d) (l : ds.length ≤ n) : PdA D (n * (M + 1)) ds := by
  refine ⟨SzA.all (fun d hd => (h d hd).sz) l, ?_, ?_⟩
  · clear l
    induction ds with
    | nil => rfl
    | cons d r ih =>
      rw [noLAll, (h d List.mem_cons_self).nl, ih fun x hx => h x (List.mem_cons_of_mem _ hx)]
      rfl
  · clear l
    induction ds with
    | nil => rfl
    | cons d r ih =>
      rw [noBAll, (h d List.mem_cons_self).nb, ih fun x hx => h x (List.mem_cons_of_mem _ hx)]
      rfl
theorem PdA.tup {D M : Nat} {ds : List PyData} (a : PdA D M ds) : Pd (D + 1) M (.tuple ds) := ⟨a.sz.tup, by simp only [noL, a.nl], by simp only [noB, a.nb]⟩
theorem PdA.mem {D M : Nat} : ∀ {ds : List PyData}, PdA D M ds → ∀ d ∈ ds, Pd D M d
  | x :: ds, a, d, hd => by
    obtain ⟨⟨a1, a2, a3, a4, a5⟩, b1, b2⟩ := a
    have a1' : x.showable = true ∧ PyData.showableAll ds = true := Bool.and_eq_true_iff.mp a1
    have a2' : x.canLay0 = true ∧ PyData.canLayAll0 ds = true := Bool.and_eq_true_iff.mp a2
    have a3' : x.depth ≤ D ∧ PyData.depthAll ds ≤ D := Nat.max_le.mp a3
    have a4' : x.leavesShort 13 = true ∧ PyData.leavesShortAll 13 ds = true := Bool.and_eq_true_iff.mp a4
    have a5' : x.bulk + 1 + PyData.bulkAll ds ≤ M := a5
    have b1' : noL x = true ∧ noLAll ds = true := Bool.and_eq_true_iff.mp b1
    have b2' : noB x = true ∧ noBAll ds = true := Bool.and_eq_true_iff.mp b2
    rcases List.mem_cons.mp hd with rfl | hd
    · exact ⟨⟨a1'.1, a2'.1, a3'.1, a4'.1, by omega⟩, b1'.1, b2'.1⟩
    · exact PdA.mem (ds := ds) ⟨⟨a1'.2, a2'.2, a3'.2, a4'.2, by omega⟩, b1'.2, b2'.2⟩ d hd
theorem Pd.parts {D M : Nat} {ds : List PyData} (p : Pd D M (.tuple ds)) : PdA D M ds := by
  obtain ⟨⟨a1, a2, a3, a4, a5⟩, b1, b2⟩ := p
  have a3' : PyData.depthAll ds + 1 ≤ D := a3
  exact ⟨⟨a1, a2, by omega, a4, a5⟩, b1, b2⟩
theorem Pd.keep {D M : Nat} {K : PySem.W.Frag} {H H' : Hp} {v : V} {d : PyData} (p : Pd D M d) (k : KeepT K H H') (h : Dp K H v d) : Dp K H' v d := Dp.keepT k d v p.nl h
theorem PdA.keep {D M : Nat} {K : PySem.W.Frag} {H H' : Hp} {v : List V} {d : List PyData} (p : PdA D M d) (k : KeepT K H H') (h : DpAll K H v d) : DpAll K H' v d := DpAll.keepT k d v p.nl h
theorem Pd.eqv {D M D' M' : Nat} {d e : PyData} (a : Pd D M d) (b : Pd D' M' e) : PyData.eqv d e = true ↔ d = e := eqv_iff d e a.nb b.nb
theorem dpAll_len {K : PySem.W.Frag} {H : Hp} : ∀ {vs : List V} {ds : List PyData}, DpAll K H vs ds → vs.length = ds.length
  | _, _, .nil => rfl
  | _, _, .cons _ t => congrArg (· + 1) (dpAll_len t)
theorem dpAll_get {K : PySem.W.Frag} {H : Hp} : ∀ {vs : List V} {ds : List PyData} {i : Nat} {d : PyData}, DpAll K H vs ds → ds[i]? = some d → ∃ v, vs[i]? = some v ∧ Dp K H v d
  | _, _, 0, _, .cons h _, e => ⟨_, rfl, by rw [← Option.some.inj e]; exact h⟩
  | _, _, i + 1, _, .cons _ t, e => dpAll_get (i := i) t e
theorem dpAll_get' {K : PySem.W.Frag} {H : Hp} : ∀ {vs : List V} {ds : List PyData} {i : Nat} {v : V}, DpAll K H vs ds → vs[i]? = some v → ∃ d, ds[i]? = some d ∧ Dp K H v d
  | _, _, 0, _, .cons h _, e => ⟨_, rfl, by rw [← Option.some.inj e]; exact h⟩
  | _, _, i + 1, _, .cons _ t, e => dpAll_get' (i := i) t e
theorem dpAll_app {K : PySem.W.Frag} {H : Hp} : ∀ {vs ws : List V} {ds es : List PyData}, DpAll K H vs ds → DpAll K H ws es → DpAll K H (vs ++ ws) (ds ++ es)
  | _, _, _, _, .nil, h => h
  | _, _, _, _, .cons a t, h => .cons a (dpAll_app t h)
theorem dpAll_take {K : PySem.W.Frag} {H : Hp} : ∀ {vs : List V} {ds : List PyData} (n : Nat), DpAll K H vs ds → DpAll K H (vs.take n) (ds.take n)
  | _, _, 0, _ => .nil
  | _, _, _ + 1, .nil => .nil
  | _, _, n + 1, .cons a t => .cons a (dpAll_take n t)
/-- a list of data -/
def LAt (K : PySem.W.Frag) (H : Hp) (l : Addr) (ds : List PyData) : Prop := ∃ vs, H l = some (.lst vs) ∧ DpAll K H vs ds
theorem LAt.keep {D M : Nat} {K : PySem.W.Frag} {H H' : Hp} {l : Addr} {ds : List PyData} (a : LAt K H l ds) (p : PdA D M ds) (k : KeepT K H H') (e : H' l = H l) : LAt K H' l ds :=
  let ⟨vs, h, d⟩ := a
  ⟨vs, e.trans h, p.keep k d⟩
theorem LAt.same {D M : Nat} {K : PySem.W.Frag} {H H' : Hp} {l : Addr} {ds : List PyData} (a : LAt K H l ds) (p : PdA D M ds) (s : Same H H') : LAt K H' l ds :=
  let ⟨vs, h, d⟩ := a
  ⟨vs, s _ _ h, p.keep (Same.keepT s) d⟩
theorem LAt.dp {K : PySem.W.Frag} {H : Hp} {l : Addr} {ds : List PyData} (a : LAt K H l ds) : Dp K H (.ref l) (.list ds) :=
  let ⟨_, h, d⟩ := a
  .lst (.inl (.inl h)) d
/-! ### a dict comprehension over the items of a dict that is locked meanwhile -/
theorem dc_items {d : Addr} {o : Obj} {kvs : List (Key × V)} {g : TG} {tt : TT} {tk tv : TE} {vs : List Nat} {σ : L2.St} {H1 : Hp} {D : Addr} {Qd : Hp → Prop} (Pv : Nat → Hp → Prop) (h0 : Pv 0 (upd H1 D (.dK [])))
    (hl : ∀ i H, i ≤ kvs.length → Pv i H → H d = some (.frz o (.dK kvs)))
    (hs : ∀ i k v T H, kvs[i]? = some (k, v) → Pv i H → H T = none → g (.ref T) (wipe σ vs) (upd H T (.tup [kV k, v])) fun σ2 H2 => wipe σ2 vs = wipe σ vs ∧ tt σ2 H2 fun b H3 =>
      if b = true then tk σ2 H3 fun y H4 => tv σ2 H4 fun z H5 => ∃ kws k, y = kV k ∧ H5 D = some (.dK kws) ∧ kws.length < sizeLine ∧ Pv (i + 1) (upd H5 D (.dK (putK kws k z))) else Pv (i + 1) H3) (hd : ∀ H, Pv kvs.length H → Qd H) :
    ∃ W : Nat → Nat → Hp → Prop, (∃ m, W 0 m (upd H1 D (.dK []))) ∧ ∀ i m H, W i m H →
      ((Iti d o kvs).stop i H ∧ Qd H) ∨ ((Iti d o kvs).go i H ∧ ∃ Nx : Hp → Prop, (∀ H', Nx H' → ∃ m', m' < m ∧ W (i + 1) m' H') ∧ ∀ x H', (Iti d o kvs).yld i H x H' → g x (wipe σ vs) H' fun σ2 H2 => wipe σ2 vs = wipe σ vs ∧ tt σ2 H2 fun b H3 =>
        if b = true then tk σ2 H3 fun y H4 => tv σ2 H4 fun z H5 => ∃ kws k, y = kV k ∧ H5 D = some (.dK kws) ∧ kws.length < sizeLine ∧ Nx (upd H5 D (.dK (putK kws k z))) else Nx H3) := by
  refine ⟨fun i m H => i + m = kvs.length ∧ Pv i H, ⟨kvs.length, by omega, h0⟩, ?_⟩
  rintro i m H ⟨e, p⟩
  have lk := hl i H (by omega) p
  by_cases lt : i < kvs.length
  · refine Or.inr ⟨⟨lk, lt⟩, Pv (i + 1), fun H' q => ⟨m - 1, by omega, by omega, q⟩, ?_⟩
    rintro x H' ⟨T, k, v, hkv, rfl, nT, rfl⟩
    exact hs i k v T H hkv p nT
  · obtain rfl : i = kvs.length := by omega
    exact Or.inl ⟨⟨lk, Nat.le_refl _⟩, hd H p⟩
/-! ### small things -/
/-- within a comprehension: the written part is the def's own -/
theorem op_eqDK {X : Cx} {K : PySem.W.Frag} (h : X.K = K) (hu : X.A.units + 64 < cLine) : OpR X (compareOp .Eq) (rEqD K) := h ▸ op_eqD hu
theorem op_neDK {X : Cx} {K : PySem.W.Frag} (h : X.K = K) (hu : X.A.units + 64 < cLine) : OpR X (compareOp .NotEq) (rNeD K) := h ▸ op_neD hu
theorem op_in_seqK {X : Cx} {K : PySem.W.Frag} (h : X.K = K) : OpR X (compareOp .In) (rIn K false) := h ▸ op_in_seq
theorem pg_tupK {X : Cx} {K : PySem.W.Frag} {es : List Expr} {k : Nat} {t : TGs} {n : Nat} {pos : Pos} (e : X.K = K) (hc : X.calm = true) (h : PGs X es t)
    (hn : (assignEach es X.env).length = n := by rfl) (hst : (assignEach es X.env).findIdx? (·.1) = none := by rfl) : PG X (.Tuple es k pos) (gTup K n t) := e ▸ pg_tup hc h hn hst
theorem op_notIn_seqK {X : Cx} {K : PySem.W.Frag} (h : X.K = K) : OpR X (compareOp .NotIn) (rIn K true) := h ▸ op_notIn_seq
theorem inV_str (x : Str) (ys : List Str) : inV (.str x) (ys.map V.str) = decide (x ∈ ys) := by
  unfold inV
  rw [List.any_map, Bool.eq_iff_iff, List.any_eq_true, decide_eq_true_eq]
  constructor
  · rintro ⟨y, hy, e⟩
    have e' : (y == x) = true := e
    rw [← eq_of_beq e']
    exact hy
  · intro h
    exact ⟨x, h, (beq_self_eq_true x : (x == x) = true)⟩
theorem flat_str (ys : List Str) : (ys.map V.str).all flatV = true := by
  rw [List.all_map, List.all_eq_true]
  intro y _
  rfl
theorem cutV_up (xs : List V) (j : Nat) : cutV xs none (some (j : Int)) = xs.take j := by
  unfold cutV
  rw [HT.sIx_none, show HT.sIx xs.length xs.length (some (j : Int)) = min j xs.length from HT.sIx_nat xs.length xs.length j]
  show List.take (min j xs.length - 0) (List.drop 0 xs) = _
  rw [List.drop_zero, Nat.sub_zero, List.take_eq_take_iff]
  omega
theorem putS_app {β : Type} (kvs : List (Str × β)) (k : Str) (v : β) (h : k ∉ kvs.map (·.1)) : putS kvs k v = kvs ++ [(k, v)] := by
  apply putS_new
  rw [get_none.mpr h]
  rfl
/-- a list stays where a store goes to something else -/
theorem sqL_upd {K : PySem.W.Frag} {H : Hp} {p a : Addr} {o : HO} {xs : List V} (no : ∀ xs, H p ≠ some (.lst xs)) (nf : ∀ b xs, H p ≠ some (.frz b (.lst xs))) (h : SqL K H a xs) : SqL K (upd H p o) a xs := by
  rcases h with (h | ⟨b, h⟩) | h
  · exact .inl (.inl (by rw [upd_ne (by rintro rfl; exact no _ h)]; exact h))
  · exact .inl (.inr ⟨b, by rw [upd_ne (by rintro rfl; exact nf _ _ h)]; exact h⟩)
  · exact .inr h
end Pg

/-! Rows of numbers, cut and put together; comprehensions that work on values alone; a module's text. -/
namespace Pg
open PySem PySem.Spec PyProof.Rows L2

theorem pe_cS {X : Cx} {x z : Str} {pos : Pos} (hg : Gl X x) (hm : ∃ t, X.mg x = some (.str z t)) (hd : (x == ("__debug__" : Str)) = false := by decide) : PE X (.Name x pos) (tC (.str z)) := by
  obtain ⟨t, e⟩ := hm
  exact pe_glob hg e ⟨t, rfl⟩ hd
/-- numbers that are not below 0 -/
def vN (bs : List Nat) : List V := bs.map fun n => V.int (n : Nat)
theorem vN_len (bs : List Nat) : (vN bs).length = bs.length := List.length_map _
theorem vN_app (a b : List Nat) : vN (a ++ b) = vN a ++ vN b := List.map_append
theorem vN_take (a : List Nat) (n : Nat) : vN (a.take n) = (vN a).take n := List.map_take
theorem vN_drop (a : List Nat) (n : Nat) : vN (a.drop n) = (vN a).drop n := List.map_drop
theorem vN_set (a : List Nat) (n x : Nat) : vN (a.set n x) = (vN a).set n (.int (x : Nat)) := List.map_set
theorem vN_rep (n x : Nat) : vN (List.replicate n x) = List.replicate n (.int (x : Nat)) := List.map_replicate
theorem vN_get {bs : List Nat} {i n : Nat} (h : bs[i]? = some n) : (vN bs)[i]? = some (V.int (n : Nat)) := by
  unfold vN
  rw [List.getElem?_map, h]
  rfl
theorem vN_get' {bs : List Nat} {i : Nat} {x : V} (h : (vN bs)[i]? = some x) : ∃ n, bs[i]? = some n ∧ x = V.int (n : Nat) := by
  unfold vN at h
  rw [List.getElem?_map] at h
  cases e : bs[i]? with
  | none => rw [e] at h; cases h
  | some n => rw [e] at h; exact ⟨n, rfl, (Option.some.inj h).symm⟩
theorem dpAll_vN {K : PySem.W.Frag} {H : Hp} : ∀ bs : List Nat, DpAll K H (vN bs) (bs.map fun n => PyData.int (n : Nat))
  | [] => .nil
  | _ :: r => .cons (.int _) (dpAll_vN r)
theorem dp_vN {K : PySem.W.Frag} {H : Hp} {l : Addr} {bs : List Nat} (h : H l = some (.lst (vN bs))) : Dp K H (.ref l) (.list (bs.map fun n => PyData.int (n : Nat))) := .lst (.inl (.inl h)) (dpAll_vN bs)
theorem sz_vN {bs : List Nat} {n : Nat} (h : ∀ b ∈ bs, b ≤ 999999999999) (l : bs.length ≤ n) : Sz 1 (n * 1) (.list (bs.map fun n => PyData.int (n : Nat))) := by
  refine (SzA.all (fun d hd => ?_) (by rw [List.length_map]; exact l)).lst
  obtain ⟨b, hb, rfl⟩ := List.mem_map.mp hd
  have := h b hb
  exact Sz.int (by omega) (by omega)
theorem noB_vN : ∀ bs : List Nat, noBAll (bs.map fun n => PyData.int (n : Nat)) = true
  | [] => rfl
  | b :: r => by
    show (noB _ && noBAll _) = true
    rw [show noB (.int (b : Nat)) = true from rfl, Bool.true_and]
    exact noB_vN r
theorem cut_nn (xs : List V) (a b : Nat) : cutV xs (some (a : Int)) (some (b : Int)) = (xs.drop a).take (b - a) := by
  unfold cutV
  rw [show HT.sIx xs.length 0 (some (a : Int)) = min a xs.length from HT.sIx_nat _ _ _, show HT.sIx xs.length xs.length (some (b : Int)) = min b xs.length from HT.sIx_nat _ _ _]
  by_cases h : a ≤ xs.length
  · rw [Nat.min_eq_left h, List.take_eq_take_iff, List.length_drop]
    omega
  · rw [List.drop_of_length_le (by omega), List.drop_of_length_le (i := a) (by omega), List.take_nil, List.take_nil]
theorem cut_n_ (xs : List V) (a : Nat) : cutV xs (some (a : Int)) none = xs.drop a := by
  unfold cutV
  rw [show HT.sIx xs.length 0 (some (a : Int)) = min a xs.length from HT.sIx_nat _ _ _, HT.sIx_none]
  by_cases h : a ≤ xs.length
  · rw [Nat.min_eq_left h]
    exact List.take_of_length_le (by rw [List.length_drop]; omega)
  · rw [List.drop_of_length_le (by omega), List.drop_of_length_le (i := a) (by omega), List.take_nil]
theorem cut_nm (xs : List V) (a : Nat) : cutV xs (some (a : Int)) (some (-1)) = (xs.drop a).take (xs.length - 1 - a) := by
  unfold cutV
  rw [show HT.sIx xs.length 0 (some (a : Int)) = min a xs.length from HT.sIx_nat _ _ _]
  have e : HT.sIx xs.length xs.length (some (-1)) = xs.length - 1 := by
    show (if (-1 : Int) < 0 then ((-1 : Int) + (xs.length : Int)).toNat else min (-1 : Int).toNat xs.length) = _
    rw [if_pos (by decide)]
    omega
  rw [e]
  by_cases h : a ≤ xs.length
  · rw [Nat.min_eq_left h]
  · rw [List.drop_of_length_le (by omega), List.drop_of_length_le (i := a) (by omega), List.take_nil, List.take_nil]
theorem at_last {xs : List V} {v : V} (h : xs.getLast? = some v) : atI xs (-1) = some v := by
  have ne : xs ≠ [] := by
    rintro rfl
    cases h
  have pos : 0 < xs.length := List.length_pos_iff.mpr ne
  unfold atI ixN
  rw [if_neg (by decide), if_pos (by omega)]
  show xs[((-1 : Int) + (xs.length : Int)).toNat]? = _
  rw [List.getLast?_eq_getElem?] at h
  rw [← h]
  congr 1
  omega
/-- a comprehension that makes each item anew from values alone -/
theorem lc_map {K : PySem.W.Frag} {a : Addr} {xs : List V} {g : TG} {tt : TT} {te : TE} {vs : List Nat} {σ : L2.St} {H1 : Hp} {D : Addr} {Qd : Hp → Prop} (fx : V → V) (nD : H1 D = none) (hl : SqL K H1 a xs) (few : xs.length < sizeLine)
    (hs : ∀ (i : Nat) (x : V) (H : Hp) (R : V → Hp → Prop) (S : Hp → Prop), xs[i]? = some x → Same H1 H → R (fx x) H →
      g x (wipe σ vs) H fun σ2 H2 => wipe σ2 vs = wipe σ vs ∧ tt σ2 H2 fun b H3 => if b = true then te σ2 H3 R else S H3) (hd : Qd (upd H1 D (.lst (xs.map fx)))) :
    ∃ W : Nat → Nat → Hp → Prop, (∃ m, W 0 m (upd H1 D (.lst []))) ∧ ∀ i m H, W i m H → ((Itl K a).stop i H ∧ Qd H) ∨
      ((Itl K a).go i H ∧ ∃ Nx : Hp → Prop, (∀ H', Nx H' → ∃ m', m' < m ∧ W (i + 1) m' H') ∧ ∀ x H', (Itl K a).yld i H x H' →
        g x (wipe σ vs) H' fun σ2 H2 => wipe σ2 vs = wipe σ vs ∧ tt σ2 H2 fun b H3 => if b = true then te σ2 H3 fun y H4 => ∃ acc, H4 D = some (.lst acc) ∧ acc.length < sizeLine ∧ Nx (upd H4 D (.lst (acc ++ [y]))) else Nx H3) := by
  have sm : ∀ {o : HO}, Same H1 (upd H1 D o) := fun {o} p x e => by
    rw [upd_ne (ne_of_none e nD)]
    exact e
  have kl : ∀ {o : HO}, SqL K (upd H1 D o) a xs := fun {o} => by
    rcases hl with (h | ⟨u, h⟩) | h
    · exact .inl (.inl (sm _ _ h))
    · exact .inl (.inr ⟨u, sm _ _ h⟩)
    · exact .inr h
  refine lc_list (K := K) (a := a) (xs := xs) (fun i H => H = upd H1 D (.lst ((xs.take i).map fx))) rfl (fun i H _ e => by rw [e]; exact kl) ?_ ?_
  · rintro i x H hx rfl
    refine hs i x _ _ _ hx sm ⟨_, upd_same, ?_, ?_⟩
    · rw [List.length_map, List.length_take]
      omega
    · rw [upd_upd, List.take_add_one, hx, List.map_append]
      rfl
  · rintro H rfl
    rw [List.take_length]
    exact hd
/-- .. of those that pass a test -/
theorem lc_filter {K : PySem.W.Frag} {a : Addr} {xs : List V} {g : TG} {tt : TT} {te : TE} {vs : List Nat} {σ : L2.St} {H1 : Hp} {D : Addr} {Qd : Hp → Prop} (px : V → Bool) (fx : V → V) (nD : H1 D = none) (hl : SqL K H1 a xs) (few : xs.length < sizeLine)
    (hs : ∀ (i : Nat) (x : V) (H : Hp) (R : V → Hp → Prop) (S : Hp → Prop), xs[i]? = some x → Same H1 H → (px x = true → R (fx x) H) → (px x = false → S H) →
      g x (wipe σ vs) H fun σ2 H2 => wipe σ2 vs = wipe σ vs ∧ tt σ2 H2 fun b H3 => if b = true then te σ2 H3 R else S H3) (hd : Qd (upd H1 D (.lst ((xs.filter px).map fx)))) :
    ∃ W : Nat → Nat → Hp → Prop, (∃ m, W 0 m (upd H1 D (.lst []))) ∧ ∀ i m H, W i m H → ((Itl K a).stop i H ∧ Qd H) ∨
      ((Itl K a).go i H ∧ ∃ Nx : Hp → Prop, (∀ H', Nx H' → ∃ m', m' < m ∧ W (i + 1) m' H') ∧ ∀ x H', (Itl K a).yld i H x H' →
        g x (wipe σ vs) H' fun σ2 H2 => wipe σ2 vs = wipe σ vs ∧ tt σ2 H2 fun b H3 => if b = true then te σ2 H3 fun y H4 => ∃ acc, H4 D = some (.lst acc) ∧ acc.length < sizeLine ∧ Nx (upd H4 D (.lst (acc ++ [y]))) else Nx H3) := by
  have sm : ∀ {o : HO}, Same H1 (upd H1 D o) := fun {o} p x e => by
    rw [upd_ne (ne_of_none e nD)]
    exact e
  have kl : ∀ {o : HO}, SqL K (upd H1 D o) a xs := fun {o} => by
    rcases hl with (h | ⟨u, h⟩) | h
    · exact .inl (.inl (sm _ _ h))
    · exact .inl (.inr ⟨u, sm _ _ h⟩)
    · exact .inr h
  refine lc_list (K := K) (a := a) (xs := xs) (fun i H => H = upd H1 D (.lst (((xs.take i).filter px).map fx))) rfl (fun i H _ e => by rw [e]; exact kl) ?_ ?_
  · rintro i x H hx rfl
    have nx : (xs.take (i + 1)).filter px = (xs.take i).filter px ++ [x].filter px := by
      rw [List.take_add_one, hx, List.filter_append]
      rfl
    refine hs i x _ _ _ hx sm (fun p => ⟨_, upd_same, ?_, ?_⟩) (fun p => ?_)
    · rw [List.length_map]
      have h1 := List.length_filter_le px (xs.take i)
      rw [List.length_take] at h1
      omega
    · rw [upd_upd, nx, List.filter_cons_of_pos p, List.map_append]
      rfl
    · rw [nx, List.filter_cons_of_neg (by simp [p]), List.filter_nil, List.append_nil]
  · rintro H rfl
    rw [List.take_length]
    exact hd
/-- a comprehension over a range that makes each item from values alone -/
theorem lc_rangeMap {lo : Int} {n : Nat} {g : TG} {tt : TT} {te : TE} {vs : List Nat} {σ : L2.St} {H1 : Hp} {D : Addr} {Qd : Hp → Prop} (fx : Nat → V) (nD : H1 D = none) (few : n < sizeLine)
    (hs : ∀ (i : Nat) (H : Hp) (R : V → Hp → Prop) (S : Hp → Prop), i < n → Same H1 H → R (fx i) H →
      g (.int (lo + i)) (wipe σ vs) H fun σ2 H2 => wipe σ2 vs = wipe σ vs ∧ tt σ2 H2 fun b H3 => if b = true then te σ2 H3 R else S H3) (hd : Qd (upd H1 D (.lst ((List.range n).map fx)))) :
    ∃ W : Nat → Nat → Hp → Prop, (∃ m, W 0 m (upd H1 D (.lst []))) ∧ ∀ i m H, W i m H → ((Itr lo n).stop i H ∧ Qd H) ∨
      ((Itr lo n).go i H ∧ ∃ Nx : Hp → Prop, (∀ H', Nx H' → ∃ m', m' < m ∧ W (i + 1) m' H') ∧ ∀ x H', (Itr lo n).yld i H x H' →
        g x (wipe σ vs) H' fun σ2 H2 => wipe σ2 vs = wipe σ vs ∧ tt σ2 H2 fun b H3 => if b = true then te σ2 H3 fun y H4 => ∃ acc, H4 D = some (.lst acc) ∧ acc.length < sizeLine ∧ Nx (upd H4 D (.lst (acc ++ [y]))) else Nx H3) := by
  have sm : ∀ {o : HO}, Same H1 (upd H1 D o) := fun {o} p x e => by
    rw [upd_ne (ne_of_none e nD)]
    exact e
  refine lc_range (lo := lo) (n := n) (fun i H => H = upd H1 D (.lst ((List.range i).map fx))) rfl ?_ ?_
  · rintro i H hi rfl
    refine hs i _ _ _ hi sm ⟨_, upd_same, ?_, ?_⟩
    · rw [List.length_map, List.length_range]
      omega
    · rw [upd_upd, List.range_succ, List.map_append]
      rfl
  · rintro H rfl
    exact hd
theorem join_glue0 (ys : List Str) : Txt.join "" ys = glue ys := by
  apply cd_inj
  have h1 : cd (Txt.join "" ys) = TL.joinL (cd "") (ys.map cd) := by
    rw [TL.join_eq]
    exact TL.tl_join "" ys
  have e0 : cd ("" : Str) = [] := by decide +kernel
  rw [h1, e0]
  have h2 : ∀ l : List Str, TL.joinL [] (l.map cd) = cd (glue l) := by
    intro l
    induction l with
    | nil => rfl
    | cons x r ih =>
      cases r with
      | nil =>
        show cd x = cd (x ++ ⟨#[]⟩)
        rw [cd_app]
        simp
      | cons y r =>
        show cd x ++ ([] ++ TL.joinL [] ((y :: r).map cd)) = cd (x ++ glue (y :: r))
        rw [ih, cd_app, List.nil_append]
  exact h2 ys
/-- signs, one text each, put together -/
theorem join_signs (cs : List Nat) : Txt.join "" (cs.map fun c => (⟨#[c]⟩ : Str)) = ⟨cs.toArray⟩ := by
  rw [join_glue0]
  apply cd_inj
  induction cs with
  | nil => rfl
  | cons c r ih =>
    show cd ((⟨#[c]⟩ : Str) ++ glue (r.map fun c => (⟨#[c]⟩ : Str))) = _
    rw [cd_app, ih]
    show [c] ++ (r.toArray).toList = ((c :: r).toArray).toList
    simp
theorem sum_le0 {ys : List Str} {n : Nat} (h : ∀ y ∈ ys, y.length ≤ n) : (ys.map (·.length)).sum ≤ ys.length * n := by
  induction ys with
  | nil => simp
  | cons y r ih =>
    rw [List.map_cons, List.sum_cons, List.length_cons]
    have h1 := h y List.mem_cons_self
    have h2 := ih fun z hz => h z (List.mem_cons_of_mem _ hz)
    have h3 : (r.length + 1) * n = r.length * n + n := by rw [Nat.add_mul, Nat.one_mul]
    omega
theorem vint0 (n : Nat) : (!decide (V.int (n : Nat) = V.int 0)) = !decide (n = 0) := by
  by_cases h : n = 0
  · rw [h]
    rfl
  · rw [decide_eq_false h, decide_eq_false fun z => h (by have := V.int.inj z; omega)]
theorem vN_nonzero (bs : List Nat) : ((vN bs).map fun v => V.bl (!decide (v = .int 0))) = (bs.map fun b => !decide (b = 0)).map V.bl := by
  unfold vN
  rw [List.map_map, List.map_map]
  exact List.map_congr_left fun n _ => congrArg V.bl (vint0 n)
/-- for .. over the keys of a locked dict -/
theorem for_keysL {d : Addr} {o : Obj} {kvs : List (Key × V)} {g : TG} {tb : TS} {D : Ends} {σ : L2.St} {H : Hp} (Pv : Nat → L2.St → Hp → Prop) (h0 : Pv 0 σ H) (locked : ∀ i σ H, i ≤ kvs.length → Pv i σ H → H d = some (.frz o (.dK kvs)))
    (turn : ∀ i k v σ H, kvs[i]? = some (k, v) → Pv i σ H → g (kV k) σ H fun σ2 H2 => tb { D with nx := Pv (i + 1), ct := Pv (i + 1), bk := D.nx } σ2 H2) (after : ∀ σ H, Pv kvs.length σ H → D.nx σ H) :
    ∃ W : Nat → Nat → L2.St → Hp → Prop, (∃ m, W 0 m σ H) ∧ ∀ i m σ H, W i m σ H → ((Itk d o kvs).stop i H ∧ D.nx σ H) ∨
      ((Itk d o kvs).go i H ∧ ∃ N : L2.St → Hp → Prop, (∀ σ' H', N σ' H' → ∃ m', m' < m ∧ W (i + 1) m' σ' H') ∧ ∀ x H', (Itk d o kvs).yld i H x H' → g x σ H' fun σ2 H2 => tb { D with nx := N, ct := N, bk := D.nx } σ2 H2) := by
  refine ⟨fun i m σ H => i + m = kvs.length ∧ Pv i σ H, ⟨kvs.length, by omega, h0⟩, ?_⟩
  rintro i m σ H ⟨e, p⟩
  have lk := locked i σ H (by omega) p
  by_cases lt : i < kvs.length
  · refine .inr ⟨⟨lk, lt⟩, Pv (i + 1), fun σ' H' p' => ⟨m - 1, by omega, by omega, p'⟩, ?_⟩
    rintro x H' ⟨rfl, k, v, at_, rfl⟩
    exact turn i k v σ _ at_ p
  · obtain rfl : i = kvs.length := by omega
    exact .inl ⟨⟨lk, Nat.le_refl _⟩, after σ H p⟩
end Pg

/-! A comprehension over zip of two tuples. -/
namespace Pg
open PySem PySem.Spec PyProof.Rows L2

theorem lc_zipT {K : PySem.W.Frag} {a b : Addr} {xs ys : List V} {g : TG} {tt : TT} {te : TE} {vs : List Nat} {σ : L2.St} {H1 : Hp} {D : Addr} {Qd : Hp → Prop} (hl : xs.length = ys.length) (Pv : Nat → Hp → Prop) (h0 : Pv 0 (upd H1 D (.lst [])))
    (hq : ∀ i H, Pv i H → SqT K H a xs ∧ SqT K H b ys)
    (hs : ∀ (i : Nat) (x y : V) (T : Addr) (H : Hp), xs[i]? = some x → ys[i]? = some y → Pv i H → H T = none → g (.ref T) (wipe σ vs) (upd H T (.tup [x, y])) fun σ2 H2 => wipe σ2 vs = wipe σ vs ∧ tt σ2 H2 fun b H3 =>
      if b = true then te σ2 H3 fun y H4 => ∃ acc, H4 D = some (.lst acc) ∧ acc.length < sizeLine ∧ Pv (i + 1) (upd H4 D (.lst (acc ++ [y]))) else Pv (i + 1) H3) (hd : ∀ H, Pv xs.length H → Qd H) :
    ∃ W : Nat → Nat → Hp → Prop, (∃ m, W 0 m (upd H1 D (.lst []))) ∧ ∀ i m H, W i m H → ((RZ.ItzT K a b).stop i H ∧ Qd H) ∨
      ((RZ.ItzT K a b).go i H ∧ ∃ Nx : Hp → Prop, (∀ H', Nx H' → ∃ m', m' < m ∧ W (i + 1) m' H') ∧ ∀ x H', (RZ.ItzT K a b).yld i H x H' →
        g x (wipe σ vs) H' fun σ2 H2 => wipe σ2 vs = wipe σ vs ∧ tt σ2 H2 fun b H3 => if b = true then te σ2 H3 fun y H4 => ∃ acc, H4 D = some (.lst acc) ∧ acc.length < sizeLine ∧ Nx (upd H4 D (.lst (acc ++ [y]))) else Nx H3) := by
  refine ⟨fun i m H => m = xs.length - i ∧ i ≤ xs.length ∧ Pv i H, ⟨xs.length, rfl, Nat.zero_le _, h0⟩, ?_⟩
  rintro i m H ⟨rfl, hi, p⟩
  obtain ⟨qx, qy⟩ := hq i H p
  by_cases lt : i < xs.length
  · have hx : xs[i]? = some xs[i] := List.getElem?_eq_getElem lt
    have hy : ys[i]? = some (ys[i]'(by omega)) := List.getElem?_eq_getElem (by omega)
    refine .inr ⟨⟨xs, ys, _, _, qx, qy, hx, hy⟩, Pv (i + 1), fun H' p' => ⟨xs.length - (i + 1), by omega, rfl, lt, p'⟩, fun v H' w => ?_⟩
    obtain ⟨T, x', y', rfl, hT, rfl, f1, f2⟩ := w
    exact hs i x' y' T H (f1 xs qx) (f2 ys qy) p hT
  · obtain rfl : i = xs.length := by omega
    exact .inl ⟨⟨xs, ys, qx, qy, Or.inl (Nat.le_refl _)⟩, hd H p⟩
end Pg

/-! A star among the targets. -/
namespace Pg
open PySem PySem.Spec PyProof.Rows L2
section
variable {X : Cx}
/-- a, *b = a list -/
def gStarL (K : PySem.W.Frag) (t : TGs) : TG := fun v σ H Q => ∃ (a : Addr) (x : V) (xs : List V), v = .ref a ∧ SqL K H a (x :: xs) ∧ xs.length ≤ 16000 ∧ ∀ D, H D = none → t [x, .ref D] σ (upd H D (.lst xs)) Q
theorem pg_starL {e1 e2 : Expr} {k : Nat} {p2 pos : Pos} {t : TGs} (hc : X.calm = true) (h : PGs X [e1, e2] t)
    (h1 : assignEach [e1, .Starred e2 p2] X.env = [(false, assign e1 X.env), (true, assign e2 X.env)] := by rfl) (h2 : (assignEach [e1, e2] X.env).map (·.2) = [assign e1 X.env, assign e2 X.env] := by rfl) :
    PG X (.Tuple [e1, .Starred e2 p2] k pos) (gStarL X.K t) := by
  refine ⟨fun pins s σ H v u Q I r hw => ?_⟩
  obtain ⟨a, x, xs, rfl, hq, hx, hw⟩ := hw
  cases r
  obtain ⟨its, rv, pl, hz⟩ := I.list hq
  have hh := I.ok.hd hc
  have hl := pl.isList
  cases rv with
  | @cons _ ux _ uxs rx rxs =>
    have lx : uxs.length = xs.length := rxs.length.symm
    rw [PyProof.Rows.assign_Tuple]
    refine wpAny_bind (wpAny_standAt ?_)
    unfold unpack
    rw [h1]
    have hlt : a ≠ s.heap.objs.size := by obtain ⟨o, ho, _⟩ := hl; exact Nat.ne_of_lt (Heap.lt_size ho)
    have sz : (ux :: uxs).toArray.size = xs.length + 1 := by simp [lx]
    refine wpAny_bind (wpAny_holding ?_)
    show wpAny _ _ (unpackItems (.ref a) 2 (some 1)) _ _ _
    unfold unpackItems
    refine wpAny_bind ?_
    unfold notIterableAtAll
    refine wpAny_bind (wpAny_specialOf (s := { s with toks := _ }) hl.typeIs slot_list_iter.lookup ?_)
    refine wpAny_pure ?_
    simp only [Bool.false_eq_true, if_false]
    refine wpAny_bind (wpAny_holding (wpAny_pyIter_list hl ?_))
    refine wpAny_bind (wpAny_holding (PySem.W.kun_draw hlt 1 0 _ _ ⟨_, Heap.get?_push_size _ rfl, rfl, rfl⟩ (hl.push _) (by omega) fun h₁ hit₁ hs₁ => ?_))
    have hl₁ : h₁.IsList a (ux :: uxs).toArray := (hl.push _).extBut hs₁.extBut hlt
    rw [Nat.zero_add] at hit₁
    have hit₁' := hit₁
    obtain ⟨oi, hoi, _⟩ := hit₁'
    have hl₁' := hl₁
    obtain ⟨ol, hol, _⟩ := hl₁'
    show wpAny _ _ (if ([ux] : List Value).length < 1 then _ else _) _ _ _
    rw [if_neg (show ¬ ([ux] : List Value).length < 1 from Nat.lt_irrefl 1)]
    refine wpAny_bind (wpAny_holding (PySem.W.kun_collect (s := { s with heap := h₁ }) (T := "list_iterator") (.inr (.inr (.inl rfl))) (Walks.list (A := X.A.in1) hh s.heap.objs.size a hlt (ux :: uxs).toArray) (fun j u st => st.1.typeIs) (k := 1) (by rw [sz]; omega) ⟨hit₁, hl₁⟩ (Heap.lt_size hoi) (Heap.lt_size hol) (fun h₂ tk hk => ?_) (by rw [sz, sizeLine_eq]; omega)))
    show wpAny _ _ (if (uxs : List Value).length < 2 - 1 - 1 then _ else _) _ _ _
    rw [if_neg (Nat.not_lt_zero _)]
    show wpAny _ _ (newList (uxs.take (uxs.length - 0)) >>= fun d => pure ([ux] ++ [d] ++ uxs.drop (uxs.length - 0))) _ _ _
    rw [Nat.sub_zero, List.take_length, List.drop_length]
    have he : ∀ b o, s.heap.get? b = some o → h₂.get? b = some o := fun b o e => hk b o (Nat.ne_of_lt (Heap.lt_size e)) (hs₁.extBut b o (Nat.ne_of_lt (Heap.lt_size e)) (Heap.get?_push_of_some _ e))
    have I1 : Inv X pins σ H { s with heap := h₂, toks := tk } := I.kept (t' := tk) he
    have hf : H h₂.objs.size = none := I1.hok.fresh (Nat.le_refl _)
    refine wpAny_bind (wpAny_newList (wpAny_pure ?_))
    have I2 : Inv X pins σ (upd H h₂.objs.size (.lst xs)) { s with heap := h₂.push { cls := .type "list", data := .seq uxs.toArray }, toks := tk } := I1.laid (t' := tk) (fun b u e => Heap.get?_push_of_some _ e) (Nat.le_refl _) ⟨by rw [sizeLine_eq]; omega, uxs, 0, rxs, Heap.get?_push_size _ rfl⟩
    have g := h.run pins _ σ _ [x, .ref h₂.objs.size] [ux, .ref h₂.objs.size] Q I2 (.cons rx (.cons rfl .nil)) (hw _ hf)
    rw [h2] at g
    exact g
/-- a written text ahead of what wants a token -/
theorem pa_strT {es : List Expr} {t : TA} {y : Str} {j : Nat} {c : Pos} (h : PAT X es t) (hs : starEach (.Constant (.str y) j c :: es) X.env = (false, eval (.Constant (.str y) j c) X.env) :: starEach es X.env := by rfl) : PA X (.Constant (.str y) j c :: es) (tCons (tC (.str y)) t) := by
  refine ⟨fun pos pins s σ H Q I q => ?_⟩
  rw [hs]
  show wpAny _ _ (spliced ((false, eval (.Constant (.str y) j c) X.env) :: backTo pos (starEach es X.env))) _ _ s
  refine Calls.spliced_cons (Calls.Constant_str ?_)
  exact thn (h pos pins { s with toks := s.toks + 1 } σ H _ (by show 1 ≤ s.toks + 1; omega) (I.tok _) q) fun us s2 ⟨xs, H2, I2, r2, q2⟩ => ⟨.str y :: xs, H2, I2, .cons ⟨_, rfl⟩ r2, q2⟩
theorem pat_str {es : List Expr} {t : TA} {y : Str} {j : Nat} {c : Pos} (h : PAT X es t) (hs : starEach (.Constant (.str y) j c :: es) X.env = (false, eval (.Constant (.str y) j c) X.env) :: starEach es X.env := by rfl) : PAT X (.Constant (.str y) j c :: es) (tCons (tC (.str y)) t) := fun pos pins s σ H Q _ I q => (pa_strT h hs).run pos pins s σ H Q I q
theorem pat_last {e : Expr} {te : TE} (h : PET X e te) (hs : starEach [e] X.env = (false, eval e X.env) :: starEach [] X.env := by rfl) : PAT X [e] (tCons te tNil) := by
  intro pos pins s σ H Q h0 I q
  rw [hs]
  show wpAny _ _ (spliced ((false, eval e X.env) :: backTo pos (starEach [] X.env))) _ _ s
  exact Calls.spliced_cons (thn (h pins s σ H _ h0 I q) fun u s1 ⟨x, H1, I1, r1, q1⟩ => Calls.spliced_nil ⟨[x], H1, I1, .cons r1 .nil, q1⟩)
end
theorem set_of_textsL {prog : Program} {w : World} {A : Around} {E : Value → Shared → Prop} {s : Shared} {l : Addr} {items : Array Value} {xs : List Str} {Q : Value → Shared → Prop}
    (hot : A.handled = none) (tup : s.heap.IsList l items) (are : StrsAre items.toList xs) (room : xs.length + 1 < scanBound)
    (k : ∀ (h' : Heap) (tk : Nat), h'.SetOf (PySem.strKind prog w) s.heap.objs.size (fun x => decide (x ∈ xs)) (cntS xs) → (∀ b o, s.heap.get? b = some o → h'.get? b = some o) →
      Q (.ref s.heap.objs.size) { s with heap := h', toks := tk }) : wpAny (model prog w) A (call (.type "set") [.ref l]) Q E s := by
  have size : items.size = xs.length := by
    have z := StrsAre.len_eq are
    rw [Array.length_toList] at z
    exact z.symm ▸ rfl
  obtain ⟨_, _, mro⟩ := PySem.F.called_set.mro
  have made := PySem.F.called_set.made
  have sub := PySem.F.called_set.sub
  apply wpAny_call
  apply codeAny_of_tree
  show wpAny _ _ (callAny (.type "set") _) _ _ _
  apply wpAny_pure
  refine And.intro (Code.quiet_builtin _ (by decide +kernel)) ?_
  apply codeAny_builtin PySem.F.entry_type_call
  rw [Around.under_plain (weight_type_call_type "set" [.ref l] []) rfl]
  have t1 := PySem.F.called_set.notType
  have t2 := PySem.F.called_set.canCreate
  have t3 := PySem.F.typeCall_set_1 (.ref l)
  repeat (any_goals (first | assumption | wp_step))
  apply codeAny_mono (code_set_new_1 (.ref l) (E := E) (Q₁ := fun obj s1 => ∃ led : Bool, obj = .ref s.heap.objs.size ∧ s1 = { s with heap := s.heap.push { cls := .type "set", dict := none, data := .set #[] 0 (.fresh 0 0 led) } }) fun led => ⟨led, rfl, rfl⟩)
  intro r s1 hr
  match r, hr with
  | .error _, hr => exact hr
  | .ok .next, hr => exact hr.elim
  | .ok .brk, hr => exact hr.elim
  | .ok .cont, hr => exact hr.elim
  | .ok (.ret obj), hr =>
    obtain ⟨led, rfl, rfl⟩ := hr
    let so : Obj := { cls := .type "set", dict := none, data := .set #[] 0 (.fresh 0 0 led) }
    have here : (s.heap.push so).get? s.heap.objs.size = some so := Heap.get?_push_size _ rfl
    have typ : Shared.TypeIs { s with heap := s.heap.push so } (.ref s.heap.objs.size) "set" := ⟨_, here, rfl⟩
    have i1 := PySem.F.called_set.init.lookup
    have i2 := PySem.F.called_set.init.bind (.ref s.heap.objs.size)
    repeat (any_goals (first | assumption | wp_step))
    apply codeAny_mono (codeAny_call_builtin (R := wants (fun r s2 => r = .none ∧ ∃ h' tk, s2 = { s with heap := h', toks := tk } ∧
      h'.SetOf (PySem.strKind prog w) s.heap.objs.size (fun x => decide (x ∈ xs)) (cntS xs) ∧ (∀ b o, s.heap.get? b = some o → h'.get? b = some o)) E)
      PySem.F.called_set.init.plain PySem.F.entry_set_init (check_set_init_1 typ ?_))
    · intro r2 s2 hr2
      match r2, hr2 with
      | .error _, hr2 => exact hr2
      | .ok .next, hr2 => exact hr2.elim
      | .ok .brk, hr2 => exact hr2.elim
      | .ok .cont, hr2 => exact hr2.elim
      | .ok (.ret v2), hr2 =>
        obtain ⟨rfl, h', tk, rfl, set, kp⟩ := hr2
        repeat (any_goals (first | assumption | wp_step))
        exact k _ _ set kp
    · obtain ⟨⟨oc, od, oda, osl⟩, at_l, cl, nl, dl⟩ := tup
      simp only at cl dl
      subst cl
      subst dl
      have at_l2 : (s.heap.push so).get? l = some { cls := .type "list", dict := od, data := .seq items nl, slots := osl } := Heap.get?_push_of_some _ at_l
      have s1 := PySem.F.sub_list_set
      have s2 := PySem.F.sub_list_frozenset
      have ne : (Value.type "list" == Value.type "dict") = false := by decide
      have tup2 : (s.heap.push so).IsList l items := ⟨_, at_l2, rfl, nl, rfl⟩
      unfold Builtin.«set.__init__» noKeywords Builtin.Frozenset.updateFrom
      generalize hPI : pyIter = PI
      wp_walk
      subst hPI
      apply wpAny_pyIter_list tup2
      apply wpAny_bind
      apply wpAny_runValue
      have lt : l < s.heap.objs.size := Heap.lt_size at_l
      have sz : (s.heap.push so).objs.size = s.heap.objs.size + 1 := Heap.size_push ..
      have ne1 : l ≠ (s.heap.push so).objs.size := by rw [sz]; exact Nat.ne_of_lt (Nat.lt_succ_of_lt lt)
      have off : s.heap.objs.size ∉ [(s.heap.push so).objs.size, l] := by
        rw [sz]
        intro z
        rcases List.mem_cons.mp z with z | z
        · exact Nat.ne_of_lt (Nat.lt_succ_self _) z
        · rcases List.mem_cons.mp z with z | z
          · exact Nat.ne_of_gt lt z
          · cases z
      have hot3 : A.in1.in1.in1.handled = none := by simp [hot]
      apply set_texts_loop ((Walks.list hot3 _ l ne1 items).toS) s.heap.objs.size off xs size room ?vals items.size 0 _ (by omega) ⟨⟨_, Heap.get?_push_size _ rfl, rfl, rfl⟩, (tup2.push _)⟩ ?s0 ?fin
      case vals =>
        intro i v hv
        have hi : i < xs.length := by rw [← size]; exact (Array.getElem?_eq_some_iff.mp hv).1
        obtain ⟨t, e⟩ := SS.strs_at are i v (by rw [Array.getElem?_toList]; exact hv)
        refine ⟨xs[i], t, List.getElem?_eq_getElem hi, ?_⟩
        rw [e, List.getD_eq_getElem?_getD, List.getElem?_eq_getElem hi]
        rfl
      case s0 =>
        have here2 : ((s.heap.push so).push { cls := .type "list_iterator", data := .fields #[.ref l, .int 0 0] }).get? s.heap.objs.size = some so := Heap.get?_push_of_some _ here
        exact PyProof.Rows.SetOf_congr ((PyProof.Rows.setObjOf_fresh (knd := PySem.strKind prog w) led).setOf here2 (by unfold scanBound; omega)) (fun _ => rfl) rfl
      case fin =>
        intro s' mv set
        obtain ⟨h', g', d', tk', os'⟩ := s'
        obtain rfl : g' = s.gens := mv.gens
        obtain rfl : d' = s.drawn := mv.drawn
        obtain rfl : os' = s.os := mv.os
        show wpAny _ _ _ _ _ _
        apply wpAny_pure
        show wpAny _ _ (ret Value.none) _ _ _
        apply wpAny_pure
        refine ⟨rfl, h', tk', rfl, set, ?_⟩
        intro b o q
        have lb : b < s.heap.objs.size := Heap.lt_size q
        apply mv.heap b o _ (Heap.get?_push_of_some _ (Heap.get?_push_of_some _ q))
        intro z
        rcases List.mem_cons.mp z with z | z
        · exact Nat.ne_of_lt lb z
        · rcases List.mem_cons.mp z with z | z
          · rw [sz] at z
            exact Nat.ne_of_lt (Nat.lt_succ_of_lt lb) z
          · cases z

/-- len(set(t)), t a list of texts -/
def tCountL (K : PySem.W.Frag) (ta : TE) : TE := fun σ H Q => ta σ H fun x H1 => ∃ (l : Addr) (xs : List Str), x = .ref l ∧ SqL K H1 l (xs.map V.str) ∧ xs.length ≤ 1000 ∧ Q (.int (cntS xs : Nat)) H1
theorem pe_countL {X : Cx} {a : Expr} {ta : TE} {p p2 q pos : Pos} (hc : X.calm = true) (hg : Gl X "len") (hm : X.mg "len" = none) (hg2 : Gl X "set") (hm2 : X.mg "set" = none) (ha : PE X a ta)
    (na : starEach [a] X.env = (false, eval a X.env) :: starEach [] X.env := by rfl) : PE X (.Call (.Name "len" p) [.Call (.Name "set" p2) [a] [] q] [] pos) (tCountL X.K ta) := by
  constructor
  intro pins s σ H Q I h
  apply Call_ (ld_blt I hg hm boot_len ?_)
  apply PyProof.Rows.callWith_builtin1 (PyProof.Rows.args_cons ?_ rfl) rfl rfl
  apply Call_ (ld_blt I hg2 hm2 boot_set ?_)
  apply PyProof.Rows.callWith_type1 (PyProof.Rows.args_cons (thn (ha.run pins s σ H _ I h) ?_) na) na rfl
  rintro v s1 ⟨x, H1, I1, r1, l, xs, rfl, ht, few, z⟩
  apply PyProof.Rows.args_nil
  cases r1
  obtain ⟨its, r, tp, _⟩ := I1.list ht
  apply set_of_textsL (I1.ok.hd hc) tp.isList (by simpa using strsAre_of r) (by unfold scanBound; omega)
  intro h' tk set kp
  apply PyProof.Rows.args_nil
  obtain ⟨o, es, ep, tb, ho, ex, od, _, _, _, fl, nn⟩ := set
  have I2 : Inv X pins σ H1 { s1 with heap := h', toks := tk } := I1.kept kp
  have le := cntS_le xs
  apply call_len_set ho ex od fl (by rw [nn]; omega)
  exact ⟨.int (cntS xs : Nat), H1, I2.tok _, ⟨_, by rw [nn]⟩, z⟩
end Pg

namespace K45
open PySem PySem.Spec PyProof.Rows L2 Pg
def topS (i : Nat) : Stmt := PySem.Challenge.pw_pagesatonce_k45_records_written_and_read.main.body.getD i (.Pass ⟨0, 0, 0, 0⟩)
abbrev s_is_name : Stmt := topS 5
theorem sc_is_name : FnScope ["text", "sign"] ["text"] (defScope s_is_name) := ⟨rfl, rfl, rfl, by decide +kernel, rfl, by decide +kernel, by decide +kernel⟩
abbrev s_is_of_text : Stmt := topS 7
theorem sc_is_of_text : FnScope ["sign"] ["sign"] (defScope s_is_of_text) := ⟨rfl, rfl, rfl, by decide +kernel, rfl, by decide +kernel, by decide +kernel⟩
abbrev s_is_text : Stmt := topS 6
theorem sc_is_text : FnScope ["text", "sign"] ["text"] (defScope s_is_text) := ⟨rfl, rfl, rfl, by decide +kernel, rfl, by decide +kernel, by decide +kernel⟩
abbrev s_are_pages : Stmt := topS 8
theorem sc_are_pages : FnScope ["names", "name"] ["names"] (defScope s_are_pages) := ⟨rfl, rfl, rfl, by decide +kernel, rfl, by decide +kernel, by decide +kernel⟩
abbrev s_are_options : Stmt := topS 11
theorem sc_are_options : FnScope ["options", "value", "least", "most"] ["options"] (defScope s_are_options) := ⟨rfl, rfl, rfl, by decide +kernel, rfl, by decide +kernel, by decide +kernel⟩
abbrev s_write_edit : Stmt := topS 15
theorem sc_write_edit : FnScope ["edit"] ["edit"] (defScope s_write_edit) := ⟨rfl, rfl, rfl, by decide +kernel, rfl, by decide +kernel, by decide +kernel⟩
abbrev s_write_record : Stmt := topS 16
theorem sc_write_record : FnScope ["record", "kind", "numbers", "number"] ["record"] (defScope s_write_record) := ⟨rfl, rfl, rfl, by decide +kernel, rfl, by decide +kernel, by decide +kernel⟩
abbrev s_is_number : Stmt := topS 22
theorem sc_is_number : FnScope ["word", "sign"] ["word"] (defScope s_is_number) := ⟨rfl, rfl, rfl, by decide +kernel, rfl, by decide +kernel, by decide +kernel⟩
abbrev s_read_numbers : Stmt := topS 21
theorem sc_read_numbers : FnScope ["words", "word"] ["words"] (defScope s_read_numbers) := ⟨rfl, rfl, rfl, by decide +kernel, rfl, by decide +kernel, by decide +kernel⟩
abbrev s_read_set : Stmt := topS 19
theorem sc_read_set : FnScope ["text", "words", "quoted", "inner"] ["text"] (defScope s_read_set) := ⟨rfl, rfl, rfl, by decide +kernel, rfl, by decide +kernel, by decide +kernel⟩
abbrev s_read_edit : Stmt := topS 17
theorem sc_read_edit : FnScope ["text", "kind", "words"] ["text"] (defScope s_read_edit) := ⟨rfl, rfl, rfl, by decide +kernel, rfl, by decide +kernel, by decide +kernel⟩
abbrev s_read_edit_record : Stmt := topS 20
theorem sc_read_edit_record : FnScope ["rest", "word", "_", "written", "numbers", "edit"] ["rest"] (defScope s_read_edit_record) := ⟨rfl, rfl, rfl, by decide +kernel, rfl, by decide +kernel, by decide +kernel⟩
abbrev s_read_record : Stmt := topS 18
theorem sc_read_record : FnScope ["text", "kind", "_", "rest", "numbers"] ["text"] (defScope s_read_record) := ⟨rfl, rfl, rfl, by decide +kernel, rfl, by decide +kernel, by decide +kernel⟩
abbrev s_law_cell : Stmt := topS 24
theorem sc_law_cell : FnScope ["script", "k"] ["script", "k"] (defScope s_law_cell) := ⟨rfl, rfl, rfl, by decide +kernel, rfl, by decide +kernel, by decide +kernel⟩
abbrev s_law_digits : Stmt := topS 25
theorem sc_law_digits : FnScope ["script", "first", "last", "digits", "k", "cell", "turn", "seed"] ["script", "first", "last"] (defScope s_law_digits) := ⟨rfl, rfl, rfl, by decide +kernel, rfl, by decide +kernel, by decide +kernel⟩
abbrev s_law_draw : Stmt := topS 26
theorem sc_law_draw : FnScope ["box", "many", "at"] ["box", "many"] (defScope s_law_draw) := ⟨rfl, rfl, rfl, by decide +kernel, rfl, by decide +kernel, by decide +kernel⟩
abbrev s_law_name : Stmt := topS 27
theorem sc_law_name : FnScope ["box"] ["box"] (defScope s_law_name) := ⟨rfl, rfl, rfl, by decide +kernel, rfl, by decide +kernel, by decide +kernel⟩
abbrev s_law_text : Stmt := topS 28
theorem sc_law_text : FnScope ["box", "most", "text", "turn", "name", "kind"] ["box", "most"] (defScope s_law_text) := ⟨rfl, rfl, rfl, by decide +kernel, rfl, by decide +kernel, by decide +kernel⟩
abbrev s_law_pages : Stmt := topS 29
theorem sc_law_pages : FnScope ["box", "pages", "turn", "name"] ["box"] (defScope s_law_pages) := ⟨rfl, rfl, rfl, by decide +kernel, rfl, by decide +kernel, by decide +kernel⟩
abbrev s_law_alike : Stmt := topS 30
theorem sc_law_alike : FnScope ["one", "two"] ["one", "two"] (defScope s_law_alike) := ⟨rfl, rfl, rfl, by decide +kernel, rfl, by decide +kernel, by decide +kernel⟩
abbrev s_law_any : Stmt := topS 31
theorem sc_law_any : FnScope ["box", "kind"] ["box"] (defScope s_law_any) := ⟨rfl, rfl, rfl, by decide +kernel, rfl, by decide +kernel, by decide +kernel⟩
abbrev s_law_edit : Stmt := topS 32
theorem sc_law_edit : FnScope ["box", "pages", "kind", "text"] ["box", "pages"] (defScope s_law_edit) := ⟨rfl, rfl, rfl, by decide +kernel, rfl, by decide +kernel, by decide +kernel⟩
abbrev s_law_written : Stmt := topS 33
theorem sc_law_written : FnScope ["edit", "name"] ["edit"] (defScope s_law_written) := ⟨rfl, rfl, rfl, by decide +kernel, rfl, by decide +kernel, by decide +kernel⟩
abbrev s_law_record_text : Stmt := topS 34
theorem sc_law_record_text : FnScope ["record", "number"] ["record"] (defScope s_law_record_text) := ⟨rfl, rfl, rfl, by decide +kernel, rfl, by decide +kernel, by decide +kernel⟩
abbrev s_law_record : Stmt := topS 35
theorem sc_law_record : FnScope ["box", "kind", "most", "numbers", "edit", "k", "number"] ["box"] (defScope s_law_record) := ⟨rfl, rfl, rfl, by decide +kernel, rfl, by decide +kernel, by decide +kernel⟩
abbrev s_law_spoilt : Stmt := topS 36
theorem sc_law_spoilt : FnScope ["box", "text", "at", "sign", "kind", "menu"] ["box", "text"] (defScope s_law_spoilt) := ⟨rfl, rfl, rfl, by decide +kernel, rfl, by decide +kernel, by decide +kernel⟩
abbrev s_law_is_name : Stmt := topS 37
theorem sc_law_is_name : FnScope ["text", "sign"] ["text"] (defScope s_law_is_name) := ⟨rfl, rfl, rfl, by decide +kernel, rfl, by decide +kernel, by decide +kernel⟩
abbrev s_law_fair_edit : Stmt := topS 38
theorem sc_law_fair_edit : FnScope ["edit", "names", "name"] ["edit"] (defScope s_law_fair_edit) := ⟨rfl, rfl, rfl, by decide +kernel, rfl, by decide +kernel, by decide +kernel⟩
abbrev s_law_fair : Stmt := topS 39
theorem sc_law_fair : FnScope ["record", "most", "numbers", "k", "number"] ["record"] (defScope s_law_fair) := ⟨rfl, rfl, rfl, by decide +kernel, rfl, by decide +kernel, by decide +kernel⟩
abbrev s_law_own_record : Stmt := topS 40
theorem sc_law_own_record : FnScope ["text", "told"] ["text"] (defScope s_law_own_record) := ⟨rfl, rfl, rfl, by decide +kernel, rfl, by decide +kernel, by decide +kernel⟩
abbrev s_law_own_edit : Stmt := topS 41
theorem sc_law_own_edit : FnScope ["text", "told"] ["text"] (defScope s_law_own_edit) := ⟨rfl, rfl, rfl, by decide +kernel, rfl, by decide +kernel, by decide +kernel⟩
abbrev s_law : Stmt := topS 42
theorem sc_law : FnScope ["script", "box", "turn", "record", "text", "other", "written"] ["script"] (defScope s_law) := ⟨rfl, rfl, rfl, by decide +kernel, rfl, by decide +kernel, by decide +kernel⟩
structure Z (mg : Str → Option Value) : Prop where
  «len» : mg "len" = none
  «range» : mg "range" = none
  «int» : mg "int" = none
  «repr» : mg "repr" = none
  «list» : mg "list" = none
  «tuple» : mg "tuple" = none
  «set» : mg "set" = none
  «all» : mg "all" = none
  «ord» : mg "ord" = none
  «str» : mg "str" = none
  «zip» : mg "zip" = none
  c_NAME_MOST : ∃ t, mg "NAME_MOST" = some (.int 6 t)
  c_TEXT_MOST : ∃ t, mg "TEXT_MOST" = some (.int 60 t)
  c_PAGES_MOST : ∃ t, mg "PAGES_MOST" = some (.int 6 t)
  c__PERCENT : ∃ t, mg "_PERCENT" = some (.int 37 t)
  c_DIGITS_MOST : ∃ t, mg "DIGITS_MOST" = some (.int 7 t)
  c__QUOTE : ∃ t, mg "_QUOTE" = some (.str "\"" t)
end K45

namespace K45
open PySem PySem.Spec PyProof.Rows L2 Pg
/-! ### what the helpers of the law promise -/
/-- a cell of the script, or 0 -/
def spCell (K : PySem.W.Frag) : Sp := fun vs H Q _ => ∃ (l : Addr) (ns : List Int) (k : Nat), vs = [.ref l, .int (k : Nat)] ∧ SqL K H l (ns.map V.int) ∧ ∀ c : Int, Q (.int c) H
/-- a new list of some whole numbers -/
def spDigits (K : PySem.W.Frag) : Sp := fun vs H Q _ => ∃ (l : Addr) (ns : List Int) (a b : Nat), vs = [.ref l, .int (a : Nat), .int (b : Nat)] ∧ SqL K H l (ns.map V.int) ∧ a ≤ 63 ∧ b ≤ 63 ∧
  ∀ (H' : Hp) (p : Addr) (ds : List Int), Same H H' → H p = none → H' p = some (.lst (ds.map V.int)) → ds.length ≤ 4000 → Q (.ref p) H'
/-- the box of the draws: its digits stand at d -/
def BoxAt (H : Hp) (b d : Addr) : Prop := ∃ (ds : List Int) (n : Nat), H b = some (.lst [.ref d, .int (n : Nat)]) ∧ H d = some (.lst (ds.map V.int)) ∧ d ≠ b ∧ ds.length ≤ 4000
def Box (H : Hp) (b : Addr) : Prop := ∃ d, BoxAt H b d
/-- all but the box is as it was -/
structure Drew (b : Addr) (H H' : Hp) : Prop where
  box : Box H' b
  dig : ∀ d, BoxAt H b d → BoxAt H' b d
  keep : ∀ p o, p ≠ b → H p = some o → H' p = some o
theorem Drew.trans {b : Addr} {H H1 H2 : Hp} (x : Drew b H H1) (y : Drew b H1 H2) : Drew b H H2 := ⟨y.box, fun d e => y.dig d (x.dig d e), fun p o n e => y.keep p o n (x.keep p o n e)⟩
theorem BoxAt.same {b d : Addr} {H H' : Hp} (x : BoxAt H b d) (s : Same H H') : BoxAt H' b d := by
  obtain ⟨ds, n, e1, e2, ne, few⟩ := x
  exact ⟨ds, n, s _ _ e1, s _ _ e2, ne, few⟩
theorem BoxAt.upd {b d p : Addr} {H : Hp} {o : HO} (x : BoxAt H b d) (n1 : p ≠ b) (n2 : p ≠ d) : BoxAt (upd H p o) b d := by
  obtain ⟨ds, n, e1, e2, ne, few⟩ := x
  exact ⟨ds, n, by rw [upd_ne n1.symm]; exact e1, by rw [upd_ne n2.symm]; exact e2, ne, few⟩
theorem BoxAt.ne {b d p : Addr} {H : Hp} (x : BoxAt H b d) (n : H p = none) : p ≠ b ∧ p ≠ d := by
  obtain ⟨ds, m, e1, e2, _⟩ := x
  exact ⟨(ne_of_none e1 n).symm, (ne_of_none e2 n).symm⟩
theorem Box.same {b : Addr} {H H' : Hp} (x : Box H b) (s : Same H H') : Box H' b := let ⟨d, e⟩ := x; ⟨d, e.same s⟩
theorem Box.ne {b p : Addr} {H : Hp} (x : Box H b) (n : H p = none) : p ≠ b := let ⟨_, e⟩ := x; (e.ne n).1
theorem Drew.same {b : Addr} {H H1 H2 : Hp} (x : Drew b H H1) (s : Same H1 H2) : Drew b H H2 := ⟨x.box.same s, fun d e => (x.dig d e).same s, fun p o n e => s _ _ (x.keep p o n e)⟩
theorem Drew.of {b : Addr} {H H' : Hp} (x : Box H b) (s : Same H H') : Drew b H H' := ⟨x.same s, fun d e => e.same s, fun p o _ e => s _ _ e⟩
theorem same_new {H : Hp} {p : Addr} {o : HO} (h : H p = none) : Same H (upd H p o) := by
  intro b x e
  rw [upd_ne (ne_of_none e h)]
  exact e
theorem small5 {n : Nat} (h : n ≤ 100000) : n < sizeLine := Nat.lt_of_le_of_lt h (by decide)
def spDraw : Sp := fun vs H Q _ => ∃ (b : Addr) (many : Int), vs = [.ref b, .int many] ∧ 0 < many ∧ Box H b ∧ ∀ (r : Int) (H' : Hp), 0 ≤ r → r < many → Drew b H H' → Q (.int r) H'
def names8 : List Str := ["a", "b", "c", "d", "e", "ab", "bc", "cd"]
def spName : Sp := fun vs H Q _ => ∃ b : Addr, vs = [.ref b] ∧ Box H b ∧ ∀ (z : Str) (H' : Hp), z ∈ names8 → Drew b H H' → Q (.str z) H'
section
variable {P : Program} {w : World} {K : PySem.W.Frag} {mg : Str → Option Value} {base : Heap} {f : Addr} {fd : FuncData}
theorem ok_law_cell (F : Fun K "_law_cell" "_law_cell" s_law_cell f fd) (z : Z mg) : FnOk P w K mg base CX0 1 f fd ["script", "k"] (spCell K) := by
  refine F.ok sc_law_cell (fun vs H Q E h => ?_) (fun cdv A outer s H vs Q E hr h => ?_)
  · obtain ⟨l, ns, k, rfl, _⟩ := h
    rfl
  · obtain ⟨l, ns, k, rfl, hs, q⟩ := h
    refine ⟨_, (pss_cons (ps_if (pt_cmpR op_lt (pv 1) (pe_callB call_len_seq (by rfl) z.len PySem.boot_len (pa_cons (pv 0) pa_nil)) (nomark _))
        (pss_one (ps_ret (pe_ix ix_list (pv 0) (pv 1) (fun _ _ => rfl))))
        pss_nil)
      (pss_one (ps_ret pe_int))), ?_⟩
    refine ⟨_, rfl, .ref l, rfl, l, ns.map V.int, rfl, .inl hs, _, _, rfl, rfl, _, rfl, ite2 (fun e => ?_) (fun e => ?_)⟩
    · have lt : k < ns.length := by
        have e := of_decide_eq_true e
        rw [List.length_map] at e
        omega
      exact ⟨.ref l, rfl, _, rfl, l, _, _, _, rfl, rfl, hs, atI_nat (j := k) (by rw [List.getElem?_map, List.getElem?_eq_getElem lt]; rfl), q _⟩
    · exact q 0
theorem ok_law_draw (F : Fun K "_law_draw" "_law_draw" s_law_draw f fd) (z : Z mg) : FnOk P w K mg base CX0 1 f fd ["box", "many"] spDraw := by
  refine F.ok sc_law_draw (fun vs H Q E h => ?_) (fun cdv A outer s H vs Q E hr h => ?_)
  · obtain ⟨b, many, rfl, _⟩ := h
    rfl
  · obtain ⟨b, many, rfl, hm, ⟨d, ds, n, hb, hd, ne, few⟩, q⟩ := h
    refine ⟨_, (pss_cons (ps_set (i := 2) sc_law_draw.nd rfl (Or.inl rfl) (pe_ix ix_list (pv 0) pe_int (fun _ _ => rfl)))
      (pss_cons (ps_asg (pe_op op_add (pv 2) pe_int) (pg_sub (pv 0) pe_int set_list))
      (pss_cons (ps_if (pt_cmpR op_lt (pv 2) (pe_callB call_len_seq (by rfl) z.len PySem.boot_len (pa_cons (pe_ix ix_list (pv 0) pe_int (fun _ _ => rfl)) pa_nil)) (nomark _))
        (pss_one (ps_ret (pe_op op_mod (pe_callTy call_int1 (by rfl) z.int (by decide +kernel) (pa_cons (pe_ix ix_list (pe_ix ix_list (pv 0) pe_int (fun _ _ => rfl)) (pv 2) (fun _ _ => rfl)) pa_nil)) (pv 1))))
        pss_nil)
      (pss_one (ps_ret (pe_op op_mod (pe_callTy call_int1 (by rfl) z.int (by decide +kernel) (pa_cons (pe_op op_add (pe_op op_mul (pv 2) pe_int) pe_int) pa_nil)) (pv 1))))))), ?_⟩
    have hB : ∀ {H : Hp} {m : Int}, H b = some (.lst [.ref d, .int m]) → SqL K H b [.ref d, .int m] := fun e => .inl (.inl e)
    -- one draw further
    refine ⟨.ref b, rfl, b, _, _, .int (n : Nat), rfl, rfl, hB hb, rfl, ?_⟩
    refine ⟨_, rfl, _, _, rfl, rfl, .ref b, rfl, b, _, _, 1, rfl, rfl, hb, rfl, ?_⟩
    have hb' : (upd H b (.lst ([.ref d, .int (n : Nat)].set 1 (.int ((n : Nat) + 1))))) b = some (.lst [.ref d, .int ((n + 1 : Nat) : Int)]) := upd_same
    have hd' : (upd H b (.lst ([.ref d, .int (n : Nat)].set 1 (.int ((n : Nat) + 1))))) d = some (.lst (ds.map V.int)) := by rw [upd_ne ne]; exact hd
    have dr : Drew b H (upd H b (.lst ([.ref d, .int (n : Nat)].set 1 (.int ((n : Nat) + 1))))) := ⟨⟨d, ds, n + 1, hb', hd', ne, few⟩, fun d' B => by
      obtain ⟨ds', n', e1, e2, ne', few'⟩ := B
      rw [hb] at e1
      cases e1
      exact ⟨ds, n + 1, hb', hd', ne, few⟩, fun p o np e => by rw [upd_ne np]; exact e⟩
    -- if at < len(box[0])
    refine ⟨_, rfl, .ref b, rfl, b, _, _, .ref d, rfl, rfl, hB hb', rfl, d, _, rfl, .inl (.inl (.inl hd')), _, _, rfl, rfl, _, rfl, ite2 (fun e => ?_) (fun e => ?_)⟩
    · have lt : n < ds.length := by
        have e := of_decide_eq_true e
        rw [List.length_map] at e
        omega
      refine ⟨.ref b, rfl, b, _, _, .ref d, rfl, rfl, hB hb', rfl, _, rfl, d, _, _, .int ds[n], rfl, rfl, .inl (.inl hd'), atI_nat (j := n) (by rw [List.getElem?_map, List.getElem?_eq_getElem lt]; rfl), .inl ⟨_, rfl, ?_⟩⟩
      exact ⟨_, rfl, _, _, rfl, rfl, hm, q _ _ (Int.emod_nonneg _ (by omega)) (Int.emod_lt_of_pos _ hm) dr⟩
    · refine ⟨_, rfl, _, _, rfl, rfl, .inr ⟨by decide, by decide⟩, _, _, rfl, rfl, .inl ⟨_, rfl, ?_⟩⟩
      exact ⟨_, rfl, _, _, rfl, rfl, hm, q _ _ (Int.emod_nonneg _ (by omega)) (Int.emod_lt_of_pos _ hm) dr⟩
theorem ok_law_digits (F : Fun K "_law_digits" "_law_digits" s_law_digits f fd) (z : Z mg) (claw_cell : Cal P w K mg base "_law_cell" 1 ["script", "k"] (spCell K)) :
    FnOk P w K mg base CX0 2 f fd ["script", "first", "last"] (spDigits K) := by
  refine F.ok sc_law_digits (fun vs H Q E h => ?_) (fun cdv A outer s H vs Q E hr h => ?_)
  · obtain ⟨l, ns, a, b, rfl, _⟩ := h
    rfl
  · obtain ⟨l, ns, a, b, rfl, hs, ha, hb, q⟩ := h
    refine ⟨_, (pss_cons (ps_set (i := 3) sc_law_digits.nd rfl (Or.inl rfl) (pe_lst pa_nil))
      (pss_cons (ps_for PassesOwn.never rfl (pi_range2 (by rfl) z.range (pa_cons (pv 1) (pa_cons (pv 2) pa_nil))) (pg_name (i := 4) sc_law_digits.nd rfl (Or.inl rfl))
        (pss_cons (ps_set (i := 5) sc_law_digits.nd rfl (Or.inl rfl) (pe_cal claw_cell (hr.mono (by decide)) (by rfl) (pa_cons (pv 0) (pa_cons (pv 4) pa_nil))))
        (pss_cons (ps_if (pt_cmpR op_lt (pv 5) pe_int (nomark _))
          (pss_one (ps_set (i := 5) sc_law_digits.nd rfl (Or.inl rfl) (pe_op op_sub pe_int (pe_op op_mul pe_int (pv 5)))))
          pss_nil)
        (pss_one (ps_if (pt_cmpR op_ge (pv 5) pe_int (nomark _))
          (pss_one (ps_for PassesOwn.never rfl (pi_range1 (by rfl) z.range (pa_cons pe_int pa_nil)) (pg_name (i := 6) sc_law_digits.nd rfl (Or.inl rfl))
            (pss_one (ps_if (pt_cmpR op_gt (pv 5) pe_int (nomark _))
              (pss_cons (ps_expr (pe_bm PySem.F.plainAttrs_list PySem.F.slot_list_append PySem.F.type_list_append mt_append (pv 3) (pa_cons (pe_op op_mod (pe_callTy call_int1 (by rfl) z.int (by decide +kernel) (pa_cons (pv 5) pa_nil)) pe_int) pa_nil)))
              (pss_one (ps_set (i := 5) sc_law_digits.nd rfl (Or.inl rfl) (pe_op op_fdiv (pv 5) pe_int))))
              pss_nil))))
          (pss_cons (ps_set (i := 7) sc_law_digits.nd rfl (Or.inl rfl) (pe_op op_mod (pe_callTy call_int1 (by rfl) z.int (by decide +kernel) (pa_cons (pe_op op_add (pe_op op_add (pe_op op_mul (pv 5) pe_int) (pe_op op_mul (pv 4) pe_int)) pe_int) pa_nil)) pe_int))
          (pss_one (ps_for PassesOwn.never rfl (pi_range1 (by rfl) z.range (pa_cons pe_int pa_nil)) (pg_name (i := 6) sc_law_digits.nd rfl (Or.inl rfl))
            (pss_cons (ps_set (i := 7) sc_law_digits.nd rfl (Or.inl rfl) (pe_op op_mod (pe_callTy call_int1 (by rfl) z.int (by decide +kernel) (pa_cons (pe_op op_add (pe_op op_add (pe_op op_mul (pv 7) pe_int) (pe_op op_mul pe_int (pv 6))) pe_int) pa_nil)) pe_int))
            (pss_one (ps_expr (pe_bm PySem.F.plainAttrs_list PySem.F.slot_list_append PySem.F.type_list_append mt_append (pv 3) (pa_cons (pe_op op_mod (pe_callTy call_int1 (by rfl) z.int (by decide +kernel) (pa_cons (pe_op op_fdiv (pv 7) pe_int) pa_nil)) pe_int) pa_nil)))))))))))))
      (pss_one (ps_ret (pv 3))))), ?_⟩
    -- digits = []
    refine ⟨Nat.zero_le _, fun D nD => ?_⟩
    -- cell by cell
    refine ⟨_, rfl, _, rfl, _, _, rfl, ⟨by omega, by omega, by omega, by omega⟩, ?_⟩
    refine for_range (lo := (a : Int)) (n := ((b : Int) - (a : Int)).toNat) (fun i σ H3 => ∃ (y4 y5 y6 y7 : Option V) (ds : List Int), σ = [some (.ref l), some (.int (a : Nat)), some (.int (b : Nat)), some (.ref D), y4, y5, y6, y7] ∧
      Same H H3 ∧ H3 D = some (.lst (ds.map V.int)) ∧ ds.length ≤ 60 * i) ⟨none, none, none, none, [], rfl, same_new nD, upd_same, Nat.zero_le _⟩ ?_ ?_
    · rintro i σ H3 hi ⟨y4, y5, y6, y7, ds, rfl, sm, hD, few⟩
      have hi' : i < 63 := by omega
      -- a cell
      refine ⟨.ref l, rfl, .int ((a : Int) + i), rfl, l, ns, a + i, by simp, sm.seq hs, fun c => ?_⟩
      have appd : ∀ {H4 : Hp} {es : List Int} (x : Int), H4 D = some (.lst (es.map V.int)) → Same H H4 → Same H (upd H4 D (.lst (es.map V.int ++ [.int x]))) := fun x e s p o q => by
        rw [upd_ne (ne_of_none q nD)]
        exact s p o q
      -- if cell < 0
      refine ⟨_, rfl, _, _, rfl, rfl, _, rfl, ite2 (fun _ => ?_) (fun _ => ?_)⟩
      · refine ⟨_, rfl, _, _, rfl, rfl, .inl ⟨by decide, by decide⟩, _, _, rfl, rfl, ?_⟩
        refine ⟨_, rfl, _, _, rfl, rfl, _, rfl, ite2 (fun _ => ?_) (fun _ => ?_)⟩
        · -- sixty turns
          refine ⟨60, rfl, by decide, by decide, ?_⟩
          refine for_range (lo := 0) (n := 60) (fun j σ H4 => ∃ (x6 x7 : Option V) (c : Int) (es : List Int), σ = [some (.ref l), some (.int (a : Nat)), some (.int (b : Nat)), some (.ref D), some (.int ((a : Int) + i)), some (.int c), x6, x7] ∧
            Same H H4 ∧ H4 D = some (.lst (es.map V.int)) ∧ es.length ≤ ds.length + j) ⟨_, _, _, ds, rfl, sm, hD, Nat.le_refl _⟩ ?_ ?_
          · rintro j σ H4 hj ⟨x6, x7, c, es, rfl, sm4, hD4, few4⟩
            refine ⟨_, rfl, _, _, rfl, rfl, _, rfl, ite2 (fun _ => ?_) (fun _ => ?_)⟩
            · refine ⟨.ref D, rfl, .inl ⟨rfl, _, .inl (.inl hD4)⟩, _, rfl, .inl ⟨_, rfl, ?_⟩⟩
              refine ⟨_, _, rfl, rfl, (by show (0 : Int) < 1000; decide), D, _, _, rfl, rfl, hD4, small5 (by rw [List.length_map]; omega), ?_⟩
              exact ⟨_, rfl, _, _, rfl, rfl, ⟨by decide, by decide⟩, _, _, _, es ++ [c % 1000], rfl, appd _ hD4 sm4, by rw [upd_same, List.map_append]; rfl, by rw [List.length_append]; simp only [List.length_singleton]; omega⟩
            · exact ⟨_, _, _, es, rfl, sm4, hD4, by omega⟩
          · rintro σ H4 ⟨x6, x7, c, es, rfl, sm4, hD4, few4⟩
            exact ⟨_, _, _, _, es, rfl, sm4, hD4, by omega⟩
        · -- twelve turns
          refine ⟨_, rfl, _, _, rfl, rfl, .inr ⟨by decide, by decide⟩, _, rfl, _, _, rfl, rfl, .inr ⟨by decide, by decide⟩, _, _, rfl, rfl, _, _, rfl, rfl, .inl ⟨_, rfl, ?_⟩⟩
          refine ⟨_, _, rfl, rfl, (by show (0 : Int) < 2147483399; decide), ?_⟩
          refine ⟨12, rfl, by decide, by decide, ?_⟩
          refine for_range (lo := 0) (n := 12) (fun j σ H4 => ∃ (x5 x6 : Option V) (c : Int) (es : List Int), σ = [some (.ref l), some (.int (a : Nat)), some (.int (b : Nat)), some (.ref D), some (.int ((a : Int) + i)), x5, x6, some (.int c)] ∧
            Same H H4 ∧ H4 D = some (.lst (es.map V.int)) ∧ es.length ≤ ds.length + j) ⟨_, _, _, ds, rfl, sm, hD, Nat.le_refl _⟩ ?_ ?_
          · rintro j σ H4 hj ⟨x5, x6, c, es, rfl, sm4, hD4, few4⟩
            refine ⟨_, rfl, _, _, rfl, rfl, .inr ⟨by decide, by decide⟩, _, rfl, _, _, rfl, rfl, .inl ⟨by decide, by decide⟩, _, _, rfl, rfl, _, _, rfl, rfl, .inl ⟨_, rfl, ?_⟩⟩
            refine ⟨_, _, rfl, rfl, (by show (0 : Int) < 2147483563; decide), ?_⟩
            refine ⟨.ref D, rfl, .inl ⟨rfl, _, .inl (.inl hD4)⟩, _, rfl, _, _, rfl, rfl, ⟨by decide, by decide⟩, .inl ⟨_, rfl, ?_⟩⟩
            refine ⟨_, _, rfl, rfl, (by show (0 : Int) < 1000; decide), D, _, _, rfl, rfl, hD4, small5 (by rw [List.length_map]; omega), ?_⟩
            exact ⟨_, _, _, es ++ [_], rfl, appd _ hD4 sm4, by rw [upd_same, List.map_append]; rfl, by rw [List.length_append]; simp only [List.length_singleton]; omega⟩
          · rintro σ H4 ⟨x5, x6, c, es, rfl, sm4, hD4, few4⟩
            exact ⟨_, _, _, _, es, rfl, sm4, hD4, by omega⟩
      · skip
        refine ⟨_, rfl, _, _, rfl, rfl, _, rfl, ite2 (fun _ => ?_) (fun _ => ?_)⟩
        · -- sixty turns
          refine ⟨60, rfl, by decide, by decide, ?_⟩
          refine for_range (lo := 0) (n := 60) (fun j σ H4 => ∃ (x6 x7 : Option V) (c : Int) (es : List Int), σ = [some (.ref l), some (.int (a : Nat)), some (.int (b : Nat)), some (.ref D), some (.int ((a : Int) + i)), some (.int c), x6, x7] ∧
            Same H H4 ∧ H4 D = some (.lst (es.map V.int)) ∧ es.length ≤ ds.length + j) ⟨_, _, _, ds, rfl, sm, hD, Nat.le_refl _⟩ ?_ ?_
          · rintro j σ H4 hj ⟨x6, x7, c, es, rfl, sm4, hD4, few4⟩
            refine ⟨_, rfl, _, _, rfl, rfl, _, rfl, ite2 (fun _ => ?_) (fun _ => ?_)⟩
            · refine ⟨.ref D, rfl, .inl ⟨rfl, _, .inl (.inl hD4)⟩, _, rfl, .inl ⟨_, rfl, ?_⟩⟩
              refine ⟨_, _, rfl, rfl, (by show (0 : Int) < 1000; decide), D, _, _, rfl, rfl, hD4, small5 (by rw [List.length_map]; omega), ?_⟩
              exact ⟨_, rfl, _, _, rfl, rfl, ⟨by decide, by decide⟩, _, _, _, es ++ [c % 1000], rfl, appd _ hD4 sm4, by rw [upd_same, List.map_append]; rfl, by rw [List.length_append]; simp only [List.length_singleton]; omega⟩
            · exact ⟨_, _, _, es, rfl, sm4, hD4, by omega⟩
          · rintro σ H4 ⟨x6, x7, c, es, rfl, sm4, hD4, few4⟩
            exact ⟨_, _, _, _, es, rfl, sm4, hD4, by omega⟩
        · -- twelve turns
          refine ⟨_, rfl, _, _, rfl, rfl, .inr ⟨by decide, by decide⟩, _, rfl, _, _, rfl, rfl, .inr ⟨by decide, by decide⟩, _, _, rfl, rfl, _, _, rfl, rfl, .inl ⟨_, rfl, ?_⟩⟩
          refine ⟨_, _, rfl, rfl, (by show (0 : Int) < 2147483399; decide), ?_⟩
          refine ⟨12, rfl, by decide, by decide, ?_⟩
          refine for_range (lo := 0) (n := 12) (fun j σ H4 => ∃ (x5 x6 : Option V) (c : Int) (es : List Int), σ = [some (.ref l), some (.int (a : Nat)), some (.int (b : Nat)), some (.ref D), some (.int ((a : Int) + i)), x5, x6, some (.int c)] ∧
            Same H H4 ∧ H4 D = some (.lst (es.map V.int)) ∧ es.length ≤ ds.length + j) ⟨_, _, _, ds, rfl, sm, hD, Nat.le_refl _⟩ ?_ ?_
          · rintro j σ H4 hj ⟨x5, x6, c, es, rfl, sm4, hD4, few4⟩
            refine ⟨_, rfl, _, _, rfl, rfl, .inr ⟨by decide, by decide⟩, _, rfl, _, _, rfl, rfl, .inl ⟨by decide, by decide⟩, _, _, rfl, rfl, _, _, rfl, rfl, .inl ⟨_, rfl, ?_⟩⟩
            refine ⟨_, _, rfl, rfl, (by show (0 : Int) < 2147483563; decide), ?_⟩
            refine ⟨.ref D, rfl, .inl ⟨rfl, _, .inl (.inl hD4)⟩, _, rfl, _, _, rfl, rfl, ⟨by decide, by decide⟩, .inl ⟨_, rfl, ?_⟩⟩
            refine ⟨_, _, rfl, rfl, (by show (0 : Int) < 1000; decide), D, _, _, rfl, rfl, hD4, small5 (by rw [List.length_map]; omega), ?_⟩
            exact ⟨_, _, _, es ++ [_], rfl, appd _ hD4 sm4, by rw [upd_same, List.map_append]; rfl, by rw [List.length_append]; simp only [List.length_singleton]; omega⟩
          · rintro σ H4 ⟨x5, x6, c, es, rfl, sm4, hD4, few4⟩
            exact ⟨_, _, _, _, es, rfl, sm4, hD4, by omega⟩
    · rintro σ H3 ⟨y4, y5, y6, y7, ds, rfl, sm, hD, few⟩
      exact ⟨.ref D, rfl, q H3 D ds sm nD hD (by omega)⟩
end
end K45

namespace K45
open PySem PySem.Spec PyProof.Rows L2 Pg
theorem seqT_same {K : PySem.W.Frag} {H H' : Hp} {a : Addr} {xs : List V} (e : Same H H') (h : SqT K H a xs) : SqT K H' a xs := by
  rcases h with (h | ⟨o, h⟩) | h
  · exact .inl (.inl (e _ _ h))
  · exact .inl (.inr ⟨o, e _ _ h⟩)
  · exact .inr h
theorem yes {σ : L2.St} {H : Hp} {Q : Bool → Hp → Prop} (h : Q true H) : tYes σ H Q := h
theorem Drew.pre {b : Addr} {H H1 H2 : Hp} (s : Same H H1) (x : Drew b H1 H2) : Drew b H H2 := ⟨x.box, fun d e => x.dig d (e.same s), fun p o n e => x.keep p o n (s _ _ e)⟩
theorem at_in {xs : List V} {r : Int} (h0 : 0 ≤ r) (h1 : r < xs.length) : ∃ v, v ∈ xs ∧ atI xs r = some v := by
  obtain ⟨j, rfl⟩ := Int.eq_ofNat_of_zero_le h0
  have lt : j < xs.length := by omega
  exact ⟨xs[j], List.getElem_mem lt, atI_nat (List.getElem?_eq_getElem lt)⟩
/-- plain signs, without the percent sign -/
def plainB (c : Nat) : Bool := decide (32 ≤ c ∧ c ≤ 126 ∧ c ≠ 37)
/-- .. and without the double quote -/
def safeB (c : Nat) : Bool := plainB c && (decide (c ≠ 34))
def Plain (z : Str) : Prop := ∀ c ∈ z.cps.toList, plainB c = true
def Safe (z : Str) : Prop := ∀ c ∈ z.cps.toList, safeB c = true
theorem Safe.plain {z : Str} (h : Safe z) : Plain z := fun c hc => (Bool.and_eq_true_iff.mp (h c hc)).1
theorem app_codes (x y : Str) : (x ++ y).cps.toList = x.cps.toList ++ y.cps.toList := by
  show (x.cps ++ y.cps).toList = _
  rw [Array.toList_append]
theorem Safe.app {x y : Str} (a : Safe x) (b : Safe y) : Safe (x ++ y) := fun c hc => by
  rw [app_codes] at hc
  rcases List.mem_append.mp hc with h | h
  · exact a c h
  · exact b c h
theorem Plain.app {x y : Str} (a : Plain x) (b : Plain y) : Plain (x ++ y) := fun c hc => by
  rw [app_codes] at hc
  rcases List.mem_append.mp hc with h | h
  · exact a c h
  · exact b c h
theorem len_app (x y : Str) : (x ++ y).length = x.length + y.length := by
  show (x.cps ++ y.cps).size = _
  rw [Array.size_append]
  rfl
theorem len_codes (z : Str) : z.length = z.cps.toList.length := by simp [Str.length]
theorem safe_of {z : Str} (h : z.cps.toList.all safeB = true) : Safe z := fun c hc => List.all_eq_true.mp h c hc
/-- the first n signs -/
theorem cut_to (z : Str) (n : Nat) : (cutS z none (some (n : Int))).cps.toList = z.cps.toList.take n := by
  unfold cutS
  rw [HT.sIx_none, show HT.sIx z.length z.length (some (n : Int)) = min n z.length from HT.sIx_nat z.length z.length n]
  show List.take (min n z.length - 0) (List.drop 0 z.cps.toList) = _
  rw [List.drop_zero, Nat.sub_zero, len_codes, List.take_eq_take_iff]
  omega
theorem sizeLine_big {n : Nat} (h : n ≤ 1000000) : n ≤ sizeLine := Nat.le_trans h (by decide)
/-- data that repr shows -/
structure Shows (d : PyData) : Prop where
  ok : d.showable = true
  nd : d.hasDict = false
  dep : d.depth ≤ 40
  sz : d.shown.length ≤ sizeLine
def spAlike (K : PySem.W.Frag) : Sp := fun vs H Q _ => ∃ (x y : V) (d e : PyData), vs = [x, y] ∧ Dp K H x d ∧ Dp K H y e ∧ Shows d ∧ Shows e ∧ Q (.bl (decide (d.shown = e.shown))) H
theorem shows_int {i : Int} (h1 : -999999999999 ≤ i) (h2 : i ≤ 999999999999) : Shows (.int i) := by
  refine ⟨?_, rfl, by show 0 ≤ 40; decide, Nat.le_trans (PyData.shown_int_le2 h1 h2) (by decide)⟩
  show decide (i.natAbs.log2 < 1920) = true
  refine decide_eq_true ?_
  by_cases z : i.natAbs = 0
  · rw [z]
    decide
  · refine (Nat.log2_lt z).mpr (Nat.lt_of_lt_of_le (show i.natAbs < 2 ^ 40 by omega) (Nat.pow_le_pow_right (n := 2) (by decide) (by decide)))
theorem shows_int2 {i j : Int} (h1 : -999999999999 ≤ i) (h2 : i ≤ 999999999999) (h3 : -999999999999 ≤ j) (h4 : j ≤ 999999999999) : Shows (.tuple [.int i, .int j]) := by
  have a := (shows_int h1 h2).ok
  have b := (shows_int h3 h4).ok
  refine ⟨?_, rfl, by show 1 ≤ 40; decide, PyData.shown_fits_bulk (B := 13) (by decide) (by decide) ?_ (by show 0 + 1 + (0 + 1 + 0) ≤ 2 ^ 20; decide)⟩
  · simp only [PyData.showable, PyData.showableAll] at a b ⊢
    rw [a, b]
    rfl
  · simp only [PyData.leavesShort, PyData.leavesShortAll, PyData.shown_int_le2 h1 h2, PyData.shown_int_le2 h3 h4, decide_true, Bool.and_true]
section
variable {P : Program} {w : World} {K : PySem.W.Frag} {mg : Str → Option Value} {base : Heap} {f : Addr} {fd : FuncData}
theorem ok_law_alike (F : Fun K "_law_alike" "_law_alike" s_law_alike f fd) (z : Z mg) : FnG P w K mg base 1 f fd ["one", "two"] (spAlike K) := by
  refine FnG.mk' F sc_law_alike (fun vs H Q E h => ?_) (fun cdv A outer s H vs Q gd hr h => ?_)
  · obtain ⟨x, y, d, e, rfl, _⟩ := h
    rfl
  · obtain ⟨x, y, d, e, rfl, hd, he, gd1, gd2, q⟩ := h
    refine ⟨_, (pss_one (ps_ret (pe_cmpR op_eq (pe_callB (call_reprD gd hr.units) (by rfl) z.repr (by decide +kernel) (pa_cons (pv 0) pa_nil)) (pe_callB (call_reprD gd hr.units) (by rfl) z.repr (by decide +kernel) (pa_cons (pv 1) pa_nil)) (nomark _)))), ?_⟩
    refine ⟨x, rfl, x, d, rfl, hd, gd1.ok, gd1.nd, gd1.dep, gd1.sz, y, rfl, y, e, rfl, he, gd2.ok, gd2.nd, gd2.dep, gd2.sz, rfl, ?_⟩
    have eq : decide (V.str d.shown = V.str e.shown) = decide (d.shown = e.shown) := by
      by_cases h : d.shown = e.shown
      · rw [decide_eq_true h, h]
        exact decide_eq_true rfl
      · rw [decide_eq_false h]
        exact decide_eq_false fun e => h (V.str.inj e)
    show Q (.bl (decide (V.str d.shown = V.str e.shown))) H
    rw [eq]
    exact q
end
end K45

namespace K45
open PySem PySem.Spec PyProof.Rows L2 Pg
theorem names8_ok : ∀ z ∈ names8, z.length ≤ 2 ∧ z.cps.toList.all safeB = true := by decide +kernel
/-- what a text is made of -/
def parts (nm : Str) : List Str := [("<" ++ nm) ++ ">", ("<" ++ nm) ++ ">", ("<@" ++ nm) ++ ">", ("<@" ++ nm) ++ ">", ("[" ++ nm) ++ "]", ("[" ++ nm) ++ "]", "x", nm, "y z", "!", "<", "[>]"]
theorem parts_ok : ∀ nm ∈ names8, ∀ z ∈ parts nm, z.length ≤ 5 ∧ z.cps.toList.all safeB = true := by decide +kernel
theorem sum1 {x nm : Str} (hx : x.length ≤ 2) (h : nm.length ≤ 2) : x.length + nm.length ≤ sizeLine := sizeLine_big (by omega)
theorem sum2 {x nm y : Str} (hx : x.length ≤ 2) (h : nm.length ≤ 2) (hy : y.length ≤ 1) : (x ++ nm).length + y.length ≤ sizeLine := by
  rw [len_app]
  exact sizeLine_big (by omega)
def spText : Sp := fun vs H Q _ => ∃ (b : Addr) (most : Nat), vs = [.ref b, .int (most : Nat)] ∧ most ≤ 100 ∧ Box H b ∧ ∀ (z : Str) (H' : Hp), z.length ≤ 60 → Safe z → Drew b H H' → Q (.str z) H'
/-- a name: 1 to 6 letters -/
def nameB (z : Str) : Bool := z.cps.toList.all (fun c => decide (97 ≤ c ∧ c ≤ 122)) && decide (1 ≤ z.length ∧ z.length ≤ 6)
def spIsName : Sp := fun vs H Q _ => ∃ z : Str, vs = [.str z] ∧ z.length ≤ 1000 ∧ Q (.bl (nameB z)) H
def alphabet : Str := "abcdefghijklmnopqrstuvwxyz"
theorem alphabet_has : ∀ c : Nat, c ∈ alphabet.cps.toList ↔ 97 ≤ c ∧ c ≤ 122 := by
  have e : alphabet.cps.toList = List.range' 97 26 := by decide +kernel
  intro c
  rw [e, List.mem_range'_1]
  omega
section
variable {P : Program} {w : World} {K : PySem.W.Frag} {mg : Str → Option Value} {base : Heap} {f : Addr} {fd : FuncData}
theorem ok_law_name (F : Fun K "_law_name" "_law_name" s_law_name f fd) (z : Z mg) (claw_draw : Cal P w K mg base "_law_draw" 1 ["box", "many"] spDraw) : FnOk P w K mg base CX0 2 f fd ["box"] spName := by
  refine F.ok sc_law_name (fun vs H Q E h => ?_) (fun cdv A outer s H vs Q E hr h => ?_)
  · obtain ⟨b, rfl, _⟩ := h
    rfl
  · obtain ⟨b, rfl, hb, q⟩ := h
    refine ⟨_, (pss_one (ps_ret (pe_ix ix_list (pe_lst (pa_cons pe_str (pa_cons pe_str (pa_cons pe_str (pa_cons pe_str (pa_cons pe_str (pa_cons pe_str (pa_cons pe_str (pa_cons pe_str pa_nil))))))))) (pe_cal claw_draw (hr.mono (by decide)) (by rfl) (pa_cons (pv 0) (pa_cons pe_int pa_nil))) (fun _ _ => rfl)))), ?_⟩
    refine ⟨by show 8 ≤ sizeLine; decide, fun p np => ?_⟩
    refine ⟨.ref b, rfl, b, 8, rfl, by decide, hb.same (same_new np), fun r H' r0 r1 dr => ?_⟩
    have hp : H' p = some (.lst (names8.map V.str)) := dr.keep p _ (hb.ne np) upd_same
    obtain ⟨v, hv, at_v⟩ := at_in (xs := names8.map V.str) r0 r1
    obtain ⟨z, hz, rfl⟩ := List.mem_map.mp hv
    exact ⟨p, _, _, _, rfl, rfl, .inl (.inl hp), at_v, q z H' hz (dr.pre (same_new np))⟩
theorem ok_law_text (F : Fun K "_law_text" "_law_text" s_law_text f fd) (z : Z mg) (claw_draw : Cal P w K mg base "_law_draw" 1 ["box", "many"] spDraw) (claw_name : Cal P w K mg base "_law_name" 2 ["box"] spName) :
    FnOk P w K mg base CX0 3 f fd ["box", "most"] spText := by
  refine F.ok sc_law_text (fun vs H Q E h => ?_) (fun cdv A outer s H vs Q E hr h => ?_)
  · obtain ⟨b, most, rfl, _⟩ := h
    rfl
  · obtain ⟨b, most, rfl, hm, hb, q⟩ := h
    refine ⟨_, (pss_cons (ps_set (i := 2) sc_law_text.nd rfl (Or.inl rfl) pe_str)
      (pss_cons (ps_for PassesOwn.never rfl (pi_range1 (by rfl) z.range (pa_cons (pe_cal claw_draw (hr.mono (by decide)) (by rfl) (pa_cons (pv 0) (pa_cons (pe_op op_add (pv 1) pe_int) pa_nil))) pa_nil)) (pg_name (i := 3) sc_law_text.nd rfl (Or.inl rfl))
        (pss_cons (ps_set (i := 4) sc_law_text.nd rfl (Or.inl rfl) (pe_cal claw_name (hr.mono (by decide)) (by rfl) (pa_cons (pv 0) pa_nil)))
        (pss_cons (ps_set (i := 5) sc_law_text.nd rfl (Or.inl rfl) (pe_cal claw_draw (hr.mono (by decide)) (by rfl) (pa_cons (pv 0) (pa_cons pe_int pa_nil))))
        (pss_one (ps_set (i := 2) sc_law_text.nd rfl (Or.inl rfl) (pe_op op_add_str (pv 2) (pe_ix ix_list (pe_lst (pa_cons (pe_op op_add_str (pe_op op_add_str pe_str (pv 4)) pe_str) (pa_cons (pe_op op_add_str (pe_op op_add_str pe_str (pv 4)) pe_str) (pa_cons (pe_op op_add_str (pe_op op_add_str pe_str (pv 4)) pe_str) (pa_cons (pe_op op_add_str (pe_op op_add_str pe_str (pv 4)) pe_str) (pa_cons (pe_op op_add_str (pe_op op_add_str pe_str (pv 4)) pe_str) (pa_cons (pe_op op_add_str (pe_op op_add_str pe_str (pv 4)) pe_str) (pa_cons pe_str (pa_cons (pv 4) (pa_cons pe_str (pa_cons pe_str (pa_cons pe_str (pa_cons pe_str pa_nil))))))))))))) (pv 5) (fun _ _ => rfl))))))))
      (pss_one (ps_ret (pe_slice sl_str (pv 2) po_none (po_some pe_int)))))), ?_⟩
    -- so many parts
    refine ⟨.ref b, rfl, _, rfl, _, _, rfl, rfl, b, _, rfl, (by show (0 : Int) < most + 1; omega), hb, fun n H1 n0 n1 d1 => ?_⟩
    have n1' : n < most + 1 := n1
    refine ⟨n, rfl, by omega, by omega, ?_⟩
    refine for_range (lo := 0) (n := n.toNat) (fun i σ H3 => ∃ (y3 y4 y5 : Option V) (t : Str), σ = [some (.ref b), some (.int (most : Nat)), some (.str t), y3, y4, y5] ∧ Drew b H H3 ∧ t.length ≤ 5 * i ∧ Safe t)
      ⟨_, _, _, _, rfl, d1, by decide, by intro c hc; cases hc⟩ ?_ ?_
    · rintro i σ H3 hi ⟨y3, y4, y5, t, rfl, d3, few, safe⟩
      -- a name, a kind
      refine ⟨.ref b, rfl, b, rfl, d3.box, fun nm H4 hn d4 => ?_⟩
      refine ⟨.ref b, rfl, b, _, rfl, by decide, d4.box, fun kd H5 k0 k1 d5 => ?_⟩
      obtain ⟨nl, nsafe⟩ := names8_ok nm hn
      have a1 : ("<" : Str).length ≤ 2 := by decide
      have a2 : ("<@" : Str).length ≤ 2 := by decide
      have a3 : ("[" : Str).length ≤ 2 := by decide
      have b1 : (">" : Str).length ≤ 1 := by decide
      have b2 : ("]" : Str).length ≤ 1 := by decide
      -- text + [..][kind]
      refine ⟨_, rfl, _, rfl, _, _, rfl, rfl, sum1 a1 nl, _, _, rfl, rfl, sum2 a1 nl b1, _, rfl, _, _, rfl, rfl, sum1 a1 nl, _, _, rfl, rfl, sum2 a1 nl b1,
        _, rfl, _, _, rfl, rfl, sum1 a2 nl, _, _, rfl, rfl, sum2 a2 nl b1, _, rfl, _, _, rfl, rfl, sum1 a2 nl, _, _, rfl, rfl, sum2 a2 nl b1,
        _, rfl, _, _, rfl, rfl, sum1 a3 nl, _, _, rfl, rfl, sum2 a3 nl b2, _, rfl, _, _, rfl, rfl, sum1 a3 nl, _, _, rfl, rfl, sum2 a3 nl b2, _, rfl, ?_⟩
      refine ⟨by show 12 ≤ sizeLine; decide, fun p np => ?_⟩
      obtain ⟨v, hv, at_v⟩ := at_in (xs := (parts nm).map V.str) k0 k1
      obtain ⟨it, hit, rfl⟩ := List.mem_map.mp hv
      obtain ⟨il, isafe⟩ := parts_ok nm hn it hit
      have few' : t.length ≤ 500 := by omega
      refine ⟨_, rfl, p, _, _, _, rfl, rfl, .inl (.inl upd_same), at_v, _, _, rfl, rfl, sizeLine_big (by omega), ?_⟩
      exact ⟨_, _, _, t ++ it, rfl, ((d3.trans d4).trans d5).same (same_new np), by rw [len_app]; omega, safe.app (safe_of isafe)⟩
    · rintro σ H3 ⟨y3, y4, y5, t, rfl, d3, few, safe⟩
      have k60 : t.length ≤ 1000 := by omega
      refine ⟨_, rfl, _, rfl, _, rfl, sizeLine_big (by omega), ?_⟩
      have cc := cut_to t 60
      refine q _ H3 ?_ ?_ d3
      · rw [len_codes]
        have h := List.length_take_le 60 t.cps.toList
        rw [← cc] at h
        exact h
      · intro c hc
        have hc' : c ∈ (cutS t none (some ((60 : Nat) : Int))).cps.toList := hc
        rw [cc] at hc'
        exact safe c (List.mem_of_mem_take hc')
theorem ok_law_is_name (F : Fun K "_law_is_name" "_law_is_name" s_law_is_name f fd) (z : Z mg) : FnOk P w K mg base CX0 1 f fd ["text"] spIsName := by
  refine F.ok sc_law_is_name (fun vs H Q E h => ?_) (fun cdv A outer s H vs Q E hr h => ?_)
  · obtain ⟨z, rfl, _⟩ := h
    rfl
  · obtain ⟨t, rfl, few, q⟩ := h
    refine ⟨_, (pss_cons (ps_for PassesOwn.never rfl (pi_str (pv 0)) (pg_name (i := 1) sc_law_is_name.nd rfl (Or.inl rfl))
        (pss_one (ps_if (pt_cmpR op_notIn_sign (pv 1) pe_str (by rfl))
          (pss_one (ps_ret pe_bl))
          pss_nil)))
      (pss_one (ps_ret (pe_chain op_le op_le pe_int (pe_callB call_len_str (by rfl) z.len PySem.boot_len (pa_cons (pv 0) pa_nil)) pe_int)))), ?_⟩
    refine ⟨_, rfl, t, rfl, ?_⟩
    refine for_str (fun i σ H3 => ∃ y1 : Option V, σ = [some (.str t), y1] ∧ H3 = H ∧ ∀ c ∈ t.cps.toList.take i, 97 ≤ c ∧ c ≤ 122) ⟨none, rfl, rfl, by intro c hc; simp at hc⟩ ?_ ?_
    · rintro i c σ H3 hc ⟨y1, rfl, rfl, all⟩
      have mem : c ∈ t.cps.toList := List.mem_of_getElem? hc
      refine ⟨_, rfl, c, _, rfl, rfl, _, rfl, ite2 (fun e => ?_) (fun e => ?_)⟩
      · have no : ¬ (97 ≤ c ∧ c ≤ 122) := fun h => by
          have h' : c ∈ alphabet.cps.toList := (alphabet_has c).mpr h
          have e' : (!decide (c ∈ alphabet.cps.toList)) = true := e
          rw [decide_eq_true h'] at e'
          cases e'
        have : nameB t = false := by
          unfold nameB
          rw [Bool.and_eq_false_iff]
          left
          rw [List.all_eq_false]
          exact ⟨c, mem, by simpa using no⟩
        rw [this] at q
        exact q
      · have yes : 97 ≤ c ∧ c ≤ 122 := (alphabet_has c).mp (by
          have e' : ¬ (!decide (c ∈ alphabet.cps.toList)) = true := e
          simpa using e')
        refine ⟨_, rfl, rfl, fun d hd => ?_⟩
        rw [List.take_add_one, hc] at hd
        rcases List.mem_append.mp hd with h | h
        · exact all d h
        · simp at h
          rw [h]
          exact yes
    · rintro σ H3 ⟨y1, rfl, rfl, all⟩
      have full : t.cps.toList.take t.length = t.cps.toList := List.take_of_length_le (by rw [len_codes]; exact Nat.le_refl _)
      rw [full] at all
      have a1 : t.cps.toList.all (fun c => decide (97 ≤ c ∧ c ≤ 122)) = true := List.all_eq_true.mpr fun c hc => decide_eq_true (all c hc)
      have nb : nameB t = decide (1 ≤ t.length ∧ t.length ≤ 6) := by
        unfold nameB
        rw [a1, Bool.true_and]
      rw [nb] at q
      refine ⟨_, rfl, _, rfl, sizeLine_big (by omega), _, _, rfl, rfl, _, rfl, ite2 (fun e => ?_) (fun e => ?_)⟩
      · have e1 := of_decide_eq_true e
        refine ⟨_, _, rfl, rfl, ?_⟩
        have : decide ((t.length : Int) ≤ 6) = decide (1 ≤ t.length ∧ t.length ≤ 6) := by
          by_cases h : t.length ≤ 6
          · rw [decide_eq_true (by omega), decide_eq_true ⟨by omega, h⟩]
          · rw [decide_eq_false (by omega), decide_eq_false (fun z => h z.2)]
        rw [← this] at q
        exact q
      · have : decide (1 ≤ t.length ∧ t.length ≤ 6) = false := decide_eq_false fun z => e (decide_eq_true (by omega))
        rw [this] at q
        exact q
end
end K45

namespace K45
open PySem PySem.Spec PyProof.Rows L2 Pg
/-- one sign ahead of another -/
theorem sign_lt (a b : Nat) : decide ([a] < [b]) = decide (a < b) := by
  rw [StrLaws.lt_cons_cons, StrLaws.lt_nil_nil]
  simp
def spIsNameP : Sp := fun vs H Q _ => ∃ z : Str, vs = [.str z] ∧ z.length ≤ 1000 ∧ ∀ H', Same H H' → Q (.bl (nameB z)) H'
def afterB (x y : Str) : Bool := decide (y.cps.toList < x.cps.toList)
def spAfter : Sp := fun vs H Q _ => ∃ x y : Str, vs = [.str x, .str y] ∧ Q (.bl (afterB x y)) H
section
variable {P : Program} {w : World} {K : PySem.W.Frag} {mg : Str → Option Value} {base : Heap} {f : Addr} {fd : FuncData}
theorem ok_is_name (F : Fun K "is_name" "is_name" s_is_name f fd) (z : Z mg) : FnOk P w K mg base CX0 1 f fd ["text"] spIsNameP := by
  refine F.ok sc_is_name (fun vs H Q E h => ?_) (fun cdv A outer s H vs Q E hr h => ?_)
  · obtain ⟨z, rfl, _⟩ := h
    rfl
  · obtain ⟨t, rfl, few, q⟩ := h
    refine ⟨_, (pss_one (ps_ret (pe_and (pe_chain op_le op_le pe_int (pe_callB call_len_str (by rfl) z.len PySem.boot_len (pa_cons (pv 0) pa_nil)) (pe_cI (by rfl) z.c_NAME_MOST)) (pe_one (pe_callB (cr_all rfl) (by rfl) z.all (by decide +kernel) (pa_cons (pe_lc (own := [("sign", 1)]) (g := (gName 1)) (tt := tYes) rfl sc_is_name.nd (pi_str (pv 0)) (blkOk_by (own := [("sign", 1)]) (N := ["text", "sign"]) (sc := defScope s_is_name) (by decide +kernel)) (fun _ _ _ _ _ => pg_name (i := 1) sc_is_name.nd rfl (Or.inl rfl)) (fun _ _ _ _ _ => pts_nil) (fun _ _ _ _ _ => (pe_chain op_le_str op_le_str pe_str (pv 1) pe_str))) pa_nil)))))), ?_⟩
    have no : ¬ (1 ≤ t.length ∧ t.length ≤ 6) → nameB t = false := fun h => by
      unfold nameB
      rw [decide_eq_false h, Bool.and_false]
    refine ⟨_, rfl, _, rfl, sizeLine_big (by omega), _, _, rfl, rfl, _, rfl, ite2 (fun e => ?_) (fun e => ?_)⟩
    · have e1 := of_decide_eq_true e
      refine ⟨_, _, rfl, rfl, _, rfl, ite2 (fun e => ?_) (fun e => ?_)⟩
      · have e2 := of_decide_eq_true e
        -- all([..])
        refine ⟨_, rfl, t, rfl, fun D nD => ?_⟩
        refine lc_str (fun i H3 => H3 = upd H D (.lst ((t.cps.toList.take i).map fun c => V.bl (decide (97 ≤ c ∧ c ≤ 122))))) rfl ?_ ?_
        · rintro i c H3 hc rfl
          refine ⟨rfl, yes ?_⟩
          refine iteT ?_
          have step : ∀ b : Bool, b = decide (97 ≤ c ∧ c ≤ 122) → upd (upd H D (.lst ((t.cps.toList.take i).map fun c => V.bl (decide (97 ≤ c ∧ c ≤ 122))))) D (.lst (((t.cps.toList.take i).map fun c => V.bl (decide (97 ≤ c ∧ c ≤ 122))) ++ [V.bl b])) =
              upd H D (.lst ((t.cps.toList.take (i + 1)).map fun c => V.bl (decide (97 ≤ c ∧ c ≤ 122)))) := by
            rintro b rfl
            rw [upd_upd, List.take_add_one, hc, List.map_append]
            rfl
          have small : ((t.cps.toList.take i).map fun c => V.bl (decide (97 ≤ c ∧ c ≤ 122))).length < sizeLine := by
            rw [List.length_map, List.length_take, ← len_codes]
            exact small5 (by omega)
          refine ⟨_, rfl, _, _, rfl, rfl, _, rfl, ite2 (fun e => ?_) (fun e => ?_)⟩
          · have e1 : (!decide ([c] < [97])) = true := e
            rw [sign_lt] at e1
            refine ⟨_, _, rfl, rfl, _, upd_same, small, step _ ?_⟩
            show (!decide ([122] < [c])) = _
            rw [sign_lt]
            have c1 : 97 ≤ c := by simpa using e1
            by_cases h : c ≤ 122
            · simp [c1, h]
            · have h2 : 122 < c := by omega
              simp [h, h2]
          · have e1 : ¬ (!decide ([c] < [97])) = true := e
            rw [sign_lt] at e1
            refine ⟨_, upd_same, small, step _ ?_⟩
            have c1 : c < 97 := by simpa using e1
            exact (decide_eq_false (fun z => absurd z.1 (by omega))).symm
        · rintro H3 rfl
          have full : t.cps.toList.take t.length = t.cps.toList := List.take_of_length_le (by rw [len_codes]; exact Nat.le_refl _)
          rw [full]
          refine ⟨D, t.cps.toList.map fun c => decide (97 ≤ c ∧ c ≤ 122), rfl, .inl (.inl (by rw [upd_same, List.map_map]; rfl)), ?_⟩
          have := q _ (same_new (o := .lst (t.cps.toList.map fun c => V.bl (decide (97 ≤ c ∧ c ≤ 122)))) nD)
          have eq : (t.cps.toList.map fun c => decide (97 ≤ c ∧ c ≤ 122)).all id = nameB t := by
            unfold nameB
            rw [decide_eq_true (p := 1 ≤ t.length ∧ t.length ≤ 6) ⟨by omega, by omega⟩, Bool.and_true, List.all_map]
            rfl
          rw [eq]
          exact this
      · have e2 : ¬ t.length ≤ 6 := fun h => e (decide_eq_true (by omega))
        have := q H (Same.refl H)
        rw [no (fun h => e2 h.2)] at this
        exact this
    · have e1 : ¬ 1 ≤ t.length := fun h => e (decide_eq_true (by omega))
      have := q H (Same.refl H)
      rw [no (fun h => e1 h.1)] at this
      exact ⟨_, rfl, iteF this⟩
end
end K45

namespace K45
open PySem PySem.Spec PyProof.Rows L2 Pg
theorem Drew.put {b L : Addr} {H H' : Hp} {o : HO} (hb : Box H b) (x : Drew b H H') (hL : H L = none) : Drew b H (upd H' L o) := by
  have dg : ∀ d, BoxAt H b d → BoxAt (upd H' L o) b d := fun d e => (x.dig d e).upd (e.ne hL).1 (e.ne hL).2
  obtain ⟨d, e⟩ := hb
  exact ⟨⟨d, dg d e⟩, dg, fun p u n h => by rw [upd_ne (ne_of_none h hL)]; exact x.keep p u n h⟩
theorem Drew.fresh {b t : Addr} {H H' : Hp} (x : Drew b H H') (nt : H' t = none) : H t = none := by
  cases e : H t with
  | none => rfl
  | some o =>
    by_cases tb : t = b
    · obtain ⟨d, ⟨ds, n, h1, _⟩⟩ := x.box
      rw [tb, h1] at nt
      cases nt
    · rw [x.keep t o tb e] at nt
      cases nt
theorem inV_strs (x : Str) (ys : List Str) : inV (.str x) (ys.map V.str) = decide (x ∈ ys) := by
  unfold inV
  rw [List.any_map, Bool.eq_iff_iff, List.any_eq_true, decide_eq_true_eq]
  constructor
  · rintro ⟨y, hy, e⟩
    have e' : (y == x) = true := e
    rw [← eq_of_beq e']
    exact hy
  · intro h
    exact ⟨x, h, (beq_self_eq_true x : (x == x) = true)⟩
theorem flat_strs (ys : List Str) : (ys.map V.str).all flatV = true := by
  rw [List.all_map, List.all_eq_true]
  intro x _
  rfl
/-- drawn pages: names, each once -/
def spPagesL : Sp := fun vs H Q _ => ∃ b : Addr, vs = [.ref b] ∧ Box H b ∧ ∀ (t : Addr) (xs : List Str) (H' : Hp), H t = none → H' t = some (.tup (xs.map V.str)) → xs.Nodup → (∀ x ∈ xs, x ∈ names8) → xs.length ≤ 6 → Drew b H H' → Q (.ref t) H'
/-- a dict of texts -/
def DictS (H : Hp) (a : Addr) (kvs : List (Str × Str)) : Prop := H a = some (.dK (enc V.str kvs))
/-- drawn sources -/
def spSources : Sp := fun vs H Q _ => ∃ (b : Addr) (most : Nat), vs = [.ref b, .int (most : Nat)] ∧ most ≤ 100 ∧ Box H b ∧ ∀ (d : Addr) (kvs : List (Str × Str)) (H' : Hp), H d = none → DictS H' d kvs → (kvs.map (·.1)).Nodup → (∀ p ∈ kvs, p.1 ∈ names8 ∧ p.2.length ≤ 60 ∧ Safe p.2) → Drew b H H' → Q (.ref d) H'
section
variable {P : Program} {w : World} {K : PySem.W.Frag} {mg : Str → Option Value} {base : Heap} {f : Addr} {fd : FuncData}
theorem ok_law_pages (F : Fun K "_law_pages" "_law_pages" s_law_pages f fd) (z : Z mg) (claw_draw : Cal P w K mg base "_law_draw" 1 ["box", "many"] spDraw) (claw_name : Cal P w K mg base "_law_name" 2 ["box"] spName) :
    FnOk P w K mg base CX0 3 f fd ["box"] spPagesL := by
  refine F.ok sc_law_pages (fun vs H Q E h => ?_) (fun cdv A outer s H vs Q E hr h => ?_)
  · obtain ⟨b, rfl, _⟩ := h
    rfl
  · obtain ⟨b, rfl, hb, q⟩ := h
    refine ⟨_, (pss_cons (ps_set (i := 1) sc_law_pages.nd rfl (Or.inl rfl) (pe_lst pa_nil))
      (pss_cons (ps_for PassesOwn.never rfl (pi_range1 (by rfl) z.range (pa_cons (pe_cal claw_draw (hr.mono (by decide)) (by rfl) (pa_cons (pv 0) (pa_cons pe_int pa_nil))) pa_nil)) (pg_name (i := 2) sc_law_pages.nd rfl (Or.inl rfl))
        (pss_cons (ps_set (i := 3) sc_law_pages.nd rfl (Or.inl rfl) (pe_cal claw_name (hr.mono (by decide)) (by rfl) (pa_cons (pv 0) pa_nil)))
        (pss_one (ps_if (pt_cmpR op_notIn_seq (pv 3) (pv 1) (by rfl))
          (pss_one (ps_expr (pe_bm PySem.F.plainAttrs_list PySem.F.slot_list_append PySem.F.type_list_append mt_append (pv 1) (pa_cons (pv 3) pa_nil))))
          pss_nil))))
      (pss_one (ps_ret (pe_callTy call_tuple_of (by rfl) z.tuple (by decide +kernel) (pa_cons (pv 1) pa_nil)))))), ?_⟩
    refine ⟨Nat.zero_le _, fun L nL => ?_⟩
    have d0 : Drew b H (upd H L (.lst [])) := (Drew.of hb (Same.refl _)).put hb nL
    refine ⟨.ref b, rfl, b, 7, rfl, by decide, d0.box, fun n H1 n0 n1 d1 => ⟨n, rfl, by omega, by omega, ?_⟩⟩
    refine for_range (lo := 0) (n := n.toNat) (fun j σ H3 => ∃ (y2 y3 : Option V) (xs : List Str), σ = [some (.ref b), some (.ref L), y2, y3] ∧ H3 L = some (.lst (xs.map V.str)) ∧ xs.Nodup ∧ (∀ x ∈ xs, x ∈ names8) ∧ xs.length ≤ j ∧ Drew b H H3)
      ⟨_, _, [], rfl, d1.keep L _ (hb.ne nL) upd_same, List.nodup_nil, (by intro x hx; cases hx), Nat.le_refl _, d0.trans d1⟩ ?_ ?_
    · rintro j σ H3 hj ⟨y2, y3, xs, rfl, hL, nd, all, le, d3⟩
      refine ⟨.ref b, rfl, b, rfl, d3.box, fun nm H4 hn d4 => ?_⟩
      have hL4 := d4.keep L _ (hb.ne nL) hL
      refine ⟨_, rfl, .ref L, rfl, L, _, rfl, .inl (.inl (.inl hL4)), rfl, flat_strs xs, _, rfl, ?_⟩
      rw [inV_strs]
      refine ite2 (fun e => ?_) (fun e => ?_)
      · have nin : nm ∉ xs := by simpa using e
        refine ⟨.ref L, rfl, .inl ⟨rfl, _, .inl (.inl hL4)⟩, _, rfl, L, _, _, rfl, rfl, hL4, by rw [List.length_map]; exact small5 (by omega), ?_⟩
        refine ⟨_, _, xs ++ [nm], rfl, by rw [upd_same, List.map_append]; rfl, ?_, ?_, by rw [List.length_append]; show xs.length + 1 ≤ _; omega, (d3.trans d4).put hb nL⟩
        · rw [List.nodup_append]
          exact ⟨nd, by simp, fun a ha c hc => by rw [List.mem_singleton.mp hc]; rintro rfl; exact nin ha⟩
        · intro x hx
          rcases List.mem_append.mp hx with h | h
          · exact all x h
          · rw [List.mem_singleton.mp h]; exact hn
      · exact ⟨_, _, xs, rfl, hL4, nd, all, by omega, d3.trans d4⟩
    · rintro σ H3 ⟨y2, y3, xs, rfl, hL, nd, all, le, d3⟩
      refine ⟨.ref L, rfl, L, _, rfl, .inl ⟨.inl (.inl hL), fun t nt => ?_⟩⟩
      have nt0 := d3.fresh nt
      exact q t xs _ nt0 upd_same nd all (by omega) (d3.put hb nt0)
end
end K45

namespace K45
open PySem PySem.Spec PyProof.Rows L2 Pg
/-- any text of the law's menu -/
def spAny : Sp := fun vs H Q _ => ∃ b : Addr, vs = [.ref b] ∧ Box H b ∧ ∀ (z : Str) (H' : Hp), z.length ≤ 1000 → Plain z → Drew b H H' → Q (.str z) H'
/-- a sign of a text -/
def signB (c : Nat) : Bool := decide (32 ≤ c ∧ c ≤ 126 ∧ c ≠ 34 ∧ c ≠ 37)
def spOfText : Sp := fun vs H Q _ => ∃ c : Nat, vs = [.str ⟨#[c]⟩] ∧ Q (.bl (signB c)) H
def textB (z : Str) : Bool := decide (z.length ≤ 60) && z.cps.toList.all signB
def spIsText : Sp := fun vs H Q _ => ∃ z : Str, vs = [.str z] ∧ z.length ≤ 1000 ∧ ∀ H', Same H H' → Q (.bl (textB z)) H'
def pagesB (xs : List Str) : Bool := decide (xs.length ≤ 6) && decide xs.Nodup && xs.all nameB
def spPagesR (K : PySem.W.Frag) : Sp := fun vs H Q _ => ∃ (t : Addr) (xs : List Str), vs = [.ref t] ∧ SqL K H t (xs.map V.str) ∧ xs.length ≤ 1000 ∧ (∀ x ∈ xs, x.length ≤ 1000) ∧ ∀ H', Same H H' → Q (.bl (pagesB xs)) H'
theorem sq_same {K : PySem.W.Frag} {H H' : Hp} {a : Addr} {xs : List V} (h : SqL K H a xs) (s : Same H H') : SqL K H' a xs := by
  rcases h with (e | ⟨u, e⟩) | r
  · exact .inl (.inl (s _ _ e))
  · exact .inl (.inr ⟨u, s _ _ e⟩)
  · exact .inr r
theorem repS_plain {z : Str} (n : Nat) (h : Plain z) : Plain (repS z n) := by
  intro c hc
  have hc' : c ∈ (List.replicate n z.cps.toList).flatten := hc
  obtain ⟨l, hl, hm⟩ := List.mem_flatten.mp hc'
  rw [(List.mem_replicate.mp hl).2] at hm
  exact h c hm
theorem repS_len (z : Str) (n : Nat) : (repS z n).length = n * z.length := by simp [repS, Str.length]
def menu0 : List Str := ["", "a", repS "z" 6, repS "z" 7, "A", "a1", "a b", "<a>", "\"", "a\"b", "!!", "~"]
theorem menu0_ok : ∀ z ∈ menu0, z.length ≤ 7 ∧ z.cps.toList.all plainB = true := by decide +kernel
def menu1 : List Str := ["x", "!", " ", "~"]
theorem menu1_ok : ∀ z ∈ menu1, z.length = 1 ∧ z.cps.toList.all plainB = true := by decide +kernel
def menu1n : List Nat := [59, 60, 61, 6, 7]
theorem menu1n_ok : ∀ n ∈ menu1n, n ≤ 61 := by decide
def menu2 : List Str := ["", "", "a", "bcdef"]
theorem menu2_ok : ∀ z ∈ menu2, z.length ≤ 5 ∧ z.cps.toList.all plainB = true := by decide +kernel
theorem plain_of {z : Str} (h : z.cps.toList.all plainB = true) : Plain z := fun c hc => List.all_eq_true.mp h c hc
theorem Drew.at {b p : Addr} {H H2 : Hp} {o : HO} (hb : Box H b) (np : H p = none) (dr : Drew b (upd H p o) H2) : H2 p = some o :=
  dr.keep p _ (hb.ne np) upd_same
/-- options within their bounds -/
def mosts : List Int := [3, 100, 4, 100, 400, 200, 2000]
def inB (os : List Int) : Bool := decide (os.length = 7) && (os.zip mosts).all fun p => decide (1 ≤ p.1 ∧ p.1 ≤ p.2)
/-- so far within the bounds -/
def goodTo (os : List Int) (j : Nat) : Prop := os.length = j ∧ ∀ (i : Nat) (x t : Int), os[i]? = some x → mosts[i]? = some t → 1 ≤ x ∧ x ≤ t
theorem good_nil : goodTo [] 0 := ⟨rfl, fun i x t h => by simp at h⟩
theorem good_snoc {os : List Int} {j : Nat} {x t : Int} (g : goodTo os j) (ht : mosts[j]? = some t) (h1 : 1 ≤ x) (h2 : x ≤ t) : goodTo (os ++ [x]) (j + 1) := by
  obtain ⟨g1, g2⟩ := g
  refine ⟨by rw [List.length_append, g1]; rfl, fun i y u hy hu => ?_⟩
  by_cases lt : i < os.length
  · rw [List.getElem?_append_left lt] at hy
    exact g2 i y u hy hu
  · rw [List.getElem?_append_right (by omega)] at hy
    have e : i - os.length = 0 := by
      by_cases e : i - os.length = 0
      · exact e
      · rw [List.getElem?_eq_none (by simp; omega)] at hy
        cases hy
    have e2 : i = j := by omega
    rw [e] at hy
    obtain rfl : x = y := Option.some.inj hy
    rw [e2, ht] at hu
    obtain rfl := Option.some.inj hu
    exact ⟨h1, h2⟩
theorem inB_iff {os : List Int} : inB os = true ↔ goodTo os 7 := by
  unfold inB goodTo
  rw [Bool.and_eq_true, decide_eq_true_eq, List.all_eq_true]
  refine and_congr_right fun _ => ?_
  constructor
  · intro h i x t hx ht
    have m : (x, t) ∈ os.zip mosts := List.mem_of_getElem? (List.getElem?_zip_eq_some.mpr ⟨hx, ht⟩)
    exact of_decide_eq_true (h _ m)
  · intro h p hp
    obtain ⟨i, hi⟩ := List.getElem?_of_mem hp
    obtain ⟨hx, ht⟩ := List.getElem?_zip_eq_some.mp hi
    exact decide_eq_true (h i _ _ hx ht)
theorem seven {os : List Int} (h : os.length = 7) : ∃ o0 o1 o2 o3 o4 o5 o6, os = [o0, o1, o2, o3, o4, o5, o6] :=
  match os, h with
  | [o0, o1, o2, o3, o4, o5, o6], _ => ⟨o0, o1, o2, o3, o4, o5, o6, rfl⟩
/-- a tuple that the top has written -/
def TupK (K : PySem.W.Frag) (p : Addr) (xs : List V) : Prop := ∃ (o : Obj) (its : Array Value) (n : Nat), K.lookup p = some o ∧ o.cls = .type "tuple" ∧ o.data = .seq its n ∧ its.size ≤ sizeLine ∧ Vals xs its.toList
/-- the bounds of the options -/
structure Bounds (K : PySem.W.Frag) (mg : Str → Option Value) (bA : Addr) : Prop where
  glob : mg "_BOUNDS" = some (.ref bA)
  ex : ∃ ps : List Addr, TupK K bA (ps.map V.ref) ∧ ps.length = 7 ∧ ∀ (i : Nat) (p : Addr) (t : Int), ps[i]? = some p → mosts[i]? = some t → TupK K p [.int 1, .int t]
def spAre (K : PySem.W.Frag) : Sp := fun vs H Q _ => ∃ (p : Addr) (os : List Int), vs = [.ref p] ∧ SqT K H p (os.map V.int) ∧ os.length ≤ 1000 ∧ ∀ H', Same H H' → Q (.bl (inB os)) H'
section
variable {P : Program} {w : World} {K : PySem.W.Frag} {mg : Str → Option Value} {base : Heap} {f bA : Addr} {fd : FuncData}
theorem ok_is_of_text (F : Fun K "_is_of_text" "_is_of_text" s_is_of_text f fd) (z : Z mg) : FnOk P w K mg base CX0 1 f fd ["sign"] spOfText := by
  refine F.ok sc_is_of_text (fun vs H Q E h => ?_) (fun cdv A outer s H vs Q E hr h => ?_)
  · obtain ⟨c, rfl, _⟩ := h
    rfl
  · obtain ⟨c, rfl, q⟩ := h
    refine ⟨_, (pss_one (ps_ret (pe_and (pe_chain op_le_str op_le_str pe_str (pv 0) pe_str) (pe_and (pe_cmpR op_ne (pv 0) pe_str (nomark _)) (pe_one (pe_cmpR op_ne (pe_callB call_ord (by rfl) z.ord (by decide +kernel) (pa_cons (pv 0) pa_nil)) (pe_cI (by rfl) z.c__PERCENT) (nomark _))))))), ?_⟩
    have no : ¬ (32 ≤ c ∧ c ≤ 126 ∧ c ≠ 34 ∧ c ≠ 37) → Q (.bl false) H := fun h => by
      have e : signB c = false := decide_eq_false h
      rw [e] at q
      exact q
    refine ⟨_, rfl, _, _, rfl, rfl, _, rfl, ite2 (fun e => ?_) (fun e => ?_)⟩
    · have e1 : (!decide ([c] < [32])) = true := e
      rw [sign_lt] at e1
      have c1 : 32 ≤ c := by simpa using e1
      refine ⟨_, _, rfl, rfl, _, rfl, ite2 (fun e => ?_) (fun e => ?_)⟩
      · have e1 : (!decide ([126] < [c])) = true := e
        rw [sign_lt] at e1
        have c2 : c ≤ 126 := by simpa using e1
        refine ⟨_, rfl, rfl, _, rfl, ite2 (fun e => ?_) (fun e => ?_)⟩
        · have c3 : c ≠ 34 := by
            rintro rfl
            exact absurd e (by decide +kernel)
          refine ⟨_, rfl, _, rfl, rfl, rfl, ?_⟩
          have eq : signB c = (!decide (V.int (c : Nat) = V.int 37)) := by
            unfold signB
            by_cases h : c = 37
            · subst h
              rfl
            · have h2 : V.int (c : Nat) ≠ V.int 37 := fun z => h (by have := V.int.inj z; omega)
              rw [decide_eq_false h2, decide_eq_true ⟨c1, c2, c3, h⟩]
              rfl
          rw [eq] at q
          exact q
        · have c3 : c = 34 := by
            by_cases h : c = 34
            · exact h
            · exfalso
              apply e
              have h2 : V.str ⟨#[c]⟩ ≠ V.str "\"" := fun z => h (by
                have := congrArg (fun x : Str => x.cps.toList) (V.str.inj z)
                have e34 : (("\"" : Str)).cps.toList = [34] := by decide +kernel
                simp only [e34] at this
                simpa using this)
              show (!decide (V.str ⟨#[c]⟩ = V.str "\"")) = true
              rw [decide_eq_false h2]
              rfl
          exact no fun z => z.2.2.1 c3
      · have e1 : ¬ (!decide ([126] < [c])) = true := e
        rw [sign_lt] at e1
        have c2 : 126 < c := by simpa using e1
        exact no fun z => absurd z.2.1 (by omega)
    · have e1 : ¬ (!decide ([c] < [32])) = true := e
      rw [sign_lt] at e1
      have c1 : c < 32 := by simpa using e1
      exact ⟨_, rfl, iteF (no fun z => absurd z.1 (by omega))⟩
theorem ok_is_text (F : Fun K "is_text" "is_text" s_is_text f fd) (z : Z mg) (cis_of_text : Cal P w K mg base "_is_of_text" 1 ["sign"] spOfText) : FnOk P w K mg base CX0 2 f fd ["text"] spIsText := by
  refine F.ok sc_is_text (fun vs H Q E h => ?_) (fun cdv A outer s H vs Q E hr h => ?_)
  · obtain ⟨z, rfl, _⟩ := h
    rfl
  · obtain ⟨t, rfl, few, q⟩ := h
    refine ⟨_, (pss_one (ps_ret (pe_and (pe_cmpR op_le (pe_callB call_len_str (by rfl) z.len PySem.boot_len (pa_cons (pv 0) pa_nil)) (pe_cI (by rfl) z.c_TEXT_MOST) (nomark _)) (pe_one (pe_callB (cr_all rfl) (by rfl) z.all (by decide +kernel) (pa_cons (pe_lc (own := [("sign", 1)]) (g := (gName 1)) (tt := tYes) rfl sc_is_text.nd (pi_str (pv 0)) (blkOk_by (own := [("sign", 1)]) (N := ["text", "sign"]) (sc := defScope s_is_text) (by decide +kernel)) (fun _ _ _ _ _ => pg_name (i := 1) sc_is_text.nd rfl (Or.inl rfl)) (fun _ _ _ _ _ => pts_nil) (fun _ _ _ _ _ => (pe_cal cis_of_text (hr.mono (by decide)) (by rfl) (pa_cons (pv 1) pa_nil)))) pa_nil)))))), ?_⟩
    refine ⟨_, rfl, _, rfl, sizeLine_big (by omega), _, _, rfl, rfl, _, rfl, ite2 (fun e => ?_) (fun e => ?_)⟩
    · have e1 := of_decide_eq_true e
      refine ⟨_, rfl, t, rfl, fun D nD => ?_⟩
      refine lc_str (fun i H3 => H3 = upd H D (.lst ((t.cps.toList.take i).map fun c => V.bl (signB c)))) rfl ?_ ?_
      · rintro i c H3 hc rfl
        refine ⟨rfl, yes ?_⟩
        refine iteT ?_
        have small : ((t.cps.toList.take i).map fun c => V.bl (signB c)).length < sizeLine := by
          rw [List.length_map, List.length_take, ← len_codes]
          exact small5 (by omega)
        refine ⟨_, rfl, c, rfl, _, upd_same, small, ?_⟩
        rw [upd_upd, List.take_add_one, hc, List.map_append]
        rfl
      · rintro H3 rfl
        have full : t.cps.toList.take t.length = t.cps.toList := List.take_of_length_le (by rw [len_codes]; exact Nat.le_refl _)
        rw [full]
        refine ⟨D, t.cps.toList.map signB, rfl, .inl (.inl (by rw [upd_same, List.map_map]; rfl)), ?_⟩
        have eq : (t.cps.toList.map signB).all id = textB t := by
          unfold textB
          rw [decide_eq_true (p := t.length ≤ 60) (by omega), Bool.true_and, List.all_map]
          rfl
        rw [eq]
        exact q _ (same_new nD)
    · have e1 : ¬ t.length ≤ 60 := fun h => e (decide_eq_true (by omega))
      have eq : textB t = false := by
        unfold textB
        rw [decide_eq_false e1, Bool.false_and]
      have := q H (Same.refl H)
      rw [eq] at this
      exact this
theorem ok_are_pages (F : Fun K "are_pages" "are_pages" s_are_pages f fd) (z : Z mg) (cis_name : Cal P w K mg base "is_name" 1 ["text"] spIsNameP) : FnOk P w K mg base CX0 2 f fd ["names"] (spPagesR K) := by
  refine F.ok sc_are_pages (fun vs H Q E h => ?_) (fun cdv A outer s H vs Q E hr h => ?_)
  · obtain ⟨t, xs, rfl, _⟩ := h
    rfl
  · obtain ⟨t, xs, rfl, hT, few, lens, q⟩ := h
    refine ⟨_, (pss_cons (ps_if (PW.pt (pw_or (pt_cmpR op_gt (pe_callB call_len_seq (by rfl) z.len PySem.boot_len (pa_cons (pv 0) pa_nil)) (pe_cI (by rfl) z.c_PAGES_MOST) (nomark _)) (pw_or1 (pt_cmpR op_lt (pe_countL rfl (by rfl) z.len (by rfl) z.set (pv 0)) (pe_callB call_len_seq (by rfl) z.len PySem.boot_len (pa_cons (pv 0) pa_nil)) (nomark _)))))
        (pss_one (ps_ret pe_bl))
        pss_nil)
      (pss_one (ps_ret (pe_callB (cr_all rfl) (by rfl) z.all (by decide +kernel) (pa_cons (pe_lc (own := [("name", 1)]) (g := (gName 1)) (tt := tYes) rfl sc_are_pages.nd (pi_list (pv 0)) (blkOk_by (own := [("name", 1)]) (N := ["names", "name"]) (sc := defScope s_are_pages) (by decide +kernel)) (fun _ _ _ _ _ => pg_name (i := 1) sc_are_pages.nd rfl (Or.inl rfl)) (fun _ _ _ _ _ => pts_nil) (fun _ _ _ _ _ => (pe_cal cis_name (hr.mono (by decide)) (by rfl) (pa_cons (pv 1) pa_nil)))) pa_nil))))), ?_⟩
    have no : ¬ (xs.length ≤ 6 ∧ xs.Nodup) → Q (.bl false) H := fun h => by
      have e : pagesB xs = false := by
        unfold pagesB
        by_cases h1 : xs.length ≤ 6
        · have h2 : ¬ xs.Nodup := fun z => h ⟨h1, z⟩
          rw [decide_eq_false h2, Bool.and_false, Bool.false_and]
        · rw [decide_eq_false h1, Bool.false_and, Bool.false_and]
      have := q H (Same.refl H)
      rw [e] at this
      exact this
    refine ⟨.ref t, rfl, t, _, rfl, .inl hT, _, _, rfl, rfl, _, rfl, ite2 (fun e => ?_) (fun e => ?_)⟩
    · have e1 := of_decide_eq_true e
      rw [List.length_map] at e1
      refine iteT ?_
      exact no fun z => absurd z.1 (by omega)
    · have e1 : xs.length ≤ 6 := by
        by_cases h : xs.length ≤ 6
        · exact h
        · exact absurd (decide_eq_true (by rw [List.length_map]; omega)) e
      refine ⟨.ref t, rfl, t, xs, rfl, hT, few, .ref t, rfl, t, _, rfl, .inl hT, _, _, rfl, rfl, _, rfl, ite2 (fun e => ?_) (fun e => ?_)⟩
      · have e2 := of_decide_eq_true e
        rw [List.length_map] at e2
        exact no fun z => absurd ((cntS_full xs).mpr z.2) (by omega)
      · have e2 : xs.Nodup := by
          apply (cntS_full xs).mp
          have h1 := cntS_le xs
          by_cases h : cntS xs < xs.length
          · exact absurd (decide_eq_true (by rw [List.length_map]; omega)) e
          · omega
        -- all([..])
        refine ⟨.ref t, rfl, t, rfl, ⟨_, hT⟩, fun D nD => ?_⟩
        refine lc_list (K := K) (a := t) (xs := xs.map V.str) (fun i H3 => Same H H3 ∧ H3 D = some (.lst ((xs.take i).map fun x => V.bl (nameB x)))) ⟨same_new nD, upd_same⟩ (fun i H3 _ h => sq_same hT h.1) ?_ ?_
        · rintro i y H3 hy ⟨sm, hD⟩
          obtain ⟨x, hx, rfl⟩ : ∃ x, xs[i]? = some x ∧ y = V.str x := by
            rw [List.getElem?_map] at hy
            cases e : xs[i]? with
            | none => rw [e] at hy; cases hy
            | some x => rw [e] at hy; exact ⟨x, rfl, (Option.some.inj hy).symm⟩
          refine ⟨rfl, yes ?_⟩
          refine iteT ?_
          have small : ((xs.take i).map fun x => V.bl (nameB x)).length < sizeLine := by
            rw [List.length_map, List.length_take]
            exact small5 (by omega)
          refine ⟨_, rfl, x, rfl, lens x (List.mem_of_getElem? hx), fun H4 s4 => ⟨_, s4 _ _ hD, small, ?_, ?_⟩⟩
          · intro p o e
            rw [upd_ne (ne_of_none e nD)]
            exact s4 _ _ (sm _ _ e)
          · rw [upd_same, List.take_add_one, hx, List.map_append]
            rfl
        · rintro H3 ⟨sm, hD⟩
          rw [List.length_map, List.take_length] at hD
          refine ⟨D, xs.map nameB, rfl, .inl (.inl (by rw [hD, List.map_map]; rfl)), ?_⟩
          have eq : (xs.map nameB).all id = pagesB xs := by
            unfold pagesB
            rw [decide_eq_true e1, decide_eq_true e2, List.all_map]
            rfl
          rw [eq]
          exact q H3 sm
theorem ok_are_options (F : Fun K "are_options" "are_options" s_are_options f fd) (z : Z mg) (bd : Bounds K mg bA) : FnOk P w K mg base CX0 1 f fd ["options"] (spAre K) := by
  refine F.ok sc_are_options (fun vs H Q E h => ?_) (fun cdv A outer s H vs Q E hr h => ?_)
  · obtain ⟨p, os, rfl, _⟩ := h
    rfl
  · obtain ⟨p, os, rfl, hp, few, q⟩ := h
    refine ⟨_, (pss_cons (ps_if (pt_cmpR op_ne (pe_callB call_len_seq (by rfl) z.len PySem.boot_len (pa_cons (pv 0) pa_nil)) (pe_callB call_len_seq (by rfl) z.len PySem.boot_len (pa_cons (pe_glob (v := V.ref bA) (by rfl) bd.glob rfl) pa_nil)) (nomark _))
        (pss_one (ps_ret pe_bl))
        pss_nil)
      (pss_one (ps_ret (pe_callB (cr_all rfl) (by rfl) z.all (by decide +kernel) (pa_cons (pe_lc (own := [("value", 1), ("least", 2), ("most", 3)]) (g := (gTup K 2 (gCons (gName 1) (gCons (gTup K 2 (gCons (gName 2) (gCons (gName 3) gNil))) gNil)))) (tt := tYes) rfl sc_are_options.nd (RZ.pi_zipA (by rfl) z.zip (pa_cons (pv 0) (pa_cons (pe_glob (v := V.ref bA) (by rfl) bd.glob rfl) pa_nil))) (blkOk_by (own := [("value", 1), ("least", 2), ("most", 3)]) (N := ["options", "value", "least", "most"]) (sc := defScope s_are_options) (by decide +kernel)) (fun _ _ _ _ _ => (pg_tupK (K := K) rfl rfl (pgs_cons (pg_name (i := 1) sc_are_options.nd rfl (Or.inl rfl)) (pgs_cons (pg_tupK (K := K) rfl rfl (pgs_cons (pg_name (i := 2) sc_are_options.nd rfl (Or.inl rfl)) (pgs_cons (pg_name (i := 3) sc_are_options.nd rfl (Or.inl rfl)) pgs_nil))) pgs_nil)))) (fun _ _ _ _ _ => pts_nil) (fun _ _ _ _ _ => (pe_chain op_le op_le (pv 2) (pv 1) (pv 3)))) pa_nil))))), ?_⟩
    obtain ⟨ps, hB, lps, each⟩ := bd.ex
    have hB' : SqT K H bA (ps.map V.ref) := .inr hB
    have lB : (ps.map V.ref).length = 7 := by rw [List.length_map]; exact lps
    refine ⟨.ref p, rfl, p, _, rfl, .inr hp, bA, _, rfl, .inr hB', rfl, _, rfl, ite2 (fun e => ?_) (fun e => ?_)⟩
    · have no : inB os = false := by
        unfold inB
        rw [decide_eq_false (fun h => ?_), Bool.false_and]
        rw [lB, List.length_map, h] at e
        cases e
      have := q H (Same.refl H)
      rw [no] at this
      exact this
    · have hl : os.length = 7 := by
        apply Classical.byContradiction
        intro h
        apply e
        rw [lB, List.length_map]
        show (!decide (V.int (os.length : Nat) = V.int (7 : Nat))) = true
        rw [decide_eq_false fun z => h (by have := V.int.inj z; omega)]
        rfl
      refine ⟨_, rfl, p, bA, _, _, rfl, .inr ⟨hp, hB', fun D nD => ?_⟩⟩
      refine lc_zipT (K := K) (a := p) (b := bA) (xs := os.map V.int) (ys := ps.map V.ref) (by rw [List.length_map, hl, lB]) (fun i H3 => Same H H3 ∧ H3 D = some (.lst ((((os.zip mosts).map fun p => decide (1 ≤ p.1 ∧ p.1 ≤ p.2)).take i).map V.bl)))
        ⟨same_new nD, upd_same⟩ (fun i H3 ⟨sm, _⟩ => ⟨Pg.same_seqT sm hp, .inr hB⟩) ?_ ?_
      · rintro i x y T H3 hx hy ⟨sm, hD⟩ nT
        obtain ⟨v, hv, rfl⟩ : ∃ v, os[i]? = some v ∧ x = V.int v := by
          rw [List.getElem?_map] at hx
          cases e : os[i]? with
          | none => rw [e] at hx; cases hx
          | some t => rw [e] at hx; exact ⟨t, rfl, (Option.some.inj hx).symm⟩
        obtain ⟨pp, hpp, rfl⟩ : ∃ pp, ps[i]? = some pp ∧ y = V.ref pp := by
          rw [List.getElem?_map] at hy
          cases e : ps[i]? with
          | none => rw [e] at hy; cases hy
          | some t => rw [e] at hy; exact ⟨t, rfl, (Option.some.inj hy).symm⟩
        have lt : i < 7 := by
          have := (List.getElem?_eq_some_iff.mp hpp).1
          omega
        obtain ⟨t, ht⟩ : ∃ t, mosts[i]? = some t := ⟨_, List.getElem?_eq_getElem (show i < mosts.length from lt)⟩
        have TT := each i pp t hpp ht
        have nx : ((os.zip mosts).map fun p => decide (1 ≤ p.1 ∧ p.1 ≤ p.2)).take (i + 1) = ((os.zip mosts).map fun p => decide (1 ≤ p.1 ∧ p.1 ≤ p.2)).take i ++ [decide (1 ≤ v ∧ v ≤ t)] := by
          rw [List.take_add_one]
          congr 1
          rw [List.getElem?_map, show (os.zip mosts)[i]? = some (v, t) from List.getElem?_zip_eq_some.mpr ⟨hv, ht⟩]
          rfl
        have small : ((((os.zip mosts).map fun p => decide (1 ≤ p.1 ∧ p.1 ≤ p.2)).take i).map V.bl).length < sizeLine := by
          rw [List.length_map]
          exact small5 (Nat.le_trans (List.length_take_le _ _) (by omega))
        have hD' : (upd H3 T (.tup [.int v, .ref pp])) D = some (.lst ((((os.zip mosts).map fun p => decide (1 ≤ p.1 ∧ p.1 ≤ p.2)).take i).map V.bl)) := same_new nT _ _ hD
        have fin : ∀ b : Bool, b = decide (1 ≤ v ∧ v ≤ t) → ∃ acc, (upd H3 T (.tup [.int v, .ref pp])) D = some (.lst acc) ∧ acc.length < sizeLine ∧ (Same H (upd (upd H3 T (.tup [.int v, .ref pp])) D (.lst (acc ++ [V.bl b]))) ∧ (upd (upd H3 T (.tup [.int v, .ref pp])) D (.lst (acc ++ [V.bl b]))) D = some (.lst ((((os.zip mosts).map fun p => decide (1 ≤ p.1 ∧ p.1 ≤ p.2)).take (i + 1)).map V.bl))) := by
          rintro b rfl
          refine ⟨_, hD', small, fun a o e => ?_, ?_⟩
          · rw [upd_ne (ne_of_none e nD)]
            exact same_new nT _ _ (sm _ _ e)
          · rw [upd_same, nx, List.map_append]
            rfl
        refine ⟨T, _, rfl, .inl (.inl upd_same), rfl, _, _, rfl, _, _, rfl, pp, _, rfl, .inr TT, rfl, _, _, rfl, _, _, rfl, rfl, rfl, rfl, yes (iteT ?_)⟩
        refine ⟨_, rfl, _, rfl, _, _, rfl, rfl, _, rfl, ite2 (fun e => ?_) (fun e => ?_)⟩
        · have e1 := of_decide_eq_true e
          refine ⟨_, rfl, _, _, rfl, rfl, fin _ ?_⟩
          show decide (v ≤ t) = _
          by_cases h : v ≤ t
          · rw [decide_eq_true h, decide_eq_true ⟨e1, h⟩]
          · rw [decide_eq_false h, decide_eq_false fun z => h z.2]
        · refine fin false (decide_eq_false fun z => e (decide_eq_true z.1)).symm
      · rintro H3 ⟨sm, hD⟩
        rw [List.take_of_length_le (by rw [List.length_map, List.length_map, List.length_zip]; exact Nat.min_le_left _ _)] at hD
        refine ⟨D, _, rfl, .inl (.inl hD), ?_⟩
        have e7 : inB os = ((os.zip mosts).map fun p => decide (1 ≤ p.1 ∧ p.1 ≤ p.2)).all id := by
          unfold inB
          rw [decide_eq_true hl, Bool.true_and, List.all_map]
          rfl
        rw [← e7]
        exact q H3 sm
theorem ok_law_any (F : Fun K "_law_any" "_law_any" s_law_any f fd) (z : Z mg) (claw_draw : Cal P w K mg base "_law_draw" 1 ["box", "many"] spDraw) (claw_name : Cal P w K mg base "_law_name" 2 ["box"] spName)
    (claw_text : Cal P w K mg base "_law_text" 3 ["box", "most"] spText) : FnOk P w K mg base CX0 4 f fd ["box"] spAny := by
  refine F.ok sc_law_any (fun vs H Q E h => ?_) (fun cdv A outer s H vs Q E hr h => ?_)
  · obtain ⟨b, rfl, _⟩ := h
    rfl
  · obtain ⟨b, rfl, hb, q⟩ := h
    refine ⟨_, (pss_cons (ps_set (i := 1) sc_law_any.nd rfl (Or.inl rfl) (pe_cal claw_draw (hr.mono (by decide)) (by rfl) (pa_cons (pv 0) (pa_cons pe_int pa_nil))))
      (pss_cons (ps_if (pt_cmpR op_eq (pv 1) pe_int (nomark _))
        (pss_one (ps_ret (pe_ix ix_list (pe_lst (pa_cons pe_str (pa_cons pe_str (pa_cons (pe_op op_mulS pe_str pe_int) (pa_cons (pe_op op_mulS pe_str pe_int) (pa_cons pe_str (pa_cons pe_str (pa_cons pe_str (pa_cons pe_str (pa_cons pe_str (pa_cons pe_str (pa_cons pe_str (pa_cons pe_str pa_nil))))))))))))) (pe_cal claw_draw (hr.mono (by decide)) (by rfl) (pa_cons (pv 0) (pa_cons pe_int pa_nil))) (fun _ _ => rfl))))
        pss_nil)
      (pss_cons (ps_if (pt_cmpR op_eq (pv 1) pe_int (nomark _))
        (pss_one (ps_ret (pe_op op_mulS (pe_ix ix_list (pe_lst (pa_cons pe_str (pa_cons pe_str (pa_cons pe_str (pa_cons pe_str pa_nil))))) (pe_cal claw_draw (hr.mono (by decide)) (by rfl) (pa_cons (pv 0) (pa_cons pe_int pa_nil))) (fun _ _ => rfl)) (pe_ix ix_list (pe_lst (pa_cons pe_int (pa_cons pe_int (pa_cons pe_int (pa_cons pe_int (pa_cons pe_int pa_nil)))))) (pe_cal claw_draw (hr.mono (by decide)) (by rfl) (pa_cons (pv 0) (pa_cons pe_int pa_nil))) (fun _ _ => rfl)))))
        pss_nil)
      (pss_cons (ps_if (pt_cmpR op_eq (pv 1) pe_int (nomark _))
        (pss_one (ps_ret (pe_op op_add_str (pe_cal claw_name (hr.mono (by decide)) (by rfl) (pa_cons (pv 0) pa_nil)) (pe_ix ix_list (pe_lst (pa_cons pe_str (pa_cons pe_str (pa_cons pe_str (pa_cons pe_str pa_nil))))) (pe_cal claw_draw (hr.mono (by decide)) (by rfl) (pa_cons (pv 0) (pa_cons pe_int pa_nil))) (fun _ _ => rfl)))))
        pss_nil)
      (pss_one (ps_ret (pe_cal claw_text (hr.mono (by decide)) (by rfl) (pa_cons (pv 0) (pa_cons pe_int pa_nil))))))))), ?_⟩
    refine ⟨.ref b, rfl, b, _, rfl, by decide, hb, fun kd H1 k0 k1 d1 => ?_⟩
    refine ⟨_, rfl, rfl, _, rfl, ite2 (fun _ => ?_) (fun _ => ?_)⟩
    · -- one of twelve
      refine ⟨"z", 6, rfl, rfl, by decide, by decide, "z", 7, rfl, rfl, by decide, by decide, (by show 12 ≤ sizeLine; decide), fun p np => ?_⟩
      refine ⟨.ref b, rfl, b, _, rfl, by decide, d1.box.same (same_new np), fun r H3 r0 r1 d3 => ?_⟩
      obtain ⟨v, hv, at_v⟩ := at_in (xs := menu0.map V.str) r0 r1
      obtain ⟨x, hx, rfl⟩ := List.mem_map.mp hv
      obtain ⟨xl, xp⟩ := menu0_ok x hx
      exact ⟨p, _, _, _, rfl, rfl, .inl (.inl (d3.at d1.box np)), at_v, q _ H3 (by omega) (plain_of xp) (d1.trans (d3.pre (same_new np)))⟩
    refine ⟨_, rfl, rfl, _, rfl, ite2 (fun _ => ?_) (fun _ => ?_)⟩
    · -- a sign, many times
      refine ⟨(by show 4 ≤ sizeLine; decide), fun p np => ?_⟩
      refine ⟨.ref b, rfl, b, _, rfl, by decide, d1.box.same (same_new np), fun r H3 r0 r1 d3 => ?_⟩
      obtain ⟨v, hv, at_v⟩ := at_in (xs := menu1.map V.str) r0 r1
      obtain ⟨x, hx, rfl⟩ := List.mem_map.mp hv
      obtain ⟨xl, xp⟩ := menu1_ok x hx
      refine ⟨p, _, _, _, rfl, rfl, .inl (.inl (d3.at d1.box np)), at_v, ?_⟩
      refine ⟨(by show 5 ≤ sizeLine; decide), fun p2 np2 => ?_⟩
      refine ⟨.ref b, rfl, b, _, rfl, by decide, d3.box.same (same_new np2), fun r2 H4 r20 r21 d4 => ?_⟩
      obtain ⟨v2, hv2, at_v2⟩ := at_in (xs := menu1n.map fun n => V.int (n : Nat)) r20 r21
      obtain ⟨n, hn, rfl⟩ := List.mem_map.mp hv2
      have n61 := menu1n_ok n hn
      refine ⟨p2, _, _, _, rfl, rfl, .inl (.inl (d4.at d3.box np2)), at_v2, x, n, rfl, rfl, by omega, by omega, ?_⟩
      exact q _ H4 (by rw [repS_len, xl]; omega) (repS_plain n (plain_of xp)) ((d1.trans (d3.pre (same_new np))).trans (d4.pre (same_new np2)))
    refine ⟨_, rfl, rfl, _, rfl, ite2 (fun _ => ?_) (fun _ => ?_)⟩
    · -- a name and more
      refine ⟨.ref b, rfl, b, rfl, d1.box, fun nm H2 hn d2 => ?_⟩
      obtain ⟨nl, nsafe⟩ := names8_ok nm hn
      refine ⟨by show 4 ≤ sizeLine; decide, fun p np => ?_⟩
      refine ⟨.ref b, rfl, b, _, rfl, by decide, d2.box.same (same_new np), fun r H3 r0 r1 d3 => ?_⟩
      obtain ⟨v, hv, at_v⟩ := at_in (xs := menu2.map V.str) r0 r1
      obtain ⟨x, hx, rfl⟩ := List.mem_map.mp hv
      obtain ⟨xl, xp⟩ := menu2_ok x hx
      refine ⟨p, _, _, _, rfl, rfl, .inl (.inl (d3.at d2.box np)), at_v, _, _, rfl, rfl, sizeLine_big (by omega), ?_⟩
      exact q _ H3 (by rw [len_app]; omega) ((safe_of nsafe).plain.app (plain_of xp)) ((d1.trans d2).trans (d3.pre (same_new np)))
    · -- a text
      refine ⟨.ref b, rfl, b, 8, rfl, by decide, d1.box, fun t H2 few safe d2 => ?_⟩
      exact q t H2 (by omega) safe.plain (d1.trans d2)
end
end K45

namespace K45
open PySem PySem.Spec PyProof.Rows L2 Pg
open SX (S)
/-! ### words and texts by their codes -/
theorem joinL_cons {a : List Nat} {ps : List (List Nat)} (h : ps ≠ []) : TL.joinL [32] (a :: ps) = a ++ 32 :: TL.joinL [32] ps := by
  cases ps with
  | nil => exact absurd rfl h
  | cons q r => rfl
theorem spl_inv : ∀ (a acc : List Nat), 32 ∉ acc → TL.spl [32] 0 acc a ≠ [] ∧ (∀ p ∈ TL.spl [32] 0 acc a, 32 ∉ p) ∧ TL.joinL [32] (TL.spl [32] 0 acc a) = acc ++ a
  | [], acc, h => by
    rw [TL.spl_nil]
    exact ⟨by simp, fun p hp => by rw [List.mem_singleton.mp hp]; exact h, by show acc = acc ++ []; rw [List.append_nil]⟩
  | c :: r, acc, h => by
    by_cases e : c = 32
    · subst e
      rw [TL.spl_hit (S := [32]) (c := 32) (r := r) (TL.pre_self [32] r)]
      obtain ⟨i1, i2, i3⟩ := spl_inv r [] (by simp)
      refine ⟨by simp, fun p hp => ?_, ?_⟩
      · rcases List.mem_cons.mp hp with rfl | hp
        · exact h
        · exact i2 p hp
      · show TL.joinL [32] (acc :: TL.spl [32] 0 [] r) = _
        rw [joinL_cons i1, i3]
        rfl
    · rw [TL.spl_miss (TL.pre_of_head [] r e)]
      obtain ⟨i1, i2, i3⟩ := spl_inv r (acc ++ [c]) (fun z => by
        rcases List.mem_append.mp z with z | z
        · exact h z
        · exact e (List.mem_singleton.mp z).symm)
      exact ⟨i1, i2, by rw [i3, List.append_assoc]; rfl⟩
def words (a : List Nat) : List (List Nat) := TL.spl [32] 0 [] a
theorem words_ne (a : List Nat) : words a ≠ [] := (spl_inv a [] (by simp)).1
theorem words_free (a : List Nat) : ∀ p ∈ words a, 32 ∉ p := (spl_inv a [] (by simp)).2.1
theorem words_join (a : List Nat) : TL.joinL [32] (words a) = a := (spl_inv a [] (by simp)).2.2
theorem words_of {ps : List (List Nat)} (h : ps ≠ []) (f : ∀ p ∈ ps, 32 ∉ p) : words (TL.joinL [32] ps) = ps := TL.spl_join h f
theorem words_one {p : List Nat} (f : 32 ∉ p) : words p = [p] := words_of (ps := [p]) (by simp) (fun q hq => by rw [List.mem_singleton.mp hq]; exact f)
theorem words_cut {p q : List Nat} (h : 32 ∉ p) : words (p ++ 32 :: q) = p :: words q := TL.spl_part1 (S := []) (acc := []) h
theorem first_uniq {p p' q q' : List Nat} (h : 32 ∉ p) (h' : 32 ∉ p') (e : p ++ 32 :: q = p' ++ 32 :: q') : p = p' ∧ q = q' := by
  have e1 := congrArg words e
  rw [words_cut h, words_cut h'] at e1
  obtain ⟨e2, _⟩ := List.cons.inj e1
  subst e2
  exact ⟨rfl, (List.cons.inj (List.append_cancel_left e)).2⟩
theorem sp_S : (" " : Str) = S [32] := by decide +kernel
theorem split_words (a : List Nat) : Txt.split (S a) " " = (words a).map S := by
  rw [sp_S]
  exact SX.split_S (by simp) (by decide)
theorem part_cases (a : List Nat) : (∃ p q, 32 ∉ p ∧ a = p ++ 32 :: q ∧ Txt.partition (S a) " " = (S p, S [32], S q)) ∨ (32 ∉ a ∧ Txt.partition (S a) " " = (S a, S [], S [])) := by
  rw [sp_S]
  by_cases h : 32 ∈ a
  · obtain ⟨p, q, e, f⟩ := List.eq_append_cons_of_mem h
    exact .inl ⟨p, q, f, e, SX.partition_some (by simp) (by rw [e]; exact TL.par_part1 (S := []) (acc := []) f)⟩
  · exact .inr ⟨h, SX.partition_none (by simp) (TL.par_none1 h)⟩
/-! ### the first two blanks -/
open Builtin Builtin.Str StrLaws in
theorem lim_run (s sub : Str) (hi limit lo : Nat) (hw : 1 ≤ sub.length) : ∀ (m cur : Nat) (st : Array Nat × Nat), ChainG s sub hi lo st.fst.toList st.snd → st.fst.size ≤ limit → (st.fst.size < limit → ∀ k, st.snd ≤ k → k < cur → ¬ At s sub hi k) →
    ChainG s sub hi lo (forIn (List.range' cur m) st (occBody s sub hi limit)).run.fst.toList (forIn (List.range' cur m) st (occBody s sub hi limit)).run.snd ∧ (forIn (List.range' cur m) st (occBody s sub hi limit)).run.fst.size ≤ limit ∧
    ((forIn (List.range' cur m) st (occBody s sub hi limit)).run.fst.size < limit → ∀ k, (forIn (List.range' cur m) st (occBody s sub hi limit)).run.snd ≤ k → k < cur + m → ¬ At s sub hi k)
  | 0, cur, st, h, hl, hn => ⟨h, hl, hn⟩
  | m + 1, cur, st, h, hl, hn => by
    rw [List.range'_succ, List.forIn_cons]
    unfold occBody
    have e : cur + (m + 1) = (cur + 1) + m := by omega
    rw [e]
    split
    · rename_i hc
      refine lim_run s sub hi limit lo hw m (cur + 1) _ ?_ ?_ ?_
      · show ChainG s sub hi lo (st.fst.push cur).toList (cur + sub.length)
        rw [Array.toList_push]
        exact chainG_snoc h hc.1.1.2 ⟨hc.1.2, hc.2⟩ (hn hc.1.1.1)
      · show (st.fst.push cur).size ≤ limit
        rw [Array.size_push]; have := hc.1.1.1; omega
      · intro _ k h1 h2
        have h1' : cur + sub.length ≤ k := h1
        omega
    · rename_i hc
      refine lim_run s sub hi limit lo hw m (cur + 1) _ h hl ?_
      intro hs k h1 h2 hA
      by_cases hk : k < cur
      · exact hn hs k h1 hk hA
      · have ek : k = cur := by omega
        subst ek
        exact hc ⟨⟨⟨hs, h1⟩, hA.1⟩, hA.2⟩
open Builtin Builtin.Str StrLaws in
theorem occ_lim (x y : Str) (n : Nat) (hw : 1 ≤ y.length) : ∃ f, ChainG x y x.length 0 (occurrences x y 0 x.length n) f ∧ (occurrences x y 0 x.length n).length ≤ n ∧ ((occurrences x y 0 x.length n).length < n → ∀ k, f ≤ k → ¬ At x y x.length k) := by
  rw [occ_eq]
  have key := lim_run x y x.length n 0 hw (x.length + 1 - 0) 0 ((#[] : Array Nat), 0) rfl (Nat.zero_le _) (fun _ k _ h => by omega)
  refine ⟨_, key.1, by rw [Array.length_toList]; exact key.2.1, fun hs k hk hA => ?_⟩
  rw [Array.length_toList] at hs
  exact key.2.2 hs k hk (by have := hA.1; omega) hA
open Builtin Builtin.Str StrLaws in
theorem at32' {a : List Nat} {c : Nat} (h : At (S a) (S [32]) (S a).length c) : a.drop c = 32 :: a.drop (c + 1) := by
  have hp := (TL.at_iff (y := S [32]) (by simp [TL.tl]) c).mp h
  have hp : TL.pre [32] (a.drop c) = true := hp
  cases e : a.drop c with
  | nil => rw [e] at hp; cases hp
  | cons d r =>
    rw [e] at hp
    have d32 : d = 32 := by
      by_cases z : d = 32
      · exact z
      · rw [TL.pre_of_head [] r z] at hp; cases hp
    have er : a.drop (c + 1) = r := by rw [← List.drop_drop, e]; rfl
    rw [er, ← d32]
open Builtin Builtin.Str StrLaws in
theorem at32 {a : List Nat} {c : Nat} (h : At (S a) (S [32]) (S a).length c) : a = a.take c ++ 32 :: a.drop (c + 1) := by
  rw [← at32' h, List.take_append_drop]
open Builtin Builtin.Str StrLaws in
theorem split2 (a : List Nat) : (∃ p q r, 32 ∉ p ∧ 32 ∉ q ∧ a = p ++ 32 :: (q ++ 32 :: r) ∧ Txt.splitMax (S a) " " 2 = [S p, S q, S r]) ∨ ((Txt.splitMax (S a) " " 2).length < 3 ∧ ¬ ∃ p q r, 32 ∉ p ∧ 32 ∉ q ∧ a = p ++ 32 :: (q ++ 32 :: r)) := by
  rw [sp_S]
  have hl : (S a).length = a.length := SX.S_len a
  have w1 : (S [32]).length = 1 := rfl
  obtain ⟨f, ch, le, tight⟩ := occ_lim (S a) (S [32]) 2 (by decide)
  have kind : ¬ strKind (S a) < strKind (S [32]) := TL.kind_ok (by decide +kernel)
  have lim : limitOf (S a) 2 = 2 := rfl
  have free : ∀ {x y : Nat}, y ≤ a.length → (∀ k, x ≤ k → k < y → ¬ At (S a) (S [32]) (S a).length k) → 32 ∉ (a.drop x).take (y - x) := fun {x y} hy hn => by
    have := part_free (S a) 32 x y (by rw [hl]; exact hy) hn
    rw [show (strSub (S a) x y).cps.toList = _ from TL.tl_strSub (S a) x y] at this
    exact this
  have eq3 : Txt.splitMax (S a) (S [32]) 2 = if (occurrences (S a) (S [32]) 0 (S a).length 2).isEmpty = true then [S a] else partsFrom (S a) 1 0 (occurrences (S a) (S [32]) 0 (S a).length 2) := by
    unfold Txt.splitMax
    rw [lim]
    by_cases h1 : a.length < 1
    · have e0 : a = [] := List.length_eq_zero_iff.mp (by omega)
      subst e0
      decide +kernel
    · rw [if_neg (show ¬ (decide ((S a).length < (S [32]).length) || decide (strKind (S a) < strKind (S [32]))) = true from by
        rw [decide_eq_false kind, Bool.or_false, decide_eq_true_eq, hl, w1]; exact h1), partsBetween_eq]
      rfl
  rw [eq3]
  cases ho : occurrences (S a) (S [32]) 0 (S a).length 2 with
  | nil =>
    rw [ho] at ch tight
    have ef : f = 0 := ch
    refine .inr ⟨by show 1 < 3; decide, ?_⟩
    rintro ⟨p, q, r, hp, hq, e⟩
    refine tight (by decide) p.length (by omega) ((TL.at_iff (y := S [32]) (by simp [TL.tl]) p.length).mpr ?_)
    show TL.pre [32] (a.drop p.length) = true
    rw [e, List.drop_left]
    exact TL.pre_self [32] _
  | cons c1 r1 =>
    rw [ho] at ch tight le
    obtain ⟨_, h2, h3, h4⟩ := ch
    have e1 := at32 h2
    have b1 : c1 + 1 ≤ a.length := by have := h2.1; rw [hl, w1] at this; exact this
    have p1 := free (x := 0) (y := c1) (by omega) h3
    rw [List.drop_zero, Nat.sub_zero] at p1
    cases r1 with
    | nil =>
      have ef : f = c1 + 1 := h4
      refine .inr ⟨by show 2 < 3; decide, ?_⟩
      rintro ⟨p, q, r, hp, hq, e⟩
      obtain ⟨u1, u2⟩ := first_uniq hp p1 (e.symm.trans e1)
      refine tight (by show 1 < 2; decide) (c1 + 1 + q.length) (by omega) ((TL.at_iff (y := S [32]) (by simp [TL.tl]) _).mpr ?_)
      show TL.pre [32] (a.drop (c1 + 1 + q.length)) = true
      rw [← List.drop_drop, ← u2, List.drop_left]
      exact TL.pre_self [32] _
    | cons c2 r2 =>
      obtain ⟨g1, g2, g3, g4⟩ := h4
      have e2 := at32 g2
      have b2 : c2 + 1 ≤ a.length := by have := g2.1; rw [hl, w1] at this; exact this
      have g1 : c1 + 1 ≤ c2 := g1
      have p2 := free (x := c1 + 1) (y := c2) (by omega) g3
      have r2n : r2 = [] := by have : (c1 :: c2 :: r2).length ≤ 2 := le; simp at this; exact this
      subst r2n
      refine .inl ⟨a.take c1, (a.drop (c1 + 1)).take (c2 - (c1 + 1)), a.drop (c2 + 1), p1, p2, ?_, ?_⟩
      · have e3 : a.drop (c1 + 1) = (a.drop (c1 + 1)).take (c2 - (c1 + 1)) ++ 32 :: a.drop (c2 + 1) := by
          have d1 : (a.drop (c1 + 1)).drop (c2 - (c1 + 1)) = 32 :: a.drop (c2 + 1) := by
            rw [List.drop_drop, show c1 + 1 + (c2 - (c1 + 1)) = c2 by omega]
            exact at32' g2
          rw [← d1, List.take_append_drop]
        rw [← e3]
        exact e1
      · show [strSub (S a) 0 c1, strSub (S a) (c1 + 1) c2, strSub (S a) (c2 + 1) (S a).length] = _
        have t1 : strSub (S a) 0 c1 = S (a.take c1) := TL.ext_tl (by rw [TL.tl_strSub, List.drop_zero, Nat.sub_zero])
        have t2 : strSub (S a) (c1 + 1) c2 = S ((a.drop (c1 + 1)).take (c2 - (c1 + 1))) := TL.ext_tl (by rw [TL.tl_strSub])
        have t3 : strSub (S a) (c2 + 1) (S a).length = S (a.drop (c2 + 1)) := TL.ext_tl (by rw [TL.tl_strSub_end])
        rw [t1, t2, t3]
end K45

namespace K45
open PySem PySem.Spec PyProof.Rows L2 Pg
open SX (S)
/-! ### numbers as words -/
def digB (c : Nat) : Bool := decide (48 ≤ c ∧ c ≤ 57)
def numC (w : List Nat) : Bool := decide (1 ≤ w.length ∧ w.length ≤ 7) && w.all digB && (decide (w = [48]) || !decide (w.head? = some 48))
def val (w : List Nat) : Nat := NumText.digitsVal w
theorem val_snoc (u : List Nat) (c : Nat) : val (u ++ [c]) = val u * 10 + (c - 48) := by
  unfold val NumText.digitsVal
  rw [List.foldl_append]
  rfl
theorem dig_snoc {u : List Nat} {c : Nat} (h : (u ++ [c]).all digB = true) : u.all digB = true ∧ 48 ≤ c ∧ c ≤ 57 := by
  rw [List.all_append, Bool.and_eq_true] at h
  refine ⟨h.1, ?_⟩
  have h2 := h.2
  simp only [List.all_cons, List.all_nil, Bool.and_true] at h2
  exact of_decide_eq_true h2
theorem num_back : ∀ (n : Nat) (w : List Nat), w.length = n → w ≠ [] → w.all digB = true → (w = [48] ∨ w.head? ≠ some 48) → TL.numL (val w) = w := by
  intro n
  induction n with
  | zero => intro w h1 h2; exact absurd (List.length_eq_zero_iff.mp h1) h2
  | succ n ih =>
    intro w h1 h2 h3 h4
    obtain ⟨u, c, rfl⟩ : ∃ u c, w = u ++ [c] := ⟨w.dropLast, w.getLast h2, (List.dropLast_concat_getLast h2).symm⟩
    obtain ⟨d1, d2, d3⟩ := dig_snoc h3
    rw [val_snoc]
    by_cases e : u = []
    · subst e
      show TL.numL (0 * 10 + (c - 48)) = [c]
      rw [TL.numL_lt (by omega), show 48 + (0 * 10 + (c - 48)) = c by omega]
    · have hd : (u ++ [c]).head? = u.head? := by
        cases u with
        | nil => exact absurd rfl e
        | cons x r => rfl
      have h5 : u.head? ≠ some 48 := by
        rcases h4 with h4 | h4
        · have := congrArg List.length h4
          rw [List.length_append] at this
          have l1 := List.length_pos_iff.mpr e
          simp at this
          exact absurd this e
        · rw [← hd]; exact h4
      have lu : u.length = n := by rw [List.length_append] at h1; simp at h1; exact h1
      have iu := ih u lu e d1 (.inr h5)
      have v1 : 1 ≤ val u := by
        rcases Nat.eq_zero_or_pos (val u) with z | z
        · rw [z, TL.numL_lt (by decide)] at iu
          rw [← iu] at h5
          exact absurd rfl h5
        · exact z
      rw [TL.numL_step (by omega), show (val u * 10 + (c - 48)) / 10 = val u by omega, show 48 + (val u * 10 + (c - 48)) % 10 = c by omega, iu]
theorem numC_parts {w : List Nat} (h : numC w = true) : 1 ≤ w.length ∧ w.length ≤ 7 ∧ w.all digB = true ∧ (w = [48] ∨ w.head? ≠ some 48) := by
  unfold numC at h
  rw [Bool.and_eq_true, Bool.and_eq_true, Bool.or_eq_true] at h
  obtain ⟨⟨h1, h2⟩, h3⟩ := h
  have h1 := of_decide_eq_true h1
  refine ⟨h1.1, h1.2, h2, ?_⟩
  rcases h3 with h3 | h3
  · exact .inl (of_decide_eq_true h3)
  · exact .inr (by simpa using h3)
theorem num_word {w : List Nat} (h : numC w = true) : TL.numL (val w) = w := by
  obtain ⟨h1, h2, h3, h4⟩ := numC_parts h
  exact num_back _ w rfl (List.length_pos_iff.mp h1) h3 h4
theorem val_lt : ∀ (n : Nat) (w : List Nat), w.length = n → w.all digB = true → val w < 10 ^ n := by
  intro n
  induction n with
  | zero =>
    intro w h1 _
    rw [List.length_eq_zero_iff.mp h1]
    decide
  | succ n ih =>
    intro w h1 h3
    have h2 : w ≠ [] := fun e => by rw [e] at h1; cases h1
    obtain ⟨u, c, rfl⟩ : ∃ u c, w = u ++ [c] := ⟨w.dropLast, w.getLast h2, (List.dropLast_concat_getLast h2).symm⟩
    obtain ⟨d1, d2, d3⟩ := dig_snoc h3
    have := ih u (by rw [List.length_append] at h1; simp at h1; exact h1) d1
    rw [val_snoc, Nat.pow_succ]
    omega
theorem val_most {w : List Nat} (h : numC w = true) : val w ≤ 9999999 := by
  obtain ⟨h1, h2, h3, h4⟩ := numC_parts h
  have := val_lt _ w rfl h3
  have : (10 : Nat) ^ w.length ≤ 10 ^ 7 := Nat.pow_le_pow_right (by decide) h2
  have e : (10 : Nat) ^ 7 = 10000000 := by decide
  omega
theorem head_num : ∀ n : Nat, 1 ≤ n → (TL.numL n).head? ≠ some 48 := by
  intro n
  induction n using Nat.strongRecOn with
  | _ n ih =>
    intro h
    by_cases l : n < 10
    · rw [TL.numL_lt l]
      intro e
      have := Option.some.inj e
      omega
    · rw [TL.numL_step (by omega)]
      have i := ih (n / 10) (by omega) (by omega)
      cases e : TL.numL (n / 10) with
      | nil => exact absurd e (TL.numL_ne _)
      | cons x r => rw [e] at i; exact i
theorem num_canon {n : Nat} (h : n ≤ 9999999) : numC (TL.numL n) = true := by
  have l1 := List.length_pos_iff.mpr (TL.numL_ne n)
  have l2 : (TL.numL n).length ≤ 7 := TL.numL_len (by decide) (Nat.lt_of_le_of_lt h (by decide))
  unfold numC
  rw [decide_eq_true ⟨l1, l2⟩, Bool.true_and, Bool.and_eq_true]
  refine ⟨List.all_eq_true.mpr fun c hc => decide_eq_true (TL.numL_digits n c hc), ?_⟩
  by_cases z : n = 0
  · subst z
    rw [TL.numL_lt (by decide)]
    rfl
  · rw [decide_eq_false (head_num n (by omega))]
    simp
theorem num_free (n : Nat) : 32 ∉ TL.numL n := TL.numL_free (.inl (by decide))
/-! ### edits -/
inductive Ed
  | set (n t : List Nat)
  | rem (n : List Nat)
  | pgs (ps : List (List Nat))
def nameC (n : List Nat) : Bool := nameB (S n)
def textC (t : List Nat) : Bool := textB (S t)
def pagesC (ps : List (List Nat)) : Bool := pagesB (ps.map S)
def kSet : List Nat := [115, 101, 116]
def kRem : List Nat := [114, 101, 109, 111, 118, 101]
def kPgs : List Nat := [112, 97, 103, 101, 115]
def Ed.txt : Ed → List Nat
  | .set n t => kSet ++ 32 :: (n ++ 32 :: (34 :: (t ++ [34])))
  | .rem n => kRem ++ 32 :: n
  | .pgs ps => TL.joinL [32] (kPgs :: ps)
def Ed.ok : Ed → Prop
  | .set n t => nameC n = true ∧ textC t = true
  | .rem n => nameC n = true
  | .pgs ps => pagesC ps = true
def Ed.d : Ed → PyData
  | .set n t => .tuple [.str "set", .str (S n), .str (S t)]
  | .rem n => .tuple [.str "remove", .str (S n)]
  | .pgs ps => .tuple [.str "pages", .tuple ((ps.map S).map PyData.str)]
theorem name_codes {n : List Nat} (h : nameC n = true) : (∀ c ∈ n, 97 ≤ c ∧ c ≤ 122) ∧ 1 ≤ n.length ∧ n.length ≤ 6 := by
  unfold nameC nameB at h
  rw [Bool.and_eq_true] at h
  obtain ⟨h1, h2⟩ := h
  have h2 := of_decide_eq_true h2
  rw [SX.S_len] at h2
  exact ⟨fun c hc => of_decide_eq_true (List.all_eq_true.mp h1 c hc), h2⟩
theorem name_free {n : List Nat} (h : nameC n = true) : 32 ∉ n := fun m => by
  have := ((name_codes h).1 32 m).1
  omega
theorem pages_parts {ps : List (List Nat)} (h : pagesC ps = true) : ps.length ≤ 6 ∧ ps.Nodup ∧ ∀ p ∈ ps, nameC p = true := by
  unfold pagesC pagesB at h
  rw [Bool.and_eq_true, Bool.and_eq_true] at h
  obtain ⟨⟨h1, h2⟩, h3⟩ := h
  have h1 := of_decide_eq_true h1
  rw [List.length_map] at h1
  refine ⟨h1, (List.pairwise_map.mp (of_decide_eq_true h2)).imp fun h e => h (by rw [e]), fun p hp => ?_⟩
  exact List.all_eq_true.mp h3 (S p) (List.mem_map.mpr ⟨p, hp, rfl⟩)
theorem text_codes {t : List Nat} (h : textC t = true) : t.length ≤ 60 ∧ ∀ c ∈ t, 32 ≤ c ∧ c ≤ 126 ∧ c ≠ 34 ∧ c ≠ 37 := by
  unfold textC textB at h
  rw [Bool.and_eq_true] at h
  obtain ⟨h1, h2⟩ := h
  have h1 := of_decide_eq_true h1
  rw [SX.S_len] at h1
  exact ⟨h1, fun c hc => of_decide_eq_true (List.all_eq_true.mp h2 c hc)⟩
theorem words_set (n t : List Nat) : words (Ed.set n t).txt = kSet :: words (n ++ 32 :: (34 :: (t ++ [34]))) := words_cut (by decide)
theorem words_rem {n : List Nat} (h : 32 ∉ n) : words (Ed.rem n).txt = [kRem, n] := by
  show words (kRem ++ 32 :: n) = _
  rw [words_cut (by decide), words_one h]
theorem words_pgs {ps : List (List Nat)} (h : ∀ p ∈ ps, 32 ∉ p) : words (Ed.pgs ps).txt = kPgs :: ps := words_of (by simp) (fun p hp => by
  rcases List.mem_cons.mp hp with rfl | hp
  · decide
  · exact h p hp)
theorem Ed.inj {e f : Ed} (oe : e.ok) (of : f.ok) (h : e.txt = f.txt) : e = f := by
  have hw := congrArg words h
  cases e with
  | set n t =>
    cases f with
    | set n' t' =>
      have h1 := (List.cons.inj (List.append_cancel_left h)).2
      obtain ⟨e1, e2⟩ := first_uniq (name_free oe.1) (name_free of.1) h1
      have e3 := (List.cons.inj e2).2
      rw [e1, List.append_cancel_right e3]
    | rem n' =>
      rw [words_set, words_rem (name_free of)] at hw
      exact absurd (List.cons.inj hw).1 (by decide)
    | pgs ps' =>
      rw [words_set, words_pgs fun p hp => name_free ((pages_parts of).2.2 p hp)] at hw
      exact absurd (List.cons.inj hw).1 (by decide)
  | rem n =>
    cases f with
    | set n' t' =>
      rw [words_set, words_rem (name_free oe)] at hw
      exact absurd (List.cons.inj hw).1 (by decide)
    | rem n' =>
      rw [words_rem (name_free oe), words_rem (name_free of)] at hw
      rw [(List.cons.inj (List.cons.inj hw).2).1]
    | pgs ps' =>
      rw [words_rem (name_free oe), words_pgs fun p hp => name_free ((pages_parts of).2.2 p hp)] at hw
      exact absurd (List.cons.inj hw).1 (by decide)
  | pgs ps =>
    have f1 : ∀ p ∈ ps, 32 ∉ p := fun p hp => name_free ((pages_parts oe).2.2 p hp)
    cases f with
    | set n' t' =>
      rw [words_set, words_pgs f1] at hw
      exact absurd (List.cons.inj hw).1 (by decide)
    | rem n' =>
      rw [words_rem (name_free of), words_pgs f1] at hw
      exact absurd (List.cons.inj hw).1 (by decide)
    | pgs ps' =>
      rw [words_pgs f1, words_pgs fun p hp => name_free ((pages_parts of).2.2 p hp)] at hw
      rw [(List.cons.inj hw).2]
/-! ### records -/
inductive Rec
  | opt (ns : List Nat)
  | ver (ns : List Nat)
  | edt (k : Nat) (e : Ed)
def kOpt : List Nat := [111, 112, 116, 105, 111, 110, 115]
def kVer : List Nat := [118, 101, 114, 115, 105, 111, 110]
def kEdt : List Nat := [101, 100, 105, 116]
def ofN (ns : List Nat) : List Int := ns.map fun n => ((n : Nat) : Int)
def Rec.txt : Rec → List Nat
  | .opt ns => TL.joinL [32] (kOpt :: ns.map TL.numL)
  | .ver ns => TL.joinL [32] (kVer :: ns.map TL.numL)
  | .edt k e => kEdt ++ 32 :: (TL.numL k ++ 32 :: e.txt)
def Rec.ok : Rec → Prop
  | .opt ns => inB (ofN ns) = true
  | .ver ns => ns.length = 3 ∧ ∀ n ∈ ns, n ≤ 9999999
  | .edt k e => k ≤ 9999999 ∧ e.ok
def Rec.d : Rec → PyData
  | .opt ns => .tuple [.str "options", .tuple ((ofN ns).map PyData.int)]
  | .ver ns => .tuple (.str "version" :: (ofN ns).map PyData.int)
  | .edt k e => .tuple [.str "edit", .int (k : Nat), e.d]
theorem opt_parts {ns : List Nat} (h : inB (ofN ns) = true) : ns.length = 7 ∧ ∀ n ∈ ns, 1 ≤ n ∧ n ≤ 2000 := by
  obtain ⟨h1, h2⟩ := inB_iff.mp h
  unfold ofN at h1
  rw [List.length_map] at h1
  refine ⟨h1, fun n hn => ?_⟩
  obtain ⟨i, hi⟩ := List.getElem?_of_mem hn
  have il := (List.getElem?_eq_some_iff.mp hi).1
  obtain ⟨t, ht⟩ : ∃ t, mosts[i]? = some t := ⟨_, List.getElem?_eq_getElem (show i < mosts.length from by show i < 7; omega)⟩
  have tm : t ≤ 2000 := by
    have : ∀ t ∈ mosts, t ≤ 2000 := by decide
    exact this t (List.mem_of_getElem? ht)
  have := h2 i (n : Nat) t (by unfold ofN; rw [List.getElem?_map, hi]; rfl) ht
  omega
theorem nums_free {ns : List Nat} : ∀ p ∈ ns.map TL.numL, 32 ∉ p := fun p hp => by
  obtain ⟨n, _, rfl⟩ := List.mem_map.mp hp
  exact num_free n
theorem nums_inj : ∀ {ms ns : List Nat}, ms.map TL.numL = ns.map TL.numL → ms = ns
  | [], [], _ => rfl
  | [], _ :: _, h => by cases h
  | _ :: _, [], h => by cases h
  | m :: ms, n :: ns, h => by
    obtain ⟨h1, h2⟩ := List.cons.inj h
    rw [TL.numL_inj h1, nums_inj h2]
theorem words_opt (ns : List Nat) : words (Rec.opt ns).txt = kOpt :: ns.map TL.numL := words_of (by simp) (fun p hp => by
  rcases List.mem_cons.mp hp with rfl | hp
  · decide
  · exact nums_free p hp)
theorem words_ver (ns : List Nat) : words (Rec.ver ns).txt = kVer :: ns.map TL.numL := words_of (by simp) (fun p hp => by
  rcases List.mem_cons.mp hp with rfl | hp
  · decide
  · exact nums_free p hp)
theorem words_edt (k : Nat) (e : Ed) : words (Rec.edt k e).txt = kEdt :: words (TL.numL k ++ 32 :: e.txt) := words_cut (by decide)
theorem Rec.inj {r q : Rec} (ok1 : r.ok) (ok2 : q.ok) (h : r.txt = q.txt) : r = q := by
  have hw := congrArg words h
  cases r with
  | opt ns =>
    cases q with
    | opt ms => rw [words_opt, words_opt] at hw; rw [nums_inj (List.cons.inj hw).2]
    | ver ms => rw [words_opt, words_ver] at hw; exact absurd (List.cons.inj hw).1 (by decide)
    | edt k e => rw [words_opt, words_edt] at hw; exact absurd (List.cons.inj hw).1 (by decide)
  | ver ns =>
    cases q with
    | opt ms => rw [words_ver, words_opt] at hw; exact absurd (List.cons.inj hw).1 (by decide)
    | ver ms => rw [words_ver, words_ver] at hw; rw [nums_inj (List.cons.inj hw).2]
    | edt k e => rw [words_ver, words_edt] at hw; exact absurd (List.cons.inj hw).1 (by decide)
  | edt k e =>
    cases q with
    | opt ms => rw [words_edt, words_opt] at hw; exact absurd (List.cons.inj hw).1 (by decide)
    | ver ms => rw [words_edt, words_ver] at hw; exact absurd (List.cons.inj hw).1 (by decide)
    | edt k' e' =>
      have h1 := (List.cons.inj (List.append_cancel_left h)).2
      obtain ⟨e1, e2⟩ := first_uniq (num_free k) (num_free k') h1
      rw [TL.numL_inj e1, Ed.inj ok1.2 ok2.2 e2]
/-! ### neither begins nor ends with a blank -/
theorem last_app {a b : List Nat} (h : b ≠ []) : (a ++ b).getLast? = b.getLast? := by
  rw [List.getLast?_append]
  cases e : b.getLast? with
  | none => exact absurd (List.getLast?_eq_none_iff.mp e) h
  | some x => rfl
theorem last_cons {c : Nat} {b : List Nat} (h : b ≠ []) : (c :: b).getLast? = b.getLast? := last_app (a := [c]) h
theorem last_join {a : List Nat} {ps : List (List Nat)} (ha : a ≠ [] ∧ a.getLast? ≠ some 32) (h : ∀ p ∈ ps, p ≠ [] ∧ p.getLast? ≠ some 32) : (TL.joinL [32] (a :: ps)).getLast? ≠ some 32 := by
  induction ps generalizing a with
  | nil => exact ha.2
  | cons q r ih =>
    have i := ih (a := q) (h q List.mem_cons_self) fun p hp => h p (List.mem_cons_of_mem _ hp)
    rw [joinL_cons (by simp)]
    have ne : TL.joinL [32] (q :: r) ≠ [] := by
      cases r with
      | nil => exact (h q List.mem_cons_self).1
      | cons x y =>
        intro e
        have := congrArg List.length e
        rw [joinL_cons (by simp), List.length_append] at this
        simp at this
    rw [last_app (by simp), last_cons ne]
    exact i
theorem free_last {a : List Nat} (h : 32 ∉ a) : a.getLast? ≠ some 32 := fun e => h (List.mem_of_getLast? e)
theorem Ed.last {e : Ed} (ok : e.ok) : e.txt.getLast? ≠ some 32 := by
  cases e with
  | set n t =>
    show (kSet ++ 32 :: (n ++ 32 :: (34 :: (t ++ [34])))).getLast? ≠ _
    rw [show kSet ++ 32 :: (n ++ 32 :: (34 :: (t ++ [34]))) = (kSet ++ 32 :: (n ++ 32 :: (34 :: t))) ++ [34] by simp, List.getLast?_concat]
    decide
  | rem n =>
    have h := name_codes ok
    have ne : n ≠ [] := List.length_pos_iff.mp h.2.1
    show (kRem ++ 32 :: n).getLast? ≠ _
    rw [last_app (by simp), last_cons ne]
    exact free_last (name_free ok)
  | pgs ps => exact last_join ⟨by decide, by decide⟩ fun p hp => ⟨List.length_pos_iff.mp (name_codes ((pages_parts ok).2.2 p hp)).2.1, free_last (name_free ((pages_parts ok).2.2 p hp))⟩
theorem Ed.ne {e : Ed} : e.txt ≠ [] := by
  cases e with
  | set n t => intro h; cases h
  | rem n => intro h; cases h
  | pgs ps =>
    cases ps with
    | nil => intro h; cases h
    | cons p r => intro h; cases h
theorem Rec.last {r : Rec} (ok : r.ok) : r.txt.getLast? ≠ some 32 := by
  have num : ∀ {ns : List Nat}, ∀ p ∈ ns.map TL.numL, p ≠ [] ∧ p.getLast? ≠ some 32 := fun {ns} p hp => by
    obtain ⟨n, _, rfl⟩ := List.mem_map.mp hp
    exact ⟨TL.numL_ne n, free_last (num_free n)⟩
  cases r with
  | opt ns => exact last_join ⟨by decide, by decide⟩ num
  | ver ns => exact last_join ⟨by decide, by decide⟩ num
  | edt k e =>
    show (kEdt ++ 32 :: (TL.numL k ++ 32 :: e.txt)).getLast? ≠ _
    rw [show kEdt ++ 32 :: (TL.numL k ++ 32 :: e.txt) = (kEdt ++ 32 :: (TL.numL k ++ [32])) ++ e.txt by simp, last_app Ed.ne]
    exact Ed.last ok.2
theorem Rec.first (r : Rec) : r.txt.head? ≠ some 32 := by
  cases r with
  | opt ns =>
    cases ns with
    | nil => decide
    | cons n r => intro h; cases h
  | ver ns =>
    cases ns with
    | nil => decide
    | cons n r => intro h; cases h
  | edt k e => intro h; cases h
theorem Rec.no_behind {r q : Rec} (ok : q.ok) : q.txt ≠ r.txt ++ [32] := fun h => Rec.last ok (by rw [h, List.getLast?_concat])
theorem Rec.no_ahead {r q : Rec} : q.txt ≠ 32 :: r.txt := fun h => Rec.first q (by rw [h]; rfl)
end K45

namespace K45
open PySem PySem.Spec PyProof.Rows L2 Pg
open SX (S)
def spIsNum : Sp := fun vs H Q _ => ∃ z : Str, vs = [.str z] ∧ z.length ≤ 1000 ∧ ∀ H', Same H H' → Q (.bl (numC z.cps.toList)) H'
def spRNums (K : PySem.W.Frag) : Sp := fun vs H Q _ => ∃ (l : Addr) (ws : List (List Nat)), vs = [.ref l] ∧ SqL K H l ((ws.map S).map V.str) ∧ ws.length ≤ 1001 ∧ (∀ w ∈ ws, w.length ≤ 1000) ∧
  (ws.all numC = true → ∀ (H' : Hp) (t : Addr), Same H H' → H' t = some (.tup ((ofN (ws.map val)).map V.int)) → Q (.ref t) H') ∧ (ws.all numC = false → ∀ H', Same H H' → Q .non H')
theorem starts0 (z : Str) : Txt.startswith z "0" = decide (z.cps.toList.head? = some 48) := by
  have e0 : ("0" : Str) = ⟨#[48]⟩ := by decide +kernel
  rw [e0]
  have h := StrLaws.subAt_one z 48 0
  rw [Bool.eq_iff_iff, decide_eq_true_eq, List.head?_eq_getElem?, ← h]
  unfold Txt.startswith
  rw [Bool.and_eq_true, decide_eq_true_eq]
section
variable {P : Program} {w : World} {K : PySem.W.Frag} {mg : Str → Option Value} {base : Heap} {f : Addr} {fd : FuncData}
theorem ok_is_number (F : Fun K "_is_number" "_is_number" s_is_number f fd) (z : Z mg) : FnOk P w K mg base CX0 1 f fd ["word"] spIsNum := by
  refine F.ok sc_is_number (fun vs H Q E h => ?_) (fun cdv A outer s H vs Q E hr h => ?_)
  · obtain ⟨z, rfl, _⟩ := h
    rfl
  · obtain ⟨t, rfl, few, q⟩ := h
    refine ⟨_, (pss_cons (ps_if (PW.pt (pw_or (pt_not (pt_chain op_le op_le pe_int (pe_callB call_len_str (by rfl) z.len PySem.boot_len (pa_cons (pv 0) pa_nil)) (pe_cI (by rfl) z.c_DIGITS_MOST))) (pw_or1 (pt_not (pt_val (pe_callB (cr_all rfl) (by rfl) z.all (by decide +kernel) (pa_cons (pe_lc (own := [("sign", 1)]) (g := (gName 1)) (tt := tYes) rfl sc_is_number.nd (pi_str (pv 0)) (blkOk_by (own := [("sign", 1)]) (N := ["word", "sign"]) (sc := defScope s_is_number) (by decide +kernel)) (fun _ _ _ _ _ => pg_name (i := 1) sc_is_number.nd rfl (Or.inl rfl)) (fun _ _ _ _ _ => pts_nil) (fun _ _ _ _ _ => (pe_chain op_le_str op_le_str pe_str (pv 1) pe_str))) pa_nil)))))))
        (pss_one (ps_ret pe_bl))
        pss_nil)
      (pss_one (ps_ret (pe_or (pe_cmpR op_eq (pv 0) pe_str (nomark _)) (pe_one (pe_not (pe_bm PySem.F.plainAttrs_str PySem.F.slot_str_startswith PySem.F.type_str_startswith mt_startswith (pv 0) (pa_cons pe_str pa_nil)))))))), ?_⟩
    have no : numC t.cps.toList = false → Q (.bl false) H := fun h => by
      have := q H (Same.refl H)
      rw [h] at this
      exact this
    have lc := len_codes t
    have nolen : ¬ (1 ≤ t.length ∧ t.length ≤ 7) → numC t.cps.toList = false := fun h => by
      unfold numC
      rw [← lc, decide_eq_false h, Bool.false_and, Bool.false_and]
    refine ⟨_, rfl, _, rfl, sizeLine_big (by omega), _, _, rfl, rfl, _, rfl, ite2 (fun e1 => ?_) (fun e1 => ?_)⟩
    · have l1 := of_decide_eq_true e1
      refine ⟨_, _, rfl, rfl, _, rfl, ?_⟩
      by_cases h : t.length ≤ 7
      · rw [decide_eq_true (show ((t.length : Nat) : Int) ≤ 7 by omega)]
        refine iteF ?_
        -- all([..])
        refine ⟨_, rfl, t, rfl, fun D nD => ?_⟩
        refine lc_str (fun i H3 => H3 = upd H D (.lst ((t.cps.toList.take i).map fun c => V.bl (digB c)))) rfl ?_ ?_
        · rintro i c H3 hc rfl
          refine ⟨rfl, yes ?_⟩
          refine iteT ?_
          have step : ∀ b : Bool, b = digB c → upd (upd H D (.lst ((t.cps.toList.take i).map fun c => V.bl (digB c)))) D (.lst (((t.cps.toList.take i).map fun c => V.bl (digB c)) ++ [V.bl b])) =
              upd H D (.lst ((t.cps.toList.take (i + 1)).map fun c => V.bl (digB c))) := by
            rintro b rfl
            rw [upd_upd, List.take_add_one, hc, List.map_append]
            rfl
          have small : ((t.cps.toList.take i).map fun c => V.bl (digB c)).length < sizeLine := by
            rw [List.length_map, List.length_take, ← lc]
            exact small5 (by omega)
          refine ⟨_, rfl, _, _, rfl, rfl, _, rfl, ite2 (fun e => ?_) (fun e => ?_)⟩
          · have e1 : (!decide ([c] < [48])) = true := e
            rw [sign_lt] at e1
            refine ⟨_, _, rfl, rfl, _, upd_same, small, step _ ?_⟩
            show (!decide ([57] < [c])) = _
            rw [sign_lt]
            have c1 : 48 ≤ c := by simpa using e1
            unfold digB
            by_cases h : c ≤ 57
            · simp [c1, h]
            · have h2 : 57 < c := by omega
              simp [h, h2]
          · have e1 : ¬ (!decide ([c] < [48])) = true := e
            rw [sign_lt] at e1
            refine ⟨_, upd_same, small, step _ ?_⟩
            have c1 : c < 48 := by simpa using e1
            exact (decide_eq_false (fun z => absurd z.1 (by omega))).symm
        · rintro H3 rfl
          have full : t.cps.toList.take t.length = t.cps.toList := List.take_of_length_le (by rw [lc]; exact Nat.le_refl _)
          rw [full]
          have q' := q _ (same_new (o := .lst (t.cps.toList.map fun c => V.bl (digB c))) nD)
          refine ⟨D, t.cps.toList.map digB, rfl, .inl (.inl (by rw [upd_same, List.map_map]; rfl)), _, rfl, ?_⟩
          have eq : (t.cps.toList.map digB).all id = t.cps.toList.all digB := by
            rw [List.all_map]
            rfl
          rw [eq]
          unfold numC at q'
          rw [← lc, decide_eq_true (p := 1 ≤ t.length ∧ t.length ≤ 7) ⟨by omega, h⟩, Bool.true_and] at q'
          cases ea : t.cps.toList.all digB with
          | false =>
            rw [ea, Bool.false_and] at q'
            exact iteT q'
          | true =>
            rw [ea, Bool.true_and] at q'
            refine iteF ?_
            have e0 : decide (V.str t = V.str "0") = decide (t.cps.toList = [48]) := by
              have z0 : ("0" : Str) = S [48] := by decide +kernel
              rw [z0]
              by_cases h : t.cps.toList = [48]
              · rw [decide_eq_true h, decide_eq_true]
                rw [← h, SX.S_tl]
              · rw [decide_eq_false h, decide_eq_false]
                intro e
                rw [V.str.inj e] at h
                exact h rfl
            refine ⟨_, rfl, rfl, _, rfl, ?_⟩
            rw [e0]
            cases ec : decide (t.cps.toList = [48]) with
            | true =>
              rw [ec, Bool.true_or] at q'
              exact iteT q'
            | false =>
              rw [ec, Bool.false_or, ← starts0] at q'
              exact iteF ⟨_, rfl, rfl, _, _, rfl, rfl, _, rfl, q'⟩
      · rw [decide_eq_false (show ¬ ((t.length : Nat) : Int) ≤ 7 by omega)]
        exact iteT (no (nolen fun h' => h h'.2))
    · have l1 : ¬ 1 ≤ t.length := fun h => e1 (decide_eq_true (by omega))
      exact ⟨_, rfl, iteT (iteT (no (nolen fun h' => l1 h'.1)))⟩
theorem ok_read_numbers (F : Fun K "_read_numbers" "_read_numbers" s_read_numbers f fd) (z : Z mg) (cis_number : Cal P w K mg base "_is_number" 1 ["word"] spIsNum) : FnOk P w K mg base CX0 2 f fd ["words"] (spRNums K) := by
  refine F.ok sc_read_numbers (fun vs H Q E h => ?_) (fun cdv A outer s H vs Q E hr h => ?_)
  · obtain ⟨l, ws, rfl, _⟩ := h
    rfl
  · obtain ⟨l, ws, rfl, hl, few, lens, q1, q2⟩ := h
    refine ⟨_, (pss_cons (ps_if (pt_not (pt_val (pe_callB (cr_all rfl) (by rfl) z.all (by decide +kernel) (pa_cons (pe_lc (own := [("word", 1)]) (g := (gName 1)) (tt := tYes) rfl sc_read_numbers.nd (pi_list (pv 0)) (blkOk_by (own := [("word", 1)]) (N := ["words", "word"]) (sc := defScope s_read_numbers) (by decide +kernel)) (fun _ _ _ _ _ => pg_name (i := 1) sc_read_numbers.nd rfl (Or.inl rfl)) (fun _ _ _ _ _ => pts_nil) (fun _ _ _ _ _ => (pe_cal cis_number (hr.mono (by decide)) (by rfl) (pa_cons (pv 1) pa_nil)))) pa_nil))))
        (pss_one (ps_ret pe_non))
        pss_nil)
      (pss_one (ps_ret (pe_callTy call_tuple_of (by rfl) z.tuple (by decide +kernel) (pa_cons (pe_lc (own := [("word", 1)]) (g := (gName 1)) (tt := tYes) rfl sc_read_numbers.nd (pi_list (pv 0)) (blkOk_by (own := [("word", 1)]) (N := ["words", "word"]) (sc := defScope s_read_numbers) (by decide +kernel)) (fun _ _ _ _ _ => pg_name (i := 1) sc_read_numbers.nd rfl (Or.inl rfl)) (fun _ _ _ _ _ => pts_nil) (fun _ _ _ _ _ => (pe_callTy call_int_str (by rfl) z.int (by decide +kernel) (pa_cons (pv 1) pa_nil)))) pa_nil))))), ?_⟩
    refine ⟨.ref l, rfl, l, rfl, ⟨_, hl⟩, fun D nD => ?_⟩
    have item : ∀ {i : Nat} {y : V}, ((ws.map S).map V.str)[i]? = some y → ∃ x, ws[i]? = some x ∧ y = V.str (S x) := fun {i y} hy => by
      rw [List.map_map, List.getElem?_map] at hy
      cases e : ws[i]? with
      | none => rw [e] at hy; cases hy
      | some x => rw [e] at hy; exact ⟨x, rfl, (Option.some.inj hy).symm⟩
    refine lc_list (K := K) (a := l) (xs := (ws.map S).map V.str) (fun i H3 => Same H H3 ∧ H3 D = some (.lst ((ws.take i).map fun x => V.bl (numC x)))) ⟨same_new nD, upd_same⟩ (fun i H3 _ h => sq_same hl h.1) ?_ ?_
    · rintro i y H3 hy ⟨sm, hD⟩
      obtain ⟨x, hx, rfl⟩ := item hy
      have il := (List.getElem?_eq_some_iff.mp hx).1
      have small : ((ws.take i).map fun x => V.bl (numC x)).length < sizeLine := by
        rw [List.length_map, List.length_take]
        exact small5 (by omega)
      refine ⟨rfl, yes (iteT ?_)⟩
      refine ⟨_, rfl, S x, rfl, by rw [SX.S_len]; exact lens x (List.mem_of_getElem? hx), fun H4 s4 => ⟨_, s4 _ _ hD, small, ?_, ?_⟩⟩
      · intro p o e
        rw [upd_ne (ne_of_none e nD)]
        exact s4 _ _ (sm _ _ e)
      · rw [upd_same, List.take_add_one, hx, List.map_append]
        rfl
    · rintro H3 ⟨sm, hD⟩
      rw [List.length_map, List.length_map, List.take_length] at hD
      refine ⟨D, ws.map numC, rfl, .inl (.inl (by rw [hD, List.map_map]; rfl)), _, rfl, ?_⟩
      have eq : (ws.map numC).all id = ws.all numC := by
        rw [List.all_map]
        rfl
      rw [eq]
      cases ea : ws.all numC with
      | false => exact iteT (q2 ea H3 sm)
      | true =>
        refine iteF ?_
        have hl3 := sq_same hl sm
        refine ⟨.ref l, rfl, l, rfl, ⟨_, hl3⟩, fun D2 nD2 => ?_⟩
        refine lc_list (K := K) (a := l) (xs := (ws.map S).map V.str) (fun i H4 => Same H3 H4 ∧ H4 D2 = some (.lst ((ofN ((ws.take i).map val)).map V.int))) ⟨same_new nD2, upd_same⟩ (fun i H4 _ h => sq_same hl3 h.1) ?_ ?_
        · rintro i y H4 hy ⟨sm4, hD4⟩
          obtain ⟨x, hx, rfl⟩ := item hy
          have il := (List.getElem?_eq_some_iff.mp hx).1
          have nx := List.all_eq_true.mp ea x (List.mem_of_getElem? hx)
          obtain ⟨n1, n2, n3, n4⟩ := numC_parts nx
          have small : ((ofN ((ws.take i).map val)).map V.int).length < sizeLine := by
            unfold ofN
            rw [List.length_map, List.length_map, List.length_map, List.length_take]
            exact small5 (by omega)
          refine ⟨rfl, yes (iteT ?_)⟩
          refine ⟨_, rfl, S x, _, rfl, SX.int_S (List.all_eq_true.mpr fun c hc => by
            have := of_decide_eq_true (List.all_eq_true.mp n3 c hc)
            rw [decide_eq_true this.1, decide_eq_true this.2]; rfl) (List.length_pos_iff.mp n1) (by omega), by rw [SX.S_len]; omega, _, hD4, small, fun p o e => by rw [upd_ne (ne_of_none e nD2)]; exact sm4 _ _ e, ?_⟩
          rw [upd_same, List.take_add_one, hx]
          unfold ofN
          rw [List.map_append, List.map_append, List.map_append]
          rfl
        · rintro H4 ⟨sm4, hD4⟩
          rw [List.length_map, List.length_map, List.take_length] at hD4
          refine ⟨D2, _, rfl, .inl ⟨.inl (.inl hD4), fun t nt => ?_⟩⟩
          exact q1 ea _ t ((sm.trans sm4).trans (same_new nt)) upd_same
end
end K45

namespace K45
open PySem PySem.Spec PyProof.Rows L2 Pg
open SX (S)
def spRSet (K : PySem.W.Frag) : Sp := fun vs H Q _ => ∃ a : List Nat, vs = [.str (S a)] ∧ a.length ≤ 1000 ∧ (words a).head? = some kSet ∧
  (∀ (H' : Hp) (v : V) (n t : List Nat), Same H H' → (Ed.set n t).ok → (Ed.set n t).txt = a → Dp K H' v (Ed.set n t).d → Q v H') ∧ ((∀ n t, (Ed.set n t).ok → (Ed.set n t).txt ≠ a) → ∀ H', Same H H' → Q .non H')
def spREdit (K : PySem.W.Frag) : Sp := fun vs H Q _ => ∃ a : List Nat, vs = [.str (S a)] ∧ a.length ≤ 1000 ∧
  (∀ (H' : Hp) (v : V) (e : Ed), Same H H' → e.ok → e.txt = a → Dp K H' v e.d → Q v H') ∧ ((∀ e : Ed, e.ok → e.txt ≠ a) → ∀ H', Same H H' → Q .non H')
/-- without the first and the last sign -/
theorem inner_cut (t : List Nat) : cutS (S (34 :: (t ++ [34]))) (some 1) (some (-1)) = S t := by
  unfold cutS
  have hl : (S (34 :: (t ++ [34]))).length = t.length + 2 := by rw [SX.S_len]; simp
  have h1 : HT.sIx (S (34 :: (t ++ [34]))).length 0 (some 1) = 1 := by
    have := HT.sIx_nat (S (34 :: (t ++ [34]))).length 0 1
    rw [show ((1 : Nat) : Int) = 1 from rfl] at this
    rw [this, hl]
    omega
  have h2 : HT.sIx (S (34 :: (t ++ [34]))).length (S (34 :: (t ++ [34]))).length (some (-1)) = t.length + 1 := by
    rw [hl]
    show (if (-1 : Int) < 0 then ((-1 : Int) + ((t.length + 2 : Nat) : Int)).toNat else min (-1 : Int).toNat (t.length + 2)) = _
    rw [if_pos (by decide)]
    omega
  rw [h1, h2]
  have e : (((34 :: (t ++ [34])) : List Nat).drop 1).take (t.length + 1 - 1) = t := by
    show (t ++ [34]).take (t.length + 1 - 1) = t
    rw [show t.length + 1 - 1 = t.length by omega, List.take_left]
  exact congrArg S e
theorem cutS_len (z : Str) (lo hi : Option Int) : (cutS z lo hi).length ≤ z.length := by
  unfold cutS
  rw [SX.S_len, List.length_take, List.length_drop, ← len_codes]
  omega
theorem q_S : ("\"" : Str) = S [34] := by decide +kernel
section
variable {P : Program} {w : World} {K : PySem.W.Frag} {mg : Str → Option Value} {base : Heap} {f : Addr} {fd : FuncData}
theorem ok_read_set (F : Fun K "_read_set" "_read_set" s_read_set f fd) (z : Z mg) (cis_name : Cal P w K mg base "is_name" 1 ["text"] spIsNameP) (cis_text : Cal P w K mg base "is_text" 2 ["text"] spIsText) : FnOk P w K mg base CX0 3 f fd ["text"] (spRSet K) := by
  refine F.ok sc_read_set (fun vs H Q E h => ?_) (fun cdv A outer s H vs Q E hr h => ?_)
  · obtain ⟨a, rfl, _⟩ := h
    rfl
  · obtain ⟨a, rfl, few, hd, q1, q2⟩ := h
    refine ⟨_, (pss_cons (ps_set (i := 1) sc_read_set.nd rfl (Or.inl rfl) (pe_bm PySem.F.plainAttrs_str PySem.F.slot_str_split PySem.F.type_str_split mt_splitMax (pv 0) (pa_cons pe_str (pa_cons pe_int pa_nil))))
      (pss_cons (ps_if (PW.pt (pw_or (pt_cmpR op_lt (pe_callB call_len_seq (by rfl) z.len PySem.boot_len (pa_cons (pv 1) pa_nil)) pe_int (nomark _)) (pw_or1 (pt_not (pt_val (pe_cal cis_name (hr.mono (by decide)) (by rfl) (pa_cons (pe_ix ix_list (pv 1) pe_int (fun _ _ => rfl)) pa_nil)))))))
        (pss_one (ps_ret pe_non))
        pss_nil)
      (pss_cons (ps_set (i := 2) sc_read_set.nd rfl (Or.inl rfl) (pe_ix ix_list (pv 1) pe_int (fun _ _ => rfl)))
      (pss_cons (ps_set (i := 3) sc_read_set.nd rfl (Or.inl rfl) (pe_slice sl_str (pv 2) (po_some pe_int) (po_some (pe_un un_neg pe_int))))
      (pss_cons (ps_if (PW.pt (pw_or (pt_cmpR op_ne (pv 2) (pe_op op_add_str (pe_op op_add_str (pe_cS (by rfl) z.c__QUOTE) (pv 3)) (pe_cS (by rfl) z.c__QUOTE)) (nomark _)) (pw_or1 (pt_not (pt_val (pe_cal cis_text (hr.mono (by decide)) (by rfl) (pa_cons (pv 3) pa_nil)))))))
        (pss_one (ps_ret pe_non))
        pss_nil)
      (pss_one (ps_ret (pe_tup (pa_cons pe_str (pa_cons (pe_ix ix_list (pv 1) pe_int (fun _ _ => rfl)) (pa_cons (pv 3) pa_nil))))))))))), ?_⟩
    refine ⟨_, rfl, rfl, _, _, 2, rfl, rfl, by decide +kernel, by decide, by decide, sizeLine_big (by rw [SX.S_len]; omega), fun L nL => ?_⟩
    have sL := fun {o : HO} => same_new (o := o) nL
    rcases split2 a with ⟨p, n, r, fp, fn, ea, es⟩ | ⟨es, no⟩
    · rw [es]
      have hL : (upd H L (.lst ([S p, S n, S r].map V.str))) L = some (.lst [V.str (S p), .str (S n), .str (S r)]) := upd_same
      have s1 := sL (o := .lst ([S p, S n, S r].map V.str))
      generalize upd H L (.lst ([S p, S n, S r].map V.str)) = H1 at *
      have ep : p = kSet := by
        rw [ea, words_cut fp] at hd
        exact Option.some.inj hd
      subst ep
      have l3 := congrArg List.length ea
      rw [List.length_append, List.length_cons, List.length_append, List.length_cons] at l3
      refine ⟨.ref L, rfl, L, _, rfl, .inl (.inl (.inl hL)), _, _, rfl, rfl, _, rfl, iteF ?_⟩
      refine ⟨.ref L, rfl, L, _, _, .str (S n), rfl, rfl, .inl (.inl hL), atI_nat (j := 1) rfl, S n, rfl, by rw [SX.S_len]; omega, fun H2 s2 => ⟨_, rfl, ?_⟩⟩
      have s12 := s1.trans s2
      cases en : nameB (S n) with
      | false =>
        refine iteT (q2 (fun n' t' ok e => ?_) H2 s12)
        have := (first_uniq (name_free ok.1) fn (List.cons.inj (List.append_cancel_left (e.trans ea))).2).1
        have h1 : nameB (S n') = true := ok.1
        rw [this, en] at h1
        cases h1
      | true =>
        refine iteF ?_
        have hL2 := s2 _ _ hL
        refine ⟨.ref L, rfl, L, _, _, .str (S r), rfl, rfl, .inl (.inl hL2), atI_nat (j := 2) rfl, ?_⟩
        have hc : ∃ i, cutS (S r) (some 1) (some (-1)) = S i := ⟨_, (SX.S_tl _).symm⟩
        obtain ⟨i, hi⟩ := hc
        have li : i.length ≤ r.length := by
          have := cutS_len (S r) (some 1) (some (-1))
          rw [hi, SX.S_len, SX.S_len] at this
          exact this
        refine ⟨_, rfl, 1, rfl, _, rfl, _, rfl, S r, rfl, sizeLine_big (by rw [SX.S_len]; omega), ?_⟩
        rw [hi]
        refine ⟨_, rfl, _, rfl, _, _, rfl, rfl, sizeLine_big (by rw [q_S, SX.S_len, SX.S_len]; show 1 + _ ≤ _; omega), _, _, rfl, rfl, sizeLine_big (by rw [q_S, SX.S_cat, SX.S_len, SX.S_len]; simp; omega), rfl, _, rfl, ?_⟩
        have eQ : ("\"" : Str) ++ S i ++ "\"" = S (34 :: (i ++ [34])) := by rw [q_S, SX.S_cat, SX.S_cat]; rfl
        rw [eQ]
        have same : ∀ {n' t' : List Nat}, (Ed.set n' t').ok → (Ed.set n' t').txt = a → n' = n ∧ r = 34 :: (t' ++ [34]) ∧ t' = i := fun {n' t'} ok e => by
          obtain ⟨h1, h2⟩ := first_uniq (name_free ok.1) fn (List.cons.inj (List.append_cancel_left (e.trans ea))).2
          refine ⟨h1, h2.symm, ?_⟩
          rw [← h2, inner_cut] at hi
          exact SX.S_inj hi
        by_cases hr : r = 34 :: (i ++ [34])
        · have d1 : (!decide (V.str (S r) = V.str (S (34 :: (i ++ [34]))))) = false := by rw [← hr, decide_eq_true rfl]; rfl
          rw [d1]
          refine iteF ⟨_, rfl, S i, rfl, by rw [SX.S_len]; omega, fun H3 s3 => ⟨_, rfl, ?_⟩⟩
          cases et : textB (S i) with
          | false =>
            refine iteT (q2 (fun n' t' ok e => ?_) H3 (s12.trans s3))
            have h1 : textB (S t') = true := ok.2
            rw [(same ok e).2.2, et] at h1
            cases h1
          | true =>
            refine iteF ?_
            refine ⟨.ref L, rfl, L, _, _, .str (S n), rfl, rfl, .inl (.inl (s3 _ _ hL2)), atI_nat (j := 1) rfl, _, rfl, by show 3 ≤ sizeLine; decide, fun t nt => ?_⟩
            refine q1 _ _ n i ((s12.trans s3).trans (same_new nt)) ⟨en, et⟩ ?_ (.tup (.inl (.inl upd_same)) (.cons (.str _) (.cons (.str _) (.cons (.str _) .nil))))
            rw [ea, hr]
            rfl
        · have d1 : (!decide (V.str (S r) = V.str (S (34 :: (i ++ [34]))))) = true := by
            rw [decide_eq_false fun e => hr (SX.S_inj (V.str.inj e))]
            rfl
          rw [d1]
          refine iteT (iteT (q2 (fun n' t' ok e => ?_) H2 s12))
          obtain ⟨_, h2, h3⟩ := same ok e
          rw [h3] at h2
          exact hr h2
    · have hL : (upd H L (.lst ((Txt.splitMax (S a) " " 2).map V.str))) L = some (.lst ((Txt.splitMax (S a) " " 2).map V.str)) := upd_same
      refine ⟨.ref L, rfl, L, _, rfl, .inl (.inl (.inl hL)), _, _, rfl, rfl, _, rfl, ?_⟩
      rw [decide_eq_true (show ((((Txt.splitMax (S a) " " 2).map V.str).length : Nat) : Int) < 3 by rw [List.length_map]; omega)]
      refine iteT (iteT (q2 (fun n' t' ok e => ?_) _ sL))
      exact no ⟨kSet, n', 34 :: (t' ++ [34]), by decide, name_free ok.1, e.symm⟩
end
end K45

namespace K45
open PySem PySem.Spec PyProof.Rows L2 Pg
open SX (S)
theorem dS (u k : List Nat) : decide (V.str (S u) = V.str (S k)) = decide (u = k) := by
  by_cases h : u = k
  · rw [h, decide_eq_true rfl, decide_eq_true rfl]
  · rw [decide_eq_false h, decide_eq_false fun e => h (SX.S_inj (V.str.inj e))]
theorem set_S : ("set" : Str) = S kSet := by decide +kernel
theorem rem_S : ("remove" : Str) = S kRem := by decide +kernel
theorem pgs_S : ("pages" : Str) = S kPgs := by decide +kernel
theorem join_len : ∀ {ps : List (List Nat)}, ps ≠ [] → (∀ p ∈ ps, p.length ≤ (TL.joinL [32] ps).length) ∧ ps.length ≤ (TL.joinL [32] ps).length + 1
  | [], h => absurd rfl h
  | [p], _ => ⟨fun q hq => by rw [List.mem_singleton.mp hq]; exact Nat.le_refl _, by show 1 ≤ _ + 1; omega⟩
  | p :: q :: r, _ => by
    obtain ⟨h1, h2⟩ := join_len (ps := q :: r) (by simp)
    rw [joinL_cons (by simp), List.length_append, List.length_cons]
    refine ⟨fun x hx => ?_, ?_⟩
    · rcases List.mem_cons.mp hx with rfl | hx
      · omega
      · have := h1 x hx; omega
    · rw [List.length_cons]; omega
theorem words_len (a : List Nat) : (∀ p ∈ words a, p.length ≤ a.length) ∧ (words a).length ≤ a.length + 1 := by
  have := join_len (words_ne a)
  rw [words_join] at this
  exact this
theorem vstr_dp {K : PySem.W.Frag} {H : Hp} : ∀ l : List Str, DpAll K H (l.map V.str) (l.map PyData.str)
  | [] => .nil
  | _ :: r => .cons (.str _) (vstr_dp r)
section
variable {P : Program} {w : World} {K : PySem.W.Frag} {mg : Str → Option Value} {base : Heap} {f : Addr} {fd : FuncData}
theorem ok_read_edit (F : Fun K "read_edit" "read_edit" s_read_edit f fd) (z : Z mg) (cis_name : Cal P w K mg base "is_name" 1 ["text"] spIsNameP) (care_pages : Cal P w K mg base "are_pages" 2 ["names"] (spPagesR K)) (cread_set : Cal P w K mg base "_read_set" 3 ["text"] (spRSet K)) : FnOk P w K mg base CX0 4 f fd ["text"] (spREdit K) := by
  refine F.ok sc_read_edit (fun vs H Q E h => ?_) (fun cdv A outer s H vs Q E hr h => ?_)
  · obtain ⟨a, rfl, _⟩ := h
    rfl
  · obtain ⟨a, rfl, few, q1, q2⟩ := h
    refine ⟨_, (pss_cons (ps_asg (pe_bm PySem.F.plainAttrs_str PySem.F.slot_str_split PySem.F.type_str_split mt_split (pv 0) (pa_cons pe_str pa_nil)) (pg_starL rfl (pgs_cons (pg_name (i := 1) sc_read_edit.nd rfl (Or.inl rfl)) (pgs_cons (pg_name (i := 2) sc_read_edit.nd rfl (Or.inl rfl)) pgs_nil))))
      (pss_cons (ps_if (pt_cmpR op_eq (pv 1) pe_str (nomark _))
        (pss_one (ps_ret (pe_cal cread_set (hr.mono (by decide)) (by rfl) (pa_cons (pv 0) pa_nil))))
        pss_nil)
      (C8.pss_cut (ps_if (PW.pt (pw_and (pt_cmpR op_eq (pv 1) pe_str (nomark _)) (pw_and (pt_cmpR op_eq (pe_callB call_len_seq (by rfl) z.len PySem.boot_len (pa_cons (pv 2) pa_nil)) pe_int (nomark _)) (pw_and1 (pt_val (pe_cal cis_name (hr.mono (by decide)) (by rfl) (pa_cons (pe_ix ix_list (pv 2) pe_int (fun _ _ => rfl)) pa_nil)))))))
        (pss_one (ps_ret (pe_tup (pa_cons pe_str (pa_cons (pe_ix ix_list (pv 2) pe_int (fun _ _ => rfl)) pa_nil)))))
        pss_nil)
      (pss_cons (ps_if (PW.pt (pw_and (pt_cmpR op_eq (pv 1) pe_str (nomark _)) (pw_and1 (pt_val (pe_cal care_pages (hr.mono (by decide)) (by rfl) (pa_cons (pv 2) pa_nil))))))
        (pss_one (ps_ret (pe_tup (pa_cons pe_str (pa_cons (pe_callTy call_tuple_of (by rfl) z.tuple (by decide +kernel) (pa_cons (pv 2) pa_nil)) pa_nil)))))
        pss_nil)
      (pss_one (ps_ret pe_non)))))), ?_⟩
    obtain ⟨wl1, wl2⟩ := words_len a
    refine ⟨_, rfl, rfl, _, _, rfl, rfl, by decide +kernel, sizeLine_big (by rw [SX.S_len]; omega), fun L nL => ?_⟩
    rw [split_words]
    have s1 := same_new (o := .lst (((words a).map S).map V.str)) nL
    have hL : (upd H L (.lst (((words a).map S).map V.str))) L = some (.lst (((words a).map S).map V.str)) := upd_same
    generalize upd H L (.lst (((words a).map S).map V.str)) = H1 at *
    cases ew : words a with
    | nil => exact absurd ew (words_ne a)
    | cons w0 ws =>
      rw [ew] at hL wl1 wl2
      refine ⟨L, .str (S w0), (ws.map S).map V.str, rfl, .inl (.inl hL), by rw [List.length_map, List.length_map]; have : (w0 :: ws).length = ws.length + 1 := rfl; omega, fun D nD => ⟨_, _, rfl, _, _, rfl, rfl, ?_⟩⟩
      have s2 := s1.trans (same_new (o := .lst ((ws.map S).map V.str)) nD)
      have hD : (upd H1 D (.lst ((ws.map S).map V.str))) D = some (.lst ((ws.map S).map V.str)) := upd_same
      clear hL nL nD s1
      generalize upd H1 D (.lst ((ws.map S).map V.str)) = H2 at *
      have lws : ws.length ≤ 1000 := by have : (w0 :: ws).length = ws.length + 1 := rfl; omega
      refine ⟨_, rfl, rfl, _, rfl, ?_⟩
      have d1 : decide (V.str (S w0) = V.str "set") = decide (w0 = kSet) := by rw [set_S, dS]
      rw [d1]
      by_cases h1 : w0 = kSet
      · rw [decide_eq_true h1]
        refine iteT ⟨_, rfl, a, rfl, few, by rw [ew, h1]; rfl, fun H' v n t s ok e d => q1 H' v _ (s2.trans s) ok e d, fun no H' s => q2 (fun e ok h => ?_) H' (s2.trans s)⟩
        have hw := congrArg words h
        rw [ew, h1] at hw
        cases e with
        | set n t => exact no n t ok h
        | rem n => rw [words_rem (name_free ok)] at hw; exact absurd (List.cons.inj hw).1 (by decide)
        | pgs ps => rw [words_pgs fun p hp => name_free ((pages_parts ok).2.2 p hp)] at hw; exact absurd (List.cons.inj hw).1 (by decide)
      · rw [decide_eq_false h1]
        refine iteF ?_
        refine ⟨fun σ' H' => σ' = [some (.str (S a)), some (.str (S w0)), some (.ref D)] ∧ Same H2 H' ∧ ∀ n, nameC n = true → w0 :: ws ≠ [kRem, n], ?_, ?_⟩
        · have d2 : decide (V.str (S w0) = V.str "remove") = decide (w0 = kRem) := by rw [rem_S, dS]
          refine ⟨_, rfl, rfl, _, rfl, ?_⟩
          rw [d2]
          by_cases h2 : w0 = kRem
          · rw [decide_eq_true h2]
            refine iteT ?_
            refine ⟨.ref D, rfl, D, _, rfl, .inl (.inl (.inl hD)), rfl, _, rfl, ?_⟩
            cases ws with
            | nil => exact iteF (iteF ⟨rfl, Same.refl _, fun n _ e => by cases e⟩)
            | cons w1 ws1 =>
              cases ws1 with
              | cons w2 ws2 =>
                have d3 : decide (V.int ((((w1 :: w2 :: ws2).map S).map V.str).length : Nat) = V.int 1) = false := decide_eq_false fun e => by
                  have := V.int.inj e
                  simp at this
                  omega
                rw [d3]
                exact iteF (iteF ⟨rfl, Same.refl _, fun n _ e => by cases e⟩)
              | nil =>
                refine iteT ?_
                refine ⟨.ref D, rfl, D, _, _, .str (S w1), rfl, rfl, .inl (.inl hD), atI_nat (j := 0) rfl, S w1, rfl, by rw [SX.S_len]; have := wl1 w1 (by simp); omega, fun H3 s3 => ⟨_, rfl, ?_⟩⟩
                cases en : nameB (S w1) with
                | false => exact iteF ⟨rfl, s3, fun n hn e => by
                  have := (List.cons.inj (List.cons.inj e).2).1
                  rw [← this] at hn
                  have hn : nameB (S w1) = true := hn
                  rw [en] at hn; cases hn⟩
                | true =>
                  refine iteT ?_
                  refine ⟨.ref D, rfl, D, _, _, .str (S w1), rfl, rfl, .inl (.inl (s3 _ _ hD)), atI_nat (j := 0) rfl, by show 2 ≤ sizeLine; decide, fun t nt => ?_⟩
                  refine q1 _ _ (.rem w1) ((s2.trans s3).trans (same_new nt)) en ?_ (.tup (.inl (.inl upd_same)) (.cons (.str _) (.cons (.str _) .nil)))
                  have := words_join a
                  rw [ew, h2] at this
                  exact this
          · rw [decide_eq_false h2]
            exact iteF (iteF ⟨rfl, Same.refl _, fun n _ e => h2 (List.cons.inj e).1⟩)
        · rintro σ' H3 ⟨rfl, s3, nrem⟩
          have s23 := s2.trans s3
          have hD3 := s3 _ _ hD
          have d2 : decide (V.str (S w0) = V.str "pages") = decide (w0 = kPgs) := by rw [pgs_S, dS]
          refine ⟨_, rfl, rfl, _, rfl, ?_⟩
          rw [d2]
          have rest : ¬ (w0 = kPgs ∧ pagesC ws = true) → ∀ e : Ed, e.ok → e.txt ≠ a := fun hn e ok h => by
            have hw := congrArg words h
            rw [ew] at hw
            cases e with
            | set n t => rw [words_set] at hw; exact h1 (List.cons.inj hw).1.symm
            | rem n => rw [words_rem (name_free ok)] at hw; exact nrem n ok hw.symm
            | pgs ps =>
              rw [words_pgs fun p hp => name_free ((pages_parts ok).2.2 p hp)] at hw
              obtain ⟨u1, u2⟩ := List.cons.inj hw
              exact hn ⟨u1.symm, u2 ▸ ok⟩
          by_cases h2 : w0 = kPgs
          · rw [decide_eq_true h2]
            refine iteT ⟨.ref D, rfl, D, ws.map S, rfl, .inl (.inl hD3), by rw [List.length_map]; exact lws, fun x hx => ?_, fun H4 s4 => ⟨_, rfl, ?_⟩⟩
            · obtain ⟨u, hu, rfl⟩ := List.mem_map.mp hx
              rw [SX.S_len]
              have := wl1 u (List.mem_cons_of_mem _ hu)
              omega
            · cases ep : pagesB (ws.map S) with
              | false =>
                refine iteF (q2 (rest fun hh => ?_) H4 (s23.trans s4))
                have h3 : pagesB (ws.map S) = true := hh.2
                rw [ep] at h3; cases h3
              | true =>
                refine iteT ?_
                refine ⟨.ref D, rfl, D, _, rfl, .inl ⟨.inl (.inl (s4 _ _ hD3)), fun t nt => ⟨by show 2 ≤ sizeLine; decide, fun t2 nt2 => ?_⟩⟩⟩
                have st := same_new (o := .tup ((ws.map S).map V.str)) nt
                have st2 := same_new (o := .tup [.str "pages", .ref t]) nt2
                refine q1 _ _ (.pgs ws) ((s23.trans s4).trans (st.trans st2)) ep ?_ (.tup (.inl (.inl upd_same)) (.cons (.str _) (.cons (.tup (.inl (.inl (st2 _ _ upd_same))) ?_) .nil)))
                · have := words_join a
                  rw [ew, h2] at this
                  exact this
                · exact vstr_dp _
          · rw [decide_eq_false h2]
            exact iteF (iteF (q2 (rest fun hh => h2 hh.1) H3 s23))
end
end K45

namespace K45
open PySem PySem.Spec PyProof.Rows L2 Pg
open SX (S)
theorem opt_S : ("options" : Str) = S kOpt := by decide +kernel
theorem ver_S : ("version" : Str) = S kVer := by decide +kernel
theorem edt_S : ("edit" : Str) = S kEdt := by decide +kernel
theorem dp_ref {K : PySem.W.Frag} {H : Hp} {v : V} {ds : List PyData} (h : Dp K H v (.tuple ds)) : ∃ a, v = .ref a := by
  cases h with
  | @tup a xs _ sq dall => exact ⟨a, rfl⟩
theorem Ed.dtup (e : Ed) : ∃ ds, e.d = .tuple ds := by cases e <;> exact ⟨_, rfl⟩
theorem ints_dp {K : PySem.W.Frag} {H : Hp} : ∀ l : List Int, DpAll K H (l.map V.int) (l.map PyData.int)
  | [] => .nil
  | _ :: r => .cons (.int _) (ints_dp r)
theorem Rec.has {r : Rec} (ok : r.ok) : 32 ∈ r.txt := by
  cases r with
  | opt ns =>
    show 32 ∈ TL.joinL [32] (kOpt :: ns.map TL.numL)
    rw [joinL_cons fun e => by
      have := congrArg List.length e
      rw [List.length_map, (opt_parts ok).1] at this
      cases this]
    simp
  | ver ns =>
    show 32 ∈ TL.joinL [32] (kVer :: ns.map TL.numL)
    rw [joinL_cons fun e => by
      have := congrArg List.length e
      rw [List.length_map, ok.1] at this
      cases this]
    simp
  | edt k e =>
    show 32 ∈ kEdt ++ 32 :: (TL.numL k ++ 32 :: e.txt)
    simp
theorem vals_back {ws : List (List Nat)} (h : ws.all numC = true) : (ws.map val).map TL.numL = ws := by
  induction ws with
  | nil => rfl
  | cons w r ih =>
    rw [List.all_cons, Bool.and_eq_true] at h
    rw [List.map_cons, List.map_cons, num_word h.1, ih h.2]
theorem canon_all {ns : List Nat} (h : ∀ n ∈ ns, n ≤ 9999999) : (ns.map TL.numL).all numC = true := List.all_eq_true.mpr fun w hw => by
  obtain ⟨n, hn, rfl⟩ := List.mem_map.mp hw
  exact num_canon (h n hn)
theorem canon_back {ns : List Nat} : (ns.map TL.numL).map val = ns := by
  rw [List.map_map]
  induction ns with
  | nil => rfl
  | cons n r ih => rw [List.map_cons, ih]; congr 1; exact TL.numL_val n
def spREdRec (K : PySem.W.Frag) : Sp := fun vs H Q _ => ∃ b : List Nat, vs = [.str (S b)] ∧ b.length ≤ 1000 ∧
  (∀ (H' : Hp) (v : V) (k : Nat) (e : Ed), Same H H' → k ≤ 9999999 → e.ok → b = TL.numL k ++ 32 :: e.txt → Dp K H' v (Rec.edt k e).d → Q v H') ∧ ((∀ (k : Nat) (e : Ed), k ≤ 9999999 → e.ok → b ≠ TL.numL k ++ 32 :: e.txt) → ∀ H', Same H H' → Q .non H')
def spRRec (K : PySem.W.Frag) : Sp := fun vs H Q _ => ∃ a : List Nat, vs = [.str (S a)] ∧ a.length ≤ 1000 ∧
  (∀ (H' : Hp) (v : V) (r : Rec), Same H H' → r.ok → r.txt = a → Dp K H' v r.d → Q v H') ∧ ((∀ r : Rec, r.ok → r.txt ≠ a) → ∀ H', Same H H' → Q .non H')
theorem part_any (a : List Nat) : ∃ (p q m : List Nat), Txt.partition (S a) " " = (S p, S m, S q) ∧ p.length ≤ a.length ∧ q.length ≤ a.length ∧ ((32 ∉ p ∧ a = p ++ 32 :: q) ∨ (32 ∉ a ∧ p = a ∧ q = [])) := by
  rcases part_cases a with ⟨p, q, f, e, h⟩ | ⟨f, h⟩
  · have := congrArg List.length e
    rw [List.length_append, List.length_cons] at this
    exact ⟨p, q, [32], h, by omega, by omega, .inl ⟨f, e⟩⟩
  · exact ⟨a, [], [], h, Nat.le_refl _, Nat.zero_le _, .inr ⟨f, rfl, rfl⟩⟩
section
variable {P : Program} {w : World} {K : PySem.W.Frag} {mg : Str → Option Value} {base : Heap} {f : Addr} {fd : FuncData}
theorem ok_read_edit_record (F : Fun K "_read_edit_record" "_read_edit_record" s_read_edit_record f fd) (z : Z mg) (cread_numbers : Cal P w K mg base "_read_numbers" 2 ["words"] (spRNums K)) (cread_edit : Cal P w K mg base "read_edit" 4 ["text"] (spREdit K)) : FnOk P w K mg base CX0 5 f fd ["rest"] (spREdRec K) := by
  refine F.ok sc_read_edit_record (fun vs H Q E h => ?_) (fun cdv A outer s H vs Q E hr h => ?_)
  · obtain ⟨b, rfl, _⟩ := h
    rfl
  · obtain ⟨b, rfl, few, q1, q2⟩ := h
    refine ⟨_, (pss_cons (ps_asg (pe_bm PySem.F.plainAttrs_str PySem.F.slot_str_partition PySem.F.type_str_partition mt_partition (pv 0) (pa_cons pe_str pa_nil)) (pg_tup rfl (pgs_cons (pg_name (i := 1) sc_read_edit_record.nd rfl (Or.inl rfl)) (pgs_cons (pg_name (i := 2) sc_read_edit_record.nd rfl (Or.inl rfl)) (pgs_cons (pg_name (i := 3) sc_read_edit_record.nd rfl (Or.inl rfl)) pgs_nil)))))
      (pss_cons (ps_set (i := 4) sc_read_edit_record.nd rfl (Or.inl rfl) (pe_cal cread_numbers (hr.mono (by decide)) (by rfl) (pa_cons (pe_lst (pa_cons (pv 1) pa_nil)) pa_nil)))
      (pss_cons (ps_set (i := 5) sc_read_edit_record.nd rfl (Or.inl rfl) (pe_cal cread_edit (hr.mono (by decide)) (by rfl) (pa_cons (pv 3) pa_nil)))
      (pss_cons (ps_if (PW.pt (pw_or (pt_cmpR op_isN (pv 4) pe_non (nomark _)) (pw_or1 (pt_cmpR op_isN (pv 5) pe_non (nomark _)))))
        (pss_one (ps_ret pe_non))
        pss_nil)
      (pss_one (ps_ret (pe_tup (pa_cons pe_str (pa_cons (pe_ix ix_tup (pv 4) pe_int (fun _ _ => rfl)) (pa_cons (pv 5) pa_nil)))))))))), ?_⟩
    obtain ⟨p, q, m, ep, lp, lq, hc⟩ := part_any b
    refine ⟨_, rfl, rfl, _, _, rfl, rfl, by decide +kernel, sizeLine_big (by rw [SX.S_len]; omega), fun t nt => ?_⟩
    rw [ep]
    have s1 := same_new (o := .tup [.str (S p), .str (S m), .str (S q)]) nt
    refine ⟨t, _, rfl, .inl (.inl upd_same), rfl, _, _, rfl, _, _, rfl, _, _, rfl, rfl, ?_⟩
    show tSeq _ _ _ _ (upd H t (.tup [.str (S p), .str (S m), .str (S q)]))
    generalize upd H t (.tup [.str (S p), .str (S m), .str (S q)]) = H1 at *
    have fits : ∀ {k : Nat} {e : Ed}, e.ok → b = TL.numL k ++ 32 :: e.txt → p = TL.numL k ∧ q = e.txt := fun {k e} ok h => by
      rcases hc with ⟨f, h'⟩ | ⟨f, _⟩
      · exact first_uniq f (num_free k) (h'.symm.trans h)
      · exact absurd (by rw [h]; simp) f
    refine ⟨_, rfl, by show 1 ≤ sizeLine; decide, fun L nL => ?_⟩
    have s2 := same_new (o := .lst [.str (S p)]) nL
    refine ⟨L, [p], rfl, .inl (.inl upd_same), by show 1 ≤ 1001; decide, fun x hx => by rw [List.mem_singleton.mp hx]; omega, fun all H3 tn s3 ht => ?_, fun no H3 s3 => ?_⟩
    · have np : numC p = true := by simpa using all
      have s13 := s1.trans (s2.trans s3)
      refine ⟨_, rfl, q, rfl, by omega, fun H4 v e s4 ok ee d => ?_, fun ne H4 s4 => ?_⟩
      · obtain ⟨ds, eds⟩ := e.dtup
        obtain ⟨va, rfl⟩ := dp_ref (eds ▸ d)
        refine ⟨_, rfl, rfl, _, rfl, iteF ?_⟩
        refine ⟨_, rfl, rfl, _, rfl, iteF ?_⟩
        refine ⟨.ref tn, rfl, tn, _, _, .int (val p : Nat), rfl, rfl, .inl (.inl (s4 _ _ ht)), atI_nat (j := 0) rfl, _, rfl, by show 3 ≤ sizeLine; decide, fun u nu => ?_⟩
        have su := same_new (o := .tup [.str "edit", .int (val p : Nat), .ref va]) nu
        have d' : Dp K (upd H4 u (.tup [.str "edit", .int (val p : Nat), .ref va])) (.ref va) e.d := Dp.keepT (Same.keepT su) _ _ (by
          cases e with
          | set n t => rfl
          | rem n => rfl
          | pgs ps =>
            have : ∀ ys : List Str, noLAll (ys.map PyData.str) = true := fun ys => by
              induction ys with
              | nil => rfl
              | cons y r ih =>
                rw [List.map_cons, noLAll, ih]
                rfl
            show (noL (.str "pages") && (noL (.tuple ((ps.map S).map PyData.str)) && noLAll [])) = true
            rw [show noL (.tuple ((ps.map S).map PyData.str)) = noLAll ((ps.map S).map PyData.str) from by rw [noL], this]
            rfl) d
        refine q1 _ _ (val p) e (s13.trans (s4.trans su)) (val_most np) ok ?_ (.tup (.inl (.inl upd_same)) (.cons (.str _) (.cons (.int _) (.cons d' .nil))))
        rcases hc with ⟨f, h'⟩ | ⟨f, _, h'⟩
        · rw [h', num_word np, ← ee]
        · rw [h'] at ee
          exact absurd ee Ed.ne
      · refine ⟨_, rfl, rfl, _, rfl, iteF ?_⟩
        refine ⟨_, rfl, rfl, _, rfl, iteT (q2 (fun k e hk ok h => ?_) H4 (s13.trans s4))⟩
        exact ne e ok (fits ok h).2.symm
    · have s13 := s1.trans (s2.trans s3)
      have none2 : ∀ (k : Nat) (e : Ed), k ≤ 9999999 → e.ok → b ≠ TL.numL k ++ 32 :: e.txt := fun k e hk ok h => by
        have h1 := (fits ok h).1
        have h2 : numC p = true := by rw [h1]; exact num_canon hk
        rw [List.all_cons, h2] at no
        cases no
      refine ⟨_, rfl, q, rfl, by omega, fun H4 v e s4 ok ee d => ?_, fun ne H4 s4 => ?_⟩
      · exact ⟨_, rfl, rfl, _, rfl, iteT (iteT (q2 none2 H4 (s13.trans s4)))⟩
      · exact ⟨_, rfl, rfl, _, rfl, iteT (iteT (q2 none2 H4 (s13.trans s4)))⟩
end
end K45

namespace K45
open PySem PySem.Spec PyProof.Rows L2 Pg
open SX (S)
theorem no_num : numC [] = false := rfl
section
variable {P : Program} {w : World} {K : PySem.W.Frag} {mg : Str → Option Value} {base : Heap} {f : Addr} {fd : FuncData}
theorem ok_read_record (F : Fun K "read_record" "read_record" s_read_record f fd) (z : Z mg) (care_options : Cal P w K mg base "are_options" 1 ["options"] (spAre K)) (cread_numbers : Cal P w K mg base "_read_numbers" 2 ["words"] (spRNums K)) (cread_edit_record : Cal P w K mg base "_read_edit_record" 5 ["rest"] (spREdRec K)) : FnOk P w K mg base CX0 6 f fd ["text"] (spRRec K) := by
  refine F.ok sc_read_record (fun vs H Q E h => ?_) (fun cdv A outer s H vs Q E hr h => ?_)
  · obtain ⟨a, rfl, _⟩ := h
    rfl
  · obtain ⟨a, rfl, few, q1, q2⟩ := h
    refine ⟨_, (pss_cons (ps_asg (pe_bm PySem.F.plainAttrs_str PySem.F.slot_str_partition PySem.F.type_str_partition mt_partition (pv 0) (pa_cons pe_str pa_nil)) (pg_tup rfl (pgs_cons (pg_name (i := 1) sc_read_record.nd rfl (Or.inl rfl)) (pgs_cons (pg_name (i := 2) sc_read_record.nd rfl (Or.inl rfl)) (pgs_cons (pg_name (i := 3) sc_read_record.nd rfl (Or.inl rfl)) pgs_nil)))))
      (pss_cons (ps_if (pt_cmpR op_eq (pv 1) pe_str (nomark _))
        (pss_one (ps_ret (pe_cal cread_edit_record (hr.mono (by decide)) (by rfl) (pa_cons (pv 3) pa_nil))))
        pss_nil)
      (pss_cons (ps_set (i := 4) sc_read_record.nd rfl (Or.inl rfl) (pe_cal cread_numbers (hr.mono (by decide)) (by rfl) (pa_cons (pe_bm PySem.F.plainAttrs_str PySem.F.slot_str_split PySem.F.type_str_split mt_split (pv 3) (pa_cons pe_str pa_nil)) pa_nil)))
      (pss_cons (ps_if (pt_cmpR op_isN (pv 4) pe_non (nomark _))
        (pss_one (ps_ret pe_non))
        pss_nil)
      (C8.pss_cut (ps_if (PW.pt (pw_and (pt_cmpR op_eq (pv 1) pe_str (nomark _)) (pw_and1 (pt_val (pe_cal care_options (hr.mono (by decide)) (by rfl) (pa_cons (pv 4) pa_nil))))))
        (pss_one (ps_ret (pe_tup (pa_cons pe_str (pa_cons (pv 4) pa_nil)))))
        pss_nil)
      (pss_cons (ps_if (PW.pt (pw_and (pt_cmpR op_eq (pv 1) pe_str (nomark _)) (pw_and1 (pt_cmpR op_eq (pe_callB call_len_seq (by rfl) z.len PySem.boot_len (pa_cons (pv 4) pa_nil)) pe_int (nomark _)))))
        (pss_one (ps_ret (pe_tup (pa_cons pe_str (StX.pa_star (pv 4) pa_nil)))))
        pss_nil)
      (pss_one (ps_ret pe_non)))))))), ?_⟩
    obtain ⟨p, q, m, ep, lp, lq, hc⟩ := part_any a
    refine ⟨_, rfl, rfl, _, _, rfl, rfl, by decide +kernel, sizeLine_big (by rw [SX.S_len]; omega), fun t nt => ?_⟩
    rw [ep]
    have s1 := same_new (o := .tup [.str (S p), .str (S m), .str (S q)]) nt
    refine ⟨t, _, rfl, .inl (.inl upd_same), rfl, _, _, rfl, _, _, rfl, _, _, rfl, rfl, ?_⟩
    show tSeq _ _ _ _ (upd H t (.tup [.str (S p), .str (S m), .str (S q)]))
    generalize upd H t (.tup [.str (S p), .str (S m), .str (S q)]) = H1 at *
    have cut : ∀ {r : Rec}, r.ok → r.txt = a → 32 ∉ p ∧ a = p ++ 32 :: q := fun {r} ok h => by
      rcases hc with h' | ⟨f, _⟩
      · exact h'
      · exact absurd (by rw [← h]; exact Rec.has ok) f
    have cutw : ∀ {r : Rec}, r.ok → r.txt = a → words r.txt = p :: words q := fun {r} ok h => by
      obtain ⟨f, e⟩ := cut ok h
      rw [h, e, words_cut f]
    have full : (words q).all numC = true → 32 ∉ p ∧ a = p ++ 32 :: q := fun h => by
      rcases hc with h' | ⟨f, _, e⟩
      · exact h'
      · rw [e] at h
        cases h
    refine ⟨_, rfl, rfl, _, rfl, ?_⟩
    have d1 : decide (V.str (S p) = V.str "edit") = decide (p = kEdt) := by rw [edt_S, dS]
    rw [d1]
    by_cases h1 : p = kEdt
    · rw [decide_eq_true h1]
      refine iteT ⟨_, rfl, q, rfl, by omega, fun H' v k e s hk ok ee d => q1 H' v (.edt k e) (s1.trans s) ⟨hk, ok⟩ ?_ d, fun no H' s => q2 (fun r ok h => ?_) H' (s1.trans s)⟩
      · rcases hc with ⟨f, h'⟩ | ⟨f, _, h'⟩
        · rw [h', h1, ee]; rfl
        · rw [h'] at ee
          exact absurd ee.symm (by simp)
      · have hw := cutw ok h
        rw [h1] at hw
        cases r with
        | opt ns => rw [words_opt] at hw; exact absurd (List.cons.inj hw).1 (by decide)
        | ver ns => rw [words_ver] at hw; exact absurd (List.cons.inj hw).1 (by decide)
        | edt k e =>
          obtain ⟨f, ea⟩ := cut ok h
          exact no k e ok.1 ok.2 (first_uniq (by decide) f (h.trans ea)).2.symm
    · rw [decide_eq_false h1]
      refine iteF ?_
      have noedt : ∀ {k : Nat} {e : Ed}, (Rec.edt k e).ok → (Rec.edt k e).txt ≠ a := fun {k e} ok h => by
        have hw := cutw ok h
        rw [words_edt] at hw
        exact h1 (List.cons.inj hw).1.symm
      obtain ⟨wl1, wl2⟩ := words_len q
      refine ⟨_, rfl, rfl, _, _, rfl, rfl, by decide +kernel, sizeLine_big (by rw [SX.S_len]; omega), fun L nL => ?_⟩
      rw [split_words]
      have s2 := s1.trans (same_new (o := .lst (((words q).map S).map V.str)) nL)
      refine ⟨L, words q, rfl, .inl (.inl upd_same), by omega, fun x hx => by have := wl1 x hx; omega, fun all H3 tn s3 ht => ?_, fun no H3 s3 => ?_⟩
      · have s13 := s2.trans s3
        obtain ⟨fp, ea⟩ := full all
        have lvs : ((ofN ((words q).map val)).map V.int).length = (words q).length := by unfold ofN; rw [List.length_map, List.length_map, List.length_map]
        have lw3 : (ofN ((words q).map val)).length ≤ 1000 := by
          have := congrArg List.length ea
          rw [List.length_append, List.length_cons] at this
          unfold ofN
          rw [List.length_map, List.length_map]
          omega
        refine ⟨_, rfl, rfl, _, rfl, iteF ?_⟩
        refine ⟨fun σ' H' => σ' = [some (.str (S a)), some (.str (S p)), some (.str (S m)), some (.str (S q)), some (.ref tn)] ∧ Same H3 H' ∧ ¬ (p = kOpt ∧ inB (ofN ((words q).map val)) = true), ?_, ?_⟩
        · refine ⟨_, rfl, rfl, _, rfl, ?_⟩
          have d2 : decide (V.str (S p) = V.str "options") = decide (p = kOpt) := by rw [opt_S, dS]
          rw [d2]
          by_cases h2 : p = kOpt
          · rw [decide_eq_true h2]
            refine iteT ⟨.ref tn, rfl, tn, _, rfl, .inl (.inl ht), lw3, fun H4 s4 => ⟨_, rfl, ?_⟩⟩
            cases ei : inB (ofN ((words q).map val)) with
            | false => exact iteF ⟨rfl, s4, fun hh => by cases hh.2⟩
            | true =>
              refine iteT ⟨.ref tn, rfl, by show 2 ≤ sizeLine; decide, fun u nu => ?_⟩
              have su := same_new (o := .tup [.str "options", .ref tn]) nu
              refine q1 _ _ (.opt ((words q).map val)) (s13.trans (s4.trans su)) ei ?_ (.tup (.inl (.inl upd_same)) (.cons (.str _) (.cons (.tup (.inl (.inl (su _ _ (s4 _ _ ht)))) (ints_dp _)) .nil)))
              show TL.joinL [32] (kOpt :: ((words q).map val).map TL.numL) = a
              rw [vals_back all, joinL_cons (words_ne q), words_join, ea, h2]
          · rw [decide_eq_false h2]
            exact iteF (iteF ⟨rfl, Same.refl _, fun hh => h2 hh.1⟩)
        · rintro σ' H4 ⟨rfl, s4, nopt⟩
          refine ⟨_, rfl, rfl, _, rfl, ?_⟩
          have d2 : decide (V.str (S p) = V.str "version") = decide (p = kVer) := by rw [ver_S, dS]
          rw [d2]
          have rest : ¬ (p = kVer ∧ (words q).length = 3) → ∀ r : Rec, r.ok → r.txt ≠ a := fun hn r ok h => by
            have hw := cutw ok h
            cases r with
            | opt ns =>
              rw [words_opt] at hw
              obtain ⟨u1, u2⟩ := List.cons.inj hw
              refine nopt ⟨u1.symm, ?_⟩
              rw [← u2, canon_back]
              exact ok
            | ver ns =>
              rw [words_ver] at hw
              obtain ⟨u1, u2⟩ := List.cons.inj hw
              refine hn ⟨u1.symm, ?_⟩
              rw [← u2, List.length_map]
              exact ok.1
            | edt k e => exact noedt ok h
          have ht4 := s4 _ _ ht
          by_cases h2 : p = kVer
          · rw [decide_eq_true h2]
            refine iteT ⟨.ref tn, rfl, tn, _, rfl, .inr (.inl (.inl ht4)), rfl, _, rfl, ?_⟩
            rw [lvs]
            by_cases h3 : (words q).length = 3
            · have d3 : decide (V.int ((words q).length : Nat) = V.int 3) = true := decide_eq_true (by rw [h3]; rfl)
              rw [d3]
              refine iteT ⟨.ref tn, rfl, tn, _, rfl, .inl (.inl (.inl ht4)), by show ((ofN ((words q).map val)).map V.int ++ []).length + 1 ≤ sizeLine; rw [List.append_nil, lvs, h3]; decide, fun u nu => ?_⟩
              rw [List.append_nil]
              have su := same_new (o := .tup (.str "version" :: (ofN ((words q).map val)).map V.int)) nu
              refine q1 _ _ (.ver ((words q).map val)) (s13.trans (s4.trans su)) ⟨by rw [List.length_map]; exact h3, fun n hn => ?_⟩ ?_ (.tup (.inl (.inl upd_same)) (.cons (.str _) (ints_dp _)))
              · obtain ⟨x, hx, rfl⟩ := List.mem_map.mp hn
                exact val_most (List.all_eq_true.mp all x hx)
              · show TL.joinL [32] (kVer :: ((words q).map val).map TL.numL) = a
                rw [vals_back all, joinL_cons (words_ne q), words_join, ea, h2]
            · have d3 : decide (V.int ((words q).length : Nat) = V.int 3) = false := decide_eq_false fun e => h3 (by have := V.int.inj e; omega)
              rw [d3]
              exact iteF (q2 (rest fun hh => h3 hh.2) H4 (s13.trans s4))
          · rw [decide_eq_false h2]
            exact iteF (iteF (q2 (rest fun hh => h2 hh.1) H4 (s13.trans s4)))
      · refine ⟨_, rfl, rfl, _, rfl, iteT (q2 (fun r ok h => ?_) H3 (s2.trans s3))⟩
        have hw := cutw ok h
        cases r with
        | opt ns =>
          rw [words_opt] at hw
          rw [← (List.cons.inj hw).2, canon_all fun n hn => by have := (opt_parts ok).2 n hn; omega] at no
          cases no
        | ver ns =>
          rw [words_ver] at hw
          rw [← (List.cons.inj hw).2, canon_all ok.2] at no
          cases no
        | edt k e => exact noedt ok h
end
end K45

namespace K45
open PySem PySem.Spec PyProof.Rows L2 Pg
open SX (S)
theorem strs_vals {K : PySem.W.Frag} {H : Hp} : ∀ {ws : List V} {l : List Str}, DpAll K H ws (l.map PyData.str) → ws = l.map V.str
  | _, [], .nil => rfl
  | _, x :: l, .cons h t => by
    cases h
    rw [List.map_cons, strs_vals t]
theorem ints_vals {K : PySem.W.Frag} {H : Hp} : ∀ {ws : List V} {l : List Int}, DpAll K H ws (l.map PyData.int) → ws = l.map V.int
  | _, [], .nil => rfl
  | _, x :: l, .cons h t => by
    cases h
    rw [List.map_cons, ints_vals t]
/-- an edit at a -/
def EdAt (K : PySem.W.Frag) (H : Hp) (a : Addr) : Ed → Prop
  | .set n t => SqT K H a [.str "set", .str (S n), .str (S t)]
  | .rem n => SqT K H a [.str "remove", .str (S n)]
  | .pgs ps => ∃ pa, SqT K H a [.str "pages", .ref pa] ∧ SqT K H pa ((ps.map S).map V.str)
theorem ed_at {K : PySem.W.Frag} {H : Hp} {v : V} {e : Ed} (h : Dp K H v e.d) : ∃ a, v = .ref a ∧ EdAt K H a e := by
  cases e with
  | set n t =>
    cases h with
    | @tup a xs _ sq dall =>
      cases dall with
      | cons d0 dall =>
        cases d0
        cases dall with
        | cons d1 dall =>
          cases d1
          cases dall with
          | cons d2 dall =>
            cases d2
            cases dall
            exact ⟨a, rfl, sq⟩
  | rem n =>
    cases h with
    | @tup a xs _ sq dall =>
      cases dall with
      | cons d0 dall =>
        cases d0
        cases dall with
        | cons d1 dall =>
          cases d1
          cases dall
          exact ⟨a, rfl, sq⟩
  | pgs ps =>
    cases h with
    | @tup a xs _ sq dall =>
      cases dall with
      | cons d0 dall =>
        cases d0
        cases dall with
        | cons d1 dall =>
          cases dall
          cases d1 with
          | @tup pa ys _ sp dp => exact ⟨a, rfl, pa, sq, by rw [← strs_vals dp]; exact sp⟩
/-- a record at a -/
def RecAt (K : PySem.W.Frag) (H : Hp) (a : Addr) : Rec → Prop
  | .opt ns => ∃ t, SqT K H a [.str "options", .ref t] ∧ SqT K H t ((ofN ns).map V.int)
  | .ver ns => SqT K H a (.str "version" :: (ofN ns).map V.int)
  | .edt k e => ∃ v, SqT K H a [.str "edit", .int (k : Nat), v] ∧ Dp K H v e.d
theorem rec_at {K : PySem.W.Frag} {H : Hp} {v : V} {r : Rec} (h : Dp K H v r.d) : ∃ a, v = .ref a ∧ RecAt K H a r := by
  cases r with
  | opt ns =>
    cases h with
    | @tup a xs _ sq dall =>
      cases dall with
      | cons d0 dall =>
        cases d0
        cases dall with
        | cons d1 dall =>
          cases dall
          cases d1 with
          | @tup pa ys _ sp dp => exact ⟨a, rfl, pa, sq, by rw [← ints_vals dp]; exact sp⟩
  | ver ns =>
    cases h with
    | @tup a xs _ sq dall =>
      cases dall with
      | cons d0 dall =>
        cases d0
        exact ⟨a, rfl, by
          show SqT K H a (.str "version" :: (ofN ns).map V.int)
          rw [← ints_vals dall]; exact sq⟩
  | edt k e =>
    cases h with
    | @tup a xs _ sq dall =>
      cases dall with
      | cons d0 dall =>
        cases d0
        cases dall with
        | cons d1 dall =>
          cases d1
          cases dall with
          | cons d2 dall =>
            cases dall
            exact ⟨a, rfl, _, sq, d2⟩
theorem cut_tail {K : PySem.W.Frag} {H : Hp} {t : Addr} {x : V} {xs : List V} {Q : V → Hp → Prop} (ht : SqT K H t (x :: xs)) (q : ∀ (p : Addr) (H' : Hp), Same H H' → SqT K H' p xs → Q (.ref p) H') : rSlA K (.ref t) (some 1) none H Q := by
  have e1 : HT.sIx (x :: xs).length 0 (some (1 : Int)) = 1 := by
    have := HT.sIx_nat (x :: xs).length 0 1
    rw [show ((1 : Nat) : Int) = 1 from rfl] at this
    rw [this, List.length_cons]
    omega
  refine ⟨t, x :: xs, rfl, ht, fun h => ?_, fun _ p np => ?_⟩
  · have e := h.1
    rw [e1] at e
    cases e
  · have e : cutV (x :: xs) (some 1) none = xs := by
      unfold cutV
      rw [e1, HT.sIx_none]
      show xs.take ((x :: xs).length - 1) = xs
      rw [List.length_cons]
      exact List.take_of_length_le (by omega)
    rw [e]
    exact q p _ (same_new np) (.inl (.inl upd_same))
theorem logn {n : Nat} (h : n ≤ 99999999) : ((n : Nat) : Int).natAbs.log2 < 1920 := by
  by_cases z : n = 0
  · subst z; decide
  · show n.log2 < 1920
    exact (Nat.log2_lt z).mpr (Nat.lt_of_lt_of_le (show n < 2 ^ 27 by omega) (Nat.pow_le_pow_right (n := 2) (by decide) (by decide)))
theorem sum_le {ys : List Str} {m : Nat} (h : ∀ y ∈ ys, y.length ≤ m) : (ys.map (·.length)).sum ≤ m * ys.length := by
  induction ys with
  | nil => exact Nat.zero_le _
  | cons y r ih =>
    have h1 := h y List.mem_cons_self
    have h2 := ih fun z hz => h z (List.mem_cons_of_mem _ hz)
    rw [List.map_cons, List.sum_cons, List.length_cons, Nat.mul_succ]
    omega
theorem join_small {ys : List Str} (h : ∀ y ∈ ys, y.length ≤ 1000) (l : ys.length ≤ 100) : (ys.map (·.length)).sum + ys.length * (" " : Str).length ≤ 16777216 := by
  have h1 := sum_le h
  have h2 : (" " : Str).length = 1 := by decide
  have : 1000 * ys.length ≤ 1000 * 100 := Nat.mul_le_mul_left _ l
  rw [h2]
  omega
theorem join_txt (ps : List (List Nat)) : Txt.join " " (ps.map S) = S (TL.joinL [32] ps) := by
  rw [sp_S]
  exact SX.join_S [32] ps
def spWEdit (K : PySem.W.Frag) : Sp := fun vs H Q _ => ∃ (v : V) (e : Ed), vs = [v] ∧ Dp K H v e.d ∧ e.ok ∧ ∀ H', Same H H' → Q (.str (S e.txt)) H'
def spWRec (K : PySem.W.Frag) : Sp := fun vs H Q _ => ∃ (v : V) (r : Rec), vs = [v] ∧ Dp K H v r.d ∧ r.ok ∧ ∀ H', Same H H' → Q (.str (S r.txt)) H'
theorem set_txt (n t : List Nat) : Str.empty ++ "set " ++ S n ++ " " ++ "\"" ++ S t ++ "\"" = S (Ed.set n t).txt := by
  rw [show ("set " : Str) = S [115, 101, 116, 32] from by decide +kernel, sp_S, q_S, show Str.empty = S [] from rfl, SX.S_cat, SX.S_cat, SX.S_cat, SX.S_cat, SX.S_cat, SX.S_cat]
  congr 1
  simp [Ed.txt, kSet]
theorem set_txt2 (n t : List Nat) : ("set " : Str) ++ S n ++ " \"" ++ S t ++ "\"" = S (Ed.set n t).txt := by
  rw [show ("set " : Str) = S [115, 101, 116, 32] from by decide +kernel, show (" \"" : Str) = S [32, 34] from by decide +kernel, q_S, SX.S_cat, SX.S_cat, SX.S_cat, SX.S_cat]
  congr 1
  simp [Ed.txt, kSet]
theorem rem_txt (n : List Nat) : Str.empty ++ "remove " ++ S n = S (Ed.rem n).txt := by
  rw [show ("remove " : Str) = S [114, 101, 109, 111, 118, 101, 32] from by decide +kernel, show Str.empty = S [] from rfl, SX.S_cat, SX.S_cat]
  congr 1
theorem pgs_small {ps : List (List Nat)} (ok : pagesC ps = true) : ((("pages" :: ps.map S : List Str).map (·.length)).sum + ("pages" :: ps.map S : List Str).length * (" " : Str).length ≤ 16777216) := join_small (fun y hy => by
  rcases List.mem_cons.mp hy with rfl | hy
  · decide
  · obtain ⟨p, hp, rfl⟩ := List.mem_map.mp hy
    rw [SX.S_len]
    have := (name_codes ((pages_parts ok).2.2 p hp)).2.2
    omega) (by rw [List.length_cons, List.length_map]; have := (pages_parts ok).1; omega)
theorem pgs_txt (ps : List (List Nat)) : Txt.join " " ("pages" :: ps.map S) = S (Ed.pgs ps).txt := by
  rw [pgs_S]
  exact join_txt (kPgs :: ps)
section
variable {P : Program} {w : World} {K : PySem.W.Frag} {mg : Str → Option Value} {base : Heap} {f : Addr} {fd : FuncData}
theorem ok_write_edit (F : Fun K "write_edit" "write_edit" s_write_edit f fd) (z : Z mg) : FnOk P w K mg base CX0 1 f fd ["edit"] (spWEdit K) := by
  refine F.ok sc_write_edit (fun vs H Q E h => ?_) (fun cdv A outer s H vs Q E hr h => ?_)
  · obtain ⟨v, e, rfl, _⟩ := h
    rfl
  · obtain ⟨v, e, rfl, d, ok, q⟩ := h
    refine ⟨_, (pss_cons (ps_if (pt_cmpR op_eq (pe_ix ix_tup (pv 0) pe_int (fun _ _ => rfl)) pe_str (nomark _))
        (pss_one (ps_ret (pe_joined (PJ.cons pe_str (PJ.cons (pe_fmt (pe_ix ix_tup (pv 0) pe_int (fun _ _ => rfl))) (PJ.cons pe_str (PJ.cons (pe_fmt (pe_cS (by rfl) z.c__QUOTE)) (PJ.cons (pe_fmt (pe_ix ix_tup (pv 0) pe_int (fun _ _ => rfl))) (PJ.cons (pe_fmt (pe_cS (by rfl) z.c__QUOTE)) PJ.nil)))))))))
        pss_nil)
      (pss_cons (ps_if (pt_cmpR op_eq (pe_ix ix_tup (pv 0) pe_int (fun _ _ => rfl)) pe_str (nomark _))
        (pss_one (ps_ret (pe_joined (PJ.cons pe_str (PJ.cons (pe_fmt (pe_ix ix_tup (pv 0) pe_int (fun _ _ => rfl))) PJ.nil)))))
        pss_nil)
      (pss_one (ps_ret (pe_bm PySem.F.plainAttrs_str PySem.F.slot_str_join PySem.F.type_str_join mt_join pe_str (pa_cons (pe_op op_cat (pe_lst (pa_cons pe_str pa_nil)) (pe_callTy call_list_of (by rfl) z.list (by decide +kernel) (pa_cons (pe_ix ix_tup (pv 0) pe_int (fun _ _ => rfl)) pa_nil))) pa_nil)))))), ?_⟩
    obtain ⟨a, rfl, at_⟩ := ed_at d
    have c0 : Str.empty.length = 0 := rfl
    have c2 : (" " : Str).length = 1 := by decide
    have c3 : ("\"" : Str).length = 1 := by decide
    cases e with
    | set n t =>
      have sq : SqT K H a [.str "set", .str (S n), .str (S t)] := at_
      have n6 := (name_codes ok.1).2.2
      have t60 := (text_codes ok.2).1
      have ln := SX.S_len n
      have lt := SX.S_len t
      have c1 : ("set " : Str).length = 4 := by decide
      refine ⟨.ref a, rfl, a, _, _, .str "set", rfl, rfl, sq, atI_nat (j := 0) rfl, rfl, _, rfl, iteT ?_⟩
      refine ⟨_, rfl, sizeLine_big (by rw [len_app]; omega), .ref a, rfl, a, _, _, .str (S n), rfl, rfl, sq, atI_nat (j := 1) rfl, .inl ⟨S n, rfl, sizeLine_big (by omega), _, rfl, sizeLine_big (by simp only [len_app]; omega), _, rfl, sizeLine_big (by simp only [len_app]; omega), .inl ⟨_, rfl, sizeLine_big (by omega), _, rfl, sizeLine_big (by simp only [len_app]; omega), ?_⟩⟩⟩
      refine ⟨.ref a, rfl, a, _, _, .str (S t), rfl, rfl, sq, atI_nat (j := 2) rfl, .inl ⟨S t, rfl, sizeLine_big (by omega), _, rfl, sizeLine_big (by simp only [len_app]; omega), .inl ⟨_, rfl, sizeLine_big (by omega), _, rfl, sizeLine_big (by simp only [len_app]; omega), ?_⟩⟩⟩
      have := q H (Same.refl H)
      rw [← set_txt] at this
      exact this
    | rem n =>
      have sq : SqT K H a [.str "remove", .str (S n)] := at_
      have n6 := (name_codes ok).2.2
      have ln := SX.S_len n
      have c1 : ("remove " : Str).length = 7 := by decide
      refine ⟨.ref a, rfl, a, _, _, .str "remove", rfl, rfl, sq, atI_nat (j := 0) rfl, rfl, _, rfl, ite2 (fun e => absurd e (by decide +kernel)) (fun _ => ?_)⟩
      refine ⟨.ref a, rfl, a, _, _, .str "remove", rfl, rfl, sq, atI_nat (j := 0) rfl, rfl, _, rfl, iteT ?_⟩
      refine ⟨_, rfl, sizeLine_big (by rw [len_app]; omega), .ref a, rfl, a, _, _, .str (S n), rfl, rfl, sq, atI_nat (j := 1) rfl, .inl ⟨S n, rfl, sizeLine_big (by omega), _, rfl, sizeLine_big (by simp only [len_app]; omega), ?_⟩⟩
      have := q H (Same.refl H)
      rw [← rem_txt] at this
      exact this
    | pgs ps =>
      obtain ⟨pa, sq, sp⟩ := at_
      refine ⟨.ref a, rfl, a, _, _, .str "pages", rfl, rfl, sq, atI_nat (j := 0) rfl, rfl, _, rfl, ite2 (fun e => absurd e (by decide +kernel)) (fun _ => ?_)⟩
      refine ⟨.ref a, rfl, a, _, _, .str "pages", rfl, rfl, sq, atI_nat (j := 0) rfl, rfl, _, rfl, ite2 (fun e => absurd e (by decide +kernel)) (fun _ => ?_)⟩
      refine ⟨rfl, by show 1 ≤ sizeLine; decide, fun L1 n1 => ?_⟩
      have s1 := same_new (o := .lst [V.str "pages"]) n1
      refine ⟨.ref a, rfl, a, _, _, .ref pa, rfl, rfl, Pg.same_seqT s1 sq, atI_nat (j := 1) rfl, pa, _, rfl, .inr (Pg.same_seqT s1 sp), fun L2 n2 => ?_⟩
      have s2 := same_new (o := .lst ((ps.map S).map V.str)) n2
      have lps := (pages_parts ok).1
      refine ⟨L1, L2, _, _, rfl, rfl, s2 _ _ upd_same, upd_same, sizeLine_big (by show 1 + ((ps.map S).map V.str).length ≤ _; rw [List.length_map, List.length_map]; omega), fun L3 n3 => ?_⟩
      have s3 := same_new (o := .lst ([V.str "pages"] ++ (ps.map S).map V.str)) n3
      refine ⟨_, L3, "pages" :: ps.map S, rfl, rfl, .inl (.inl (.inl upd_same)), pgs_small ok, ?_⟩
      have := q _ (s1.trans (s2.trans s3))
      rw [← pgs_txt] at this
      exact this
theorem ok_law_written (F : Fun K "_law_written" "_law_written" s_law_written f fd) (z : Z mg) : FnOk P w K mg base CX0 1 f fd ["edit"] (spWEdit K) := by
  refine F.ok sc_law_written (fun vs H Q E h => ?_) (fun cdv A outer s H vs Q E hr h => ?_)
  · obtain ⟨v, e, rfl, _⟩ := h
    rfl
  · obtain ⟨v, e, rfl, d, ok, q⟩ := h
    refine ⟨_, (pss_cons (ps_if (pt_cmpR op_eq (pe_ix ix_tup (pv 0) pe_int (fun _ _ => rfl)) pe_str (nomark _))
        (pss_one (ps_ret (pe_op op_add_str (pe_op op_add_str (pe_op op_add_str (pe_op op_add_str pe_str (pe_ix ix_tup (pv 0) pe_int (fun _ _ => rfl))) pe_str) (pe_ix ix_tup (pv 0) pe_int (fun _ _ => rfl))) pe_str)))
        pss_nil)
      (pss_one (ps_ret (pe_bm PySem.F.plainAttrs_str PySem.F.slot_str_join PySem.F.type_str_join mt_join pe_str (pa_cons (pe_op op_cat (pe_lst (pa_cons (pe_ix ix_tup (pv 0) pe_int (fun _ _ => rfl)) pa_nil)) (pe_lc (own := [("name", 1)]) (g := (gName 1)) (tt := tYes) rfl sc_law_written.nd (pi_tup (pe_ix ix_list (pe_lst (pa_cons (pe_slice sl_tupA (pv 0) (po_some pe_int) po_none) (pa_cons (pe_ix ix_tup (pv 0) pe_int (fun _ _ => rfl)) pa_nil))) (pe_callTy call_int1 (by rfl) z.int (by decide +kernel) (pa_cons (pe_cmpR op_eq (pe_ix ix_tup (pv 0) pe_int (fun _ _ => rfl)) pe_str (nomark _)) pa_nil)) (fun _ _ => rfl))) (blkOk_by (own := [("name", 1)]) (N := ["edit", "name"]) (sc := defScope s_law_written) (by decide +kernel)) (fun _ _ _ _ _ => pg_name (i := 1) sc_law_written.nd rfl (Or.inl rfl)) (fun _ _ _ _ _ => pts_nil) (fun _ _ _ _ _ => (pv 1)))) pa_nil))))), ?_⟩
    obtain ⟨a, rfl, at_⟩ := ed_at d
    -- the names behind a word, joined
    have tail : ∀ (k : Str) (ys : List Str) (H0 : Hp) (L1 D : Addr), Same H H0 → k.length ≤ 1000 → (∀ y ∈ ys, y.length ≤ 1000) → ys.length ≤ 50 → H0 L1 = some (.lst [.str k]) → H0 D = some (.lst (ys.map V.str)) → Txt.join " " (k :: ys) = S e.txt →
        ∃ (b c : Addr) (zs ws : List V), V.ref L1 = .ref b ∧ V.ref D = .ref c ∧ H0 b = some (.lst zs) ∧ H0 c = some (.lst ws) ∧ zs.length + ws.length ≤ sizeLine ∧ ∀ L3, H0 L3 = none → ∃ (u : Str) (p : Addr) (xs : List Str), V.str " " = .str u ∧ [V.ref L3] = [V.ref p] ∧ (SqL K (upd H0 L3 (.lst (zs ++ ws))) p (xs.map V.str) ∨ SqT K (upd H0 L3 (.lst (zs ++ ws))) p (xs.map V.str)) ∧ (xs.map (·.length)).sum + xs.length * u.length ≤ 16777216 ∧ Q (.str (Txt.join u xs)) (upd H0 L3 (.lst (zs ++ ws))) :=
      fun k ys H0 L1 D sm hk hy ly h1 h2 hj => ⟨L1, D, _, _, rfl, rfl, h1, h2, sizeLine_big (by show 1 + _ ≤ _; rw [List.length_map]; omega), fun L3 n3 => ⟨_, L3, k :: ys, rfl, rfl, .inl (.inl (.inl upd_same)), join_small (fun y hy' => by
        rcases List.mem_cons.mp hy' with rfl | hy'
        · exact hk
        · exact hy y hy') (by rw [List.length_cons]; omega), by rw [hj]; exact q _ (sm.trans (same_new n3))⟩⟩
    cases e with
    | set n t =>
      have sq : SqT K H a [.str "set", .str (S n), .str (S t)] := at_
      have n6 := (name_codes ok.1).2.2
      have t60 := (text_codes ok.2).1
      have ln := SX.S_len n
      have lt := SX.S_len t
      have c1 : ("set " : Str).length = 4 := by decide
      have c2 : (" \"" : Str).length = 2 := by decide
      have c3 : ("\"" : Str).length = 1 := by decide
      refine ⟨.ref a, rfl, a, _, _, .str "set", rfl, rfl, sq, atI_nat (j := 0) rfl, rfl, _, rfl, iteT ?_⟩
      refine ⟨.ref a, rfl, a, _, _, .str (S n), rfl, rfl, sq, atI_nat (j := 1) rfl, _, _, rfl, rfl, sizeLine_big (by omega), _, _, rfl, rfl, sizeLine_big (by simp only [len_app]; omega), ?_⟩
      refine ⟨.ref a, rfl, a, _, _, .str (S t), rfl, rfl, sq, atI_nat (j := 2) rfl, _, _, rfl, rfl, sizeLine_big (by simp only [len_app]; omega), _, _, rfl, rfl, sizeLine_big (by simp only [len_app]; omega), ?_⟩
      have := q H (Same.refl H)
      rw [← set_txt2] at this
      exact this
    | rem n =>
      have sq : SqT K H a [.str "remove", .str (S n)] := at_
      have n6 := (name_codes ok).2.2
      have ln := SX.S_len n
      refine ⟨.ref a, rfl, a, _, _, .str "remove", rfl, rfl, sq, atI_nat (j := 0) rfl, rfl, _, rfl, ite2 (fun e => absurd e (by decide +kernel)) (fun _ => ?_)⟩
      refine ⟨rfl, .ref a, rfl, a, _, _, .str "remove", rfl, rfl, sq, atI_nat (j := 0) rfl, by show 1 ≤ sizeLine; decide, fun L1 n1 => ?_⟩
      have s1 := same_new (o := .lst [V.str "remove"]) n1
      have sq1 := Pg.same_seqT s1 sq
      refine ⟨.ref a, rfl, 1, rfl, ?_⟩
      dsimp only [tNoPart]
      refine cut_tail sq1 fun pp H2 s2 hpp => ?_
      have sq2 := Pg.same_seqT s2 sq1
      refine ⟨.ref a, rfl, a, _, _, .str (S n), rfl, rfl, sq2, atI_nat (j := 1) rfl, by show 2 ≤ sizeLine; decide, fun Lb n2 => ?_⟩
      have s3 := same_new (o := .lst [V.ref pp, .str (S n)]) n2
      have hLb : (upd H2 Lb (.lst [V.ref pp, .str (S n)])) Lb = some (.lst [V.ref pp, .str (S n)]) := upd_same
      have sHH := s1.trans (s2.trans s3)
      have hL1 : (upd H2 Lb (.lst [V.ref pp, .str (S n)])) L1 = some (.lst [V.str "remove"]) := s3 _ _ (s2 _ _ upd_same)
      have hp0 := Pg.same_seqT s3 hpp
      have sq3 := Pg.same_seqT s3 sq2
      generalize upd H2 Lb (.lst [V.ref pp, .str (S n)]) = HH at *
      refine ⟨.ref a, rfl, a, _, _, .str "remove", rfl, rfl, sq3, atI_nat (j := 0) rfl, rfl, .inr ⟨_, rfl, ?_⟩⟩
      rw [show decide (V.str "remove" = V.str "pages") = false from by decide +kernel]
      refine ⟨Lb, _, _, .ref pp, rfl, rfl, .inl (.inl hLb), atI_nat (j := 0) rfl, ?_⟩
      obtain ⟨ys, eys⟩ : ∃ ys : List Str, ys = [S n] := ⟨_, rfl⟩
      have hp : SqT K HH pp (ys.map V.str) := by rw [eys]; exact hp0
      have hk : ("remove" : Str).length ≤ 1000 := by decide
      have hy : ∀ y ∈ ys, y.length ≤ 1000 := fun y h => by rw [eys] at h; rw [List.mem_singleton.mp h]; omega
      have ly : ys.length ≤ 50 := by rw [eys]; show 1 ≤ 50; decide
      have hj : Txt.join " " ("remove" :: ys) = S (Ed.rem n).txt := by rw [eys, rem_S]; exact join_txt [kRem, n]
      refine ⟨pp, rfl, ⟨_, hp⟩, fun D nD => ?_⟩
      refine lc_tup (K := K) (a := pp) (xs := ys.map V.str) (fun i H3 => Same HH H3 ∧ H3 D = some (.lst ((ys.take i).map V.str))) ⟨same_new nD, upd_same⟩ (fun i H3 _ h => Pg.same_seqT h.1 hp) ?_ ?_
      · rintro i y H3 hy' ⟨s5, hD⟩
        rw [List.getElem?_map] at hy'
        obtain ⟨x, hx, rfl⟩ : ∃ x, ys[i]? = some x ∧ V.str x = y := by
          cases e : ys[i]? with
          | none => rw [e] at hy'; cases hy'
          | some x => rw [e] at hy'; exact ⟨x, rfl, Option.some.inj hy'⟩
        have il := (List.getElem?_eq_some_iff.mp hx).1
        refine ⟨rfl, yes (iteT ⟨_, rfl, _, hD, by rw [List.length_map, List.length_take]; exact small5 (by omega), fun q o e => by rw [upd_ne (ne_of_none e nD)]; exact s5 _ _ e, ?_⟩)⟩
        rw [upd_same, List.take_add_one, hx, List.map_append]
        rfl
      · rintro H3 ⟨s5, hD⟩
        rw [List.length_map, List.take_length] at hD
        exact tail _ ys H3 L1 D (sHH.trans s5) hk hy ly (s5 _ _ hL1) hD hj
    | pgs ps =>
      obtain ⟨pa, sq, sp⟩ := at_
      refine ⟨.ref a, rfl, a, _, _, .str "pages", rfl, rfl, sq, atI_nat (j := 0) rfl, rfl, _, rfl, ite2 (fun e => absurd e (by decide +kernel)) (fun _ => ?_)⟩
      refine ⟨rfl, .ref a, rfl, a, _, _, .str "pages", rfl, rfl, sq, atI_nat (j := 0) rfl, by show 1 ≤ sizeLine; decide, fun L1 n1 => ?_⟩
      have s1 := same_new (o := .lst [V.str "pages"]) n1
      have sq1 := Pg.same_seqT s1 sq
      refine ⟨.ref a, rfl, 1, rfl, ?_⟩
      dsimp only [tNoPart]
      refine cut_tail sq1 fun p0 H2 s2 hpp => ?_
      have sq2 := Pg.same_seqT s2 sq1
      refine ⟨.ref a, rfl, a, _, _, .ref pa, rfl, rfl, sq2, atI_nat (j := 1) rfl, by show 2 ≤ sizeLine; decide, fun Lb n2 => ?_⟩
      have s3 := same_new (o := .lst [V.ref p0, .ref pa]) n2
      have hLb : (upd H2 Lb (.lst [V.ref p0, .ref pa])) Lb = some (.lst [V.ref p0, .ref pa]) := upd_same
      have sHH := s1.trans (s2.trans s3)
      have hL1 : (upd H2 Lb (.lst [V.ref p0, .ref pa])) L1 = some (.lst [V.str "pages"]) := s3 _ _ (s2 _ _ upd_same)
      have hp0 := Pg.same_seqT sHH sp
      have sq3 := Pg.same_seqT s3 sq2
      generalize upd H2 Lb (.lst [V.ref p0, .ref pa]) = HH at *
      refine ⟨.ref a, rfl, a, _, _, .str "pages", rfl, rfl, sq3, atI_nat (j := 0) rfl, rfl, .inr ⟨_, rfl, ?_⟩⟩
      rw [show decide (V.str "pages" = V.str "pages") = true from by decide +kernel]
      refine ⟨Lb, _, _, .ref pa, rfl, rfl, .inl (.inl hLb), atI_nat (j := 1) rfl, ?_⟩
      obtain ⟨ys, eys⟩ : ∃ ys : List Str, ys = ps.map S := ⟨_, rfl⟩
      obtain ⟨pp, epp⟩ : ∃ pp : Addr, pp = pa := ⟨_, rfl⟩
      rw [← epp]
      have hp : SqT K HH pp (ys.map V.str) := by rw [eys, epp]; exact hp0
      have hk : ("pages" : Str).length ≤ 1000 := by decide
      have hy : ∀ y ∈ ys, y.length ≤ 1000 := fun y h => by
        rw [eys] at h
        obtain ⟨x, hx, rfl⟩ := List.mem_map.mp h
        rw [SX.S_len]
        have := (name_codes ((pages_parts ok).2.2 x hx)).2.2
        omega
      have ly : ys.length ≤ 50 := by rw [eys, List.length_map]; have := (pages_parts ok).1; omega
      have hj : Txt.join " " ("pages" :: ys) = S (Ed.pgs ps).txt := by rw [eys]; exact pgs_txt ps
      refine ⟨pp, rfl, ⟨_, hp⟩, fun D nD => ?_⟩
      refine lc_tup (K := K) (a := pp) (xs := ys.map V.str) (fun i H3 => Same HH H3 ∧ H3 D = some (.lst ((ys.take i).map V.str))) ⟨same_new nD, upd_same⟩ (fun i H3 _ h => Pg.same_seqT h.1 hp) ?_ ?_
      · rintro i y H3 hy' ⟨s5, hD⟩
        rw [List.getElem?_map] at hy'
        obtain ⟨x, hx, rfl⟩ : ∃ x, ys[i]? = some x ∧ V.str x = y := by
          cases e : ys[i]? with
          | none => rw [e] at hy'; cases hy'
          | some x => rw [e] at hy'; exact ⟨x, rfl, Option.some.inj hy'⟩
        have il := (List.getElem?_eq_some_iff.mp hx).1
        refine ⟨rfl, yes (iteT ⟨_, rfl, _, hD, by rw [List.length_map, List.length_take]; exact small5 (by omega), fun q o e => by rw [upd_ne (ne_of_none e nD)]; exact s5 _ _ e, ?_⟩)⟩
        rw [upd_same, List.take_add_one, hx, List.map_append]
        rfl
      · rintro H3 ⟨s5, hD⟩
        rw [List.length_map, List.take_length] at hD
        exact tail _ ys H3 L1 D (sHH.trans s5) hk hy ly (s5 _ _ hL1) hD hj
end
end K45

namespace K45
open PySem PySem.Spec PyProof.Rows L2 Pg
open SX (S)
theorem join_end {K : PySem.W.Frag} {Q : V → Hp → Prop} {H0 : Hp} {L1 D : Addr} {k T : Str} {ys : List Str} (hk : k.length ≤ 1000) (hy : ∀ y ∈ ys, y.length ≤ 1000) (ly : ys.length ≤ 50) (h1 : H0 L1 = some (.lst [.str k])) (h2 : H0 D = some (.lst (ys.map V.str))) (hj : Txt.join " " (k :: ys) = T) (q : ∀ H', Same H0 H' → Q (.str T) H') :
    ∃ (b c : Addr) (zs ws : List V), V.ref L1 = .ref b ∧ V.ref D = .ref c ∧ H0 b = some (.lst zs) ∧ H0 c = some (.lst ws) ∧ zs.length + ws.length ≤ sizeLine ∧ ∀ L3, H0 L3 = none → ∃ (u : Str) (p : Addr) (xs : List Str), V.str " " = .str u ∧ [V.ref L3] = [V.ref p] ∧ (SqL K (upd H0 L3 (.lst (zs ++ ws))) p (xs.map V.str) ∨ SqT K (upd H0 L3 (.lst (zs ++ ws))) p (xs.map V.str)) ∧ (xs.map (·.length)).sum + xs.length * u.length ≤ 16777216 ∧ Q (.str (Txt.join u xs)) (upd H0 L3 (.lst (zs ++ ws))) :=
  ⟨L1, D, _, _, rfl, rfl, h1, h2, sizeLine_big (by show 1 + _ ≤ _; rw [List.length_map]; omega), fun L3 n3 => ⟨_, L3, k :: ys, rfl, rfl, .inl (.inl (.inl upd_same)), join_small (fun y hy' => by
    rcases List.mem_cons.mp hy' with rfl | hy'
    · exact hk
    · exact hy y hy') (by rw [List.length_cons]; omega), by rw [hj]; exact q _ (same_new n3)⟩⟩
theorem opt_txt (ns : List Nat) : Txt.join " " ("options" :: (ns.map fun n => S (TL.numL n))) = S (Rec.opt ns).txt := by
  rw [opt_S]
  have := join_txt (kOpt :: ns.map TL.numL)
  rw [List.map_cons, List.map_map] at this
  exact this
theorem ver_txt (ns : List Nat) : Txt.join " " ("version" :: (ns.map fun n => S (TL.numL n))) = S (Rec.ver ns).txt := by
  rw [ver_S]
  have := join_txt (kVer :: ns.map TL.numL)
  rw [List.map_cons, List.map_map] at this
  exact this
theorem join_most {a : List Nat} {ps : List (List Nat)} {m : Nat} (h : ∀ p ∈ ps, p.length ≤ m) : (TL.joinL [32] (a :: ps)).length ≤ a.length + (m + 1) * ps.length := by
  induction ps generalizing a with
  | nil => exact Nat.le_refl _
  | cons p r ih =>
    have i := ih (a := p) fun q hq => h q (List.mem_cons_of_mem _ hq)
    have hp := h p List.mem_cons_self
    rw [joinL_cons (by simp), List.length_append, List.length_cons, List.length_cons, Nat.mul_succ]
    omega
theorem ed_len {e : Ed} (ok : e.ok) : e.txt.length ≤ 100 := by
  cases e with
  | set n t =>
    have h1 := (name_codes ok.1).2.2
    have h2 := (text_codes ok.2).1
    show (kSet ++ 32 :: (n ++ 32 :: (34 :: (t ++ [34])))).length ≤ 100
    simp only [List.length_append, List.length_cons, List.length_nil, kSet]
    omega
  | rem n =>
    have h1 := (name_codes ok).2.2
    show (kRem ++ 32 :: n).length ≤ 100
    simp only [List.length_append, List.length_cons, List.length_nil, kRem]
    omega
  | pgs ps =>
    have h0 := (pages_parts ok).1
    have := join_most (a := kPgs) (m := 6) fun p hp => (name_codes ((pages_parts ok).2.2 p hp)).2.2
    have e : kPgs.length = 5 := rfl
    show (TL.joinL [32] (kPgs :: ps)).length ≤ 100
    omega
theorem num_len {n : Nat} (h : n ≤ 9999999) : (TL.numL n).length ≤ 7 := (numC_parts (num_canon h)).2.1
theorem rec_len {r : Rec} (ok : r.ok) : r.txt.length ≤ 200 := by
  cases r with
  | opt ns =>
    obtain ⟨h1, h2⟩ := opt_parts ok
    have := join_most (a := kOpt) (ps := ns.map TL.numL) (m := 7) fun p hp => by
      obtain ⟨n, hn, rfl⟩ := List.mem_map.mp hp
      exact num_len (by have := h2 n hn; omega)
    have e : kOpt.length = 7 := rfl
    rw [List.length_map] at this
    show (TL.joinL [32] (kOpt :: ns.map TL.numL)).length ≤ 200
    omega
  | ver ns =>
    obtain ⟨h1, h2⟩ := ok
    have := join_most (a := kVer) (ps := ns.map TL.numL) (m := 7) fun p hp => by
      obtain ⟨n, hn, rfl⟩ := List.mem_map.mp hp
      exact num_len (h2 n hn)
    have e : kVer.length = 7 := rfl
    rw [List.length_map] at this
    show (TL.joinL [32] (kVer :: ns.map TL.numL)).length ≤ 200
    omega
  | edt k e =>
    have h1 := num_len ok.1
    have h2 := ed_len ok.2
    show (kEdt ++ 32 :: (TL.numL k ++ 32 :: e.txt)).length ≤ 200
    simp only [List.length_append, List.length_cons, List.length_nil, kEdt]
    omega
theorem edt_txt (k : Nat) (e : Ed) : Str.empty ++ "edit " ++ Str.ofString (toString ((k : Nat) : Int)) ++ " " ++ S e.txt = S (Rec.edt k e).txt := by
  rw [show ("edit " : Str) = S [101, 100, 105, 116, 32] from by decide +kernel, sp_S, SX.num_S, show Str.empty = S [] from rfl, SX.S_cat, SX.S_cat, SX.S_cat, SX.S_cat]
  congr 1
  simp [Rec.txt, kEdt]
theorem edt_txt2 (k : Nat) (e : Ed) : ("edit " : Str) ++ Str.ofString (toString ((k : Nat) : Int)) ++ " " ++ S e.txt = S (Rec.edt k e).txt := by
  rw [show ("edit " : Str) = S [101, 100, 105, 116, 32] from by decide +kernel, sp_S, SX.num_S, SX.S_cat, SX.S_cat, SX.S_cat]
  congr 1
  simp [Rec.txt, kEdt]
section
variable {P : Program} {w : World} {K : PySem.W.Frag} {mg : Str → Option Value} {base : Heap} {f : Addr} {fd : FuncData}
theorem ok_write_record (F : Fun K "write_record" "write_record" s_write_record f fd) (z : Z mg) (cwrite_edit : Cal P w K mg base "write_edit" 1 ["edit"] (spWEdit K)) : FnOk P w K mg base CX0 2 f fd ["record"] (spWRec K) := by
  refine F.ok sc_write_record (fun vs H Q E h => ?_) (fun cdv A outer s H vs Q E hr h => ?_)
  · obtain ⟨v, r, rfl, _⟩ := h
    rfl
  · obtain ⟨v, r, rfl, d, ok, q⟩ := h
    refine ⟨_, (pss_cons (ps_set (i := 1) sc_write_record.nd rfl (Or.inl rfl) (pe_ix ix_tup (pv 0) pe_int (fun _ _ => rfl)))
      (pss_cons (ps_if (pt_cmpR op_eq (pv 1) pe_str (nomark _))
        (pss_one (ps_ret (pe_joined (PJ.cons pe_str (PJ.cons (pe_fmt (pe_ix ix_tup (pv 0) pe_int (fun _ _ => rfl))) (PJ.cons pe_str (PJ.cons (pe_fmt (pe_cal cwrite_edit (hr.mono (by decide)) (by rfl) (pa_cons (pe_ix ix_tup (pv 0) pe_int (fun _ _ => rfl)) pa_nil))) PJ.nil)))))))
        pss_nil)
      (pss_cons (ps_set (i := 2) sc_write_record.nd rfl (Or.inl rfl) (pe_ifExp (pt_cmpR op_eq (pv 1) pe_str (nomark _)) (pe_ix ix_tup (pv 0) pe_int (fun _ _ => rfl)) (pe_slice sl_tupA (pv 0) (po_some pe_int) po_none)))
      (pss_one (ps_ret (pe_bm PySem.F.plainAttrs_str PySem.F.slot_str_join PySem.F.type_str_join mt_join pe_str (pa_cons (pe_op op_cat (pe_lst (pa_cons (pv 1) pa_nil)) (pe_lc (own := [("number", 3)]) (g := (gName 3)) (tt := tYes) rfl sc_write_record.nd (pi_tup (pv 2)) (blkOk_by (own := [("number", 3)]) (N := ["record", "kind", "numbers", "number"]) (sc := defScope s_write_record) (by decide +kernel)) (fun _ _ _ _ _ => pg_name (i := 3) sc_write_record.nd rfl (Or.inl rfl)) (fun _ _ _ _ _ => pts_nil) (fun _ _ _ _ _ => (pe_callTy call_str_int (by rfl) z.str (by decide +kernel) (pa_cons (pv 3) pa_nil))))) pa_nil))))))), ?_⟩
    obtain ⟨a, rfl, at_⟩ := rec_at d
    cases r with
    | opt ns =>
      obtain ⟨t, sq, sp⟩ := at_
      obtain ⟨l7, b7⟩ := opt_parts ok
      refine ⟨.ref a, rfl, a, _, _, .str "options", rfl, rfl, sq, atI_nat (j := 0) rfl, ?_⟩
      refine ⟨_, rfl, rfl, _, rfl, ite2 (fun e => absurd e (by decide +kernel)) (fun _ => ?_)⟩
      refine ⟨_, rfl, rfl, _, rfl, iteT ?_⟩
      refine ⟨.ref a, rfl, a, _, _, .ref t, rfl, rfl, sq, atI_nat (j := 1) rfl, ?_⟩
      refine ⟨rfl, _, rfl, by show 1 ≤ sizeLine; decide, fun L1 n1 => ?_⟩
      have sHH := same_new (o := .lst [V.str "options"]) n1
      have hL1 : (upd H L1 (.lst [V.str "options"])) L1 = some (.lst [V.str "options"]) := upd_same
      have hp := Pg.same_seqT sHH sp
      generalize upd H L1 (.lst [V.str "options"]) = HH at *
      have hn : ∀ n ∈ ns, n ≤ 9999999 := fun n h => by have := b7 n h; omega
      have lns : ns.length ≤ 10 := by omega
      have hj := opt_txt ns
      refine ⟨_, rfl, t, rfl, ⟨_, hp⟩, fun D nD => ?_⟩
      refine lc_tup (K := K) (a := t) (xs := (ofN ns).map V.int) (fun i H3 => Same HH H3 ∧ H3 D = some (.lst (((ns.take i).map fun n => S (TL.numL n)).map V.str))) ⟨same_new nD, upd_same⟩ (fun i H3 _ h => Pg.same_seqT h.1 hp) ?_ ?_
      · rintro i y H3 hy' ⟨s5, hD⟩
        unfold ofN at hy'
        rw [List.getElem?_map, List.getElem?_map] at hy'
        obtain ⟨x, hx, rfl⟩ : ∃ x, ns[i]? = some x ∧ V.int (x : Nat) = y := by
          cases e : ns[i]? with
          | none => rw [e] at hy'; cases hy'
          | some x => rw [e] at hy'; exact ⟨x, rfl, Option.some.inj hy'⟩
        have il := (List.getElem?_eq_some_iff.mp hx).1
        refine ⟨rfl, yes (iteT ⟨_, rfl, _, rfl, logn (by have := hn x (List.mem_of_getElem? hx); omega), _, hD, by rw [List.length_map, List.length_map, List.length_take]; exact small5 (by omega), fun q o e => by rw [upd_ne (ne_of_none e nD)]; exact s5 _ _ e, ?_⟩)⟩
        rw [upd_same, List.take_add_one, hx, List.map_append, List.map_append, SX.num_S]
        rfl
      · rintro H3 ⟨s5, hD⟩
        rw [List.length_map, show (ofN ns).length = ns.length from List.length_map .., List.take_length] at hD
        exact join_end (by decide) (fun y hy => by
          obtain ⟨n, hn', rfl⟩ := List.mem_map.mp hy
          rw [SX.S_len]
          have := num_len (hn n hn')
          omega) (by rw [List.length_map]; omega) (s5 _ _ hL1) hD hj fun H' s => q _ (sHH.trans (s5.trans s))
    | ver ns =>
      have sq : SqT K H a (.str "version" :: (ofN ns).map V.int) := at_
      refine ⟨.ref a, rfl, a, _, _, .str "version", rfl, rfl, sq, atI_nat (j := 0) rfl, ?_⟩
      refine ⟨_, rfl, rfl, _, rfl, ite2 (fun e => absurd e (by decide +kernel)) (fun _ => ?_)⟩
      refine ⟨_, rfl, rfl, _, rfl, ite2 (fun e => absurd e (by decide +kernel)) (fun _ => ?_)⟩
      refine ⟨.ref a, rfl, 1, rfl, ?_⟩
      dsimp only [tNoPart]
      refine cut_tail sq fun t H2 s2 hpp => ?_
      refine ⟨rfl, _, rfl, by show 1 ≤ sizeLine; decide, fun L1 n1 => ?_⟩
      have s3 := same_new (o := .lst [V.str "version"]) n1
      have sHH := s2.trans s3
      have hL1 : (upd H2 L1 (.lst [V.str "version"])) L1 = some (.lst [V.str "version"]) := upd_same
      have hp := Pg.same_seqT s3 hpp
      generalize upd H2 L1 (.lst [V.str "version"]) = HH at *
      have hn : ∀ n ∈ ns, n ≤ 9999999 := ok.2
      have lns : ns.length ≤ 10 := by have := ok.1; omega
      have hj := ver_txt ns
      refine ⟨_, rfl, t, rfl, ⟨_, hp⟩, fun D nD => ?_⟩
      refine lc_tup (K := K) (a := t) (xs := (ofN ns).map V.int) (fun i H3 => Same HH H3 ∧ H3 D = some (.lst (((ns.take i).map fun n => S (TL.numL n)).map V.str))) ⟨same_new nD, upd_same⟩ (fun i H3 _ h => Pg.same_seqT h.1 hp) ?_ ?_
      · rintro i y H3 hy' ⟨s5, hD⟩
        unfold ofN at hy'
        rw [List.getElem?_map, List.getElem?_map] at hy'
        obtain ⟨x, hx, rfl⟩ : ∃ x, ns[i]? = some x ∧ V.int (x : Nat) = y := by
          cases e : ns[i]? with
          | none => rw [e] at hy'; cases hy'
          | some x => rw [e] at hy'; exact ⟨x, rfl, Option.some.inj hy'⟩
        have il := (List.getElem?_eq_some_iff.mp hx).1
        refine ⟨rfl, yes (iteT ⟨_, rfl, _, rfl, logn (by have := hn x (List.mem_of_getElem? hx); omega), _, hD, by rw [List.length_map, List.length_map, List.length_take]; exact small5 (by omega), fun q o e => by rw [upd_ne (ne_of_none e nD)]; exact s5 _ _ e, ?_⟩)⟩
        rw [upd_same, List.take_add_one, hx, List.map_append, List.map_append, SX.num_S]
        rfl
      · rintro H3 ⟨s5, hD⟩
        rw [List.length_map, show (ofN ns).length = ns.length from List.length_map .., List.take_length] at hD
        exact join_end (by decide) (fun y hy => by
          obtain ⟨n, hn', rfl⟩ := List.mem_map.mp hy
          rw [SX.S_len]
          have := num_len (hn n hn')
          omega) (by rw [List.length_map]; omega) (s5 _ _ hL1) hD hj fun H' s => q _ (sHH.trans (s5.trans s))
    | edt k e =>
      obtain ⟨ev, sq, de⟩ := at_
      have k7 := num_len ok.1
      have l1 := ed_len ok.2
      have ls := SX.S_len e.txt
      have lk : (Str.ofString (toString ((k : Nat) : Int))).length ≤ 7 := by rw [SX.num_S, SX.S_len]; exact k7
      have c0 : Str.empty.length = 0 := rfl
      have c1 : ("edit " : Str).length = 5 := by decide
      have c2 : (" " : Str).length = 1 := by decide
      refine ⟨.ref a, rfl, a, _, _, .str "edit", rfl, rfl, sq, atI_nat (j := 0) rfl, ?_⟩
      refine ⟨_, rfl, rfl, _, rfl, iteT ?_⟩
      refine ⟨_, rfl, sizeLine_big (by rw [len_app]; omega), .ref a, rfl, a, _, _, .int (k : Nat), rfl, rfl, sq, atI_nat (j := 1) rfl, .inr ⟨_, rfl, logn (by have := ok.1; omega), _, rfl, sizeLine_big (by simp only [len_app]; omega), _, rfl, sizeLine_big (by simp only [len_app]; omega), ?_⟩⟩
      refine ⟨.ref a, rfl, a, _, _, ev, rfl, rfl, sq, atI_nat (j := 2) rfl, ev, e, rfl, de, ok.2, fun H' s => .inl ⟨_, rfl, sizeLine_big (by omega), _, rfl, sizeLine_big (by simp only [len_app]; omega), ?_⟩⟩
      have := q H' s
      rw [← edt_txt] at this
      exact this
end
end K45

namespace K45
open PySem PySem.Spec PyProof.Rows L2 Pg
open SX (S)
section
variable {P : Program} {w : World} {K : PySem.W.Frag} {mg : Str → Option Value} {base : Heap} {f : Addr} {fd : FuncData}
theorem ok_law_record_text (F : Fun K "_law_record_text" "_law_record_text" s_law_record_text f fd) (z : Z mg) (claw_written : Cal P w K mg base "_law_written" 1 ["edit"] (spWEdit K)) : FnOk P w K mg base CX0 2 f fd ["record"] (spWRec K) := by
  refine F.ok sc_law_record_text (fun vs H Q E h => ?_) (fun cdv A outer s H vs Q E hr h => ?_)
  · obtain ⟨v, r, rfl, _⟩ := h
    rfl
  · obtain ⟨v, r, rfl, d, ok, q⟩ := h
    refine ⟨_, (pss_cons (ps_if (pt_cmpR op_eq (pe_ix ix_tup (pv 0) pe_int (fun _ _ => rfl)) pe_str (nomark _))
        (pss_one (ps_ret (pe_bm PySem.F.plainAttrs_str PySem.F.slot_str_join PySem.F.type_str_join mt_join pe_str (pa_cons (pe_op op_cat (pe_lst (pa_cons pe_str pa_nil)) (pe_lc (own := [("number", 1)]) (g := (gName 1)) (tt := tYes) rfl sc_law_record_text.nd (pi_tup (pe_ix ix_tup (pv 0) pe_int (fun _ _ => rfl))) (blkOk_by (own := [("number", 1)]) (N := ["record", "number"]) (sc := defScope s_law_record_text) (by decide +kernel)) (fun _ _ _ _ _ => pg_name (i := 1) sc_law_record_text.nd rfl (Or.inl rfl)) (fun _ _ _ _ _ => pts_nil) (fun _ _ _ _ _ => (pe_callTy call_str_int (by rfl) z.str (by decide +kernel) (pa_cons (pv 1) pa_nil))))) pa_nil))))
        pss_nil)
      (pss_cons (ps_if (pt_cmpR op_eq (pe_ix ix_tup (pv 0) pe_int (fun _ _ => rfl)) pe_str (nomark _))
        (pss_one (ps_ret (pe_op op_add_str (pe_op op_add_str (pe_op op_add_str pe_str (pe_callTy call_str_int (by rfl) z.str (by decide +kernel) (pa_cons (pe_ix ix_tup (pv 0) pe_int (fun _ _ => rfl)) pa_nil))) pe_str) (pe_cal claw_written (hr.mono (by decide)) (by rfl) (pa_cons (pe_ix ix_tup (pv 0) pe_int (fun _ _ => rfl)) pa_nil)))))
        pss_nil)
      (pss_one (ps_ret (pe_bm PySem.F.plainAttrs_str PySem.F.slot_str_join PySem.F.type_str_join mt_join pe_str (pa_cons (pe_op op_cat (pe_lst (pa_cons pe_str pa_nil)) (pe_lc (own := [("number", 1)]) (g := (gName 1)) (tt := tYes) rfl sc_law_record_text.nd (pi_tup (pe_slice sl_tupA (pv 0) (po_some pe_int) po_none)) (blkOk_by (own := [("number", 1)]) (N := ["record", "number"]) (sc := defScope s_law_record_text) (by decide +kernel)) (fun _ _ _ _ _ => pg_name (i := 1) sc_law_record_text.nd rfl (Or.inl rfl)) (fun _ _ _ _ _ => pts_nil) (fun _ _ _ _ _ => (pe_callTy call_str_int (by rfl) z.str (by decide +kernel) (pa_cons (pv 1) pa_nil))))) pa_nil)))))), ?_⟩
    obtain ⟨a, rfl, at_⟩ := rec_at d
    cases r with
    | opt ns =>
      obtain ⟨t, sq, sp⟩ := at_
      obtain ⟨l7, b7⟩ := opt_parts ok
      refine ⟨.ref a, rfl, a, _, _, .str "options", rfl, rfl, sq, atI_nat (j := 0) rfl, rfl, _, rfl, iteT ?_⟩
      refine ⟨rfl, by show 1 ≤ sizeLine; decide, fun L1 n1 => ?_⟩
      have sHH := same_new (o := .lst [V.str "options"]) n1
      have hL1 : (upd H L1 (.lst [V.str "options"])) L1 = some (.lst [V.str "options"]) := upd_same
      have hp := Pg.same_seqT sHH sp
      have sq2 := Pg.same_seqT sHH sq
      generalize upd H L1 (.lst [V.str "options"]) = HH at *
      refine ⟨.ref a, rfl, a, _, _, .ref t, rfl, rfl, sq2, atI_nat (j := 1) rfl, ?_⟩
      have hn : ∀ n ∈ ns, n ≤ 9999999 := fun n h => by have := b7 n h; omega
      have lns : ns.length ≤ 10 := by omega
      have hj := opt_txt ns
      refine ⟨t, rfl, ⟨_, hp⟩, fun D nD => ?_⟩
      refine lc_tup (K := K) (a := t) (xs := (ofN ns).map V.int) (fun i H3 => Same HH H3 ∧ H3 D = some (.lst (((ns.take i).map fun n => S (TL.numL n)).map V.str))) ⟨same_new nD, upd_same⟩ (fun i H3 _ h => Pg.same_seqT h.1 hp) ?_ ?_
      · rintro i y H3 hy' ⟨s5, hD⟩
        unfold ofN at hy'
        rw [List.getElem?_map, List.getElem?_map] at hy'
        obtain ⟨x, hx, rfl⟩ : ∃ x, ns[i]? = some x ∧ V.int (x : Nat) = y := by
          cases e : ns[i]? with
          | none => rw [e] at hy'; cases hy'
          | some x => rw [e] at hy'; exact ⟨x, rfl, Option.some.inj hy'⟩
        have il := (List.getElem?_eq_some_iff.mp hx).1
        refine ⟨rfl, yes (iteT ⟨_, rfl, _, rfl, logn (by have := hn x (List.mem_of_getElem? hx); omega), _, hD, by rw [List.length_map, List.length_map, List.length_take]; exact small5 (by omega), fun q o e => by rw [upd_ne (ne_of_none e nD)]; exact s5 _ _ e, ?_⟩)⟩
        rw [upd_same, List.take_add_one, hx, List.map_append, List.map_append, SX.num_S]
        rfl
      · rintro H3 ⟨s5, hD⟩
        rw [List.length_map, show (ofN ns).length = ns.length from List.length_map .., List.take_length] at hD
        exact join_end (by decide) (fun y hy => by
          obtain ⟨n, hn', rfl⟩ := List.mem_map.mp hy
          rw [SX.S_len]
          have := num_len (hn n hn')
          omega) (by rw [List.length_map]; omega) (s5 _ _ hL1) hD hj fun H' s => q _ (sHH.trans (s5.trans s))
    | ver ns =>
      have sq : SqT K H a (.str "version" :: (ofN ns).map V.int) := at_
      refine ⟨.ref a, rfl, a, _, _, .str "version", rfl, rfl, sq, atI_nat (j := 0) rfl, rfl, _, rfl, ite2 (fun e => absurd e (by decide +kernel)) (fun _ => ?_)⟩
      refine ⟨.ref a, rfl, a, _, _, .str "version", rfl, rfl, sq, atI_nat (j := 0) rfl, rfl, _, rfl, ite2 (fun e => absurd e (by decide +kernel)) (fun _ => ?_)⟩
      refine ⟨rfl, by show 1 ≤ sizeLine; decide, fun L1 n1 => ?_⟩
      have s3 := same_new (o := .lst [V.str "version"]) n1
      refine ⟨.ref a, rfl, 1, rfl, ?_⟩
      dsimp only [tNoPart]
      refine cut_tail (Pg.same_seqT s3 sq) fun t HH s2 hp => ?_
      have sHH := s3.trans s2
      have hL1 : HH L1 = some (.lst [V.str "version"]) := s2 _ _ upd_same
      have hn : ∀ n ∈ ns, n ≤ 9999999 := ok.2
      have lns : ns.length ≤ 10 := by have := ok.1; omega
      have hj := ver_txt ns
      refine ⟨t, rfl, ⟨_, hp⟩, fun D nD => ?_⟩
      refine lc_tup (K := K) (a := t) (xs := (ofN ns).map V.int) (fun i H3 => Same HH H3 ∧ H3 D = some (.lst (((ns.take i).map fun n => S (TL.numL n)).map V.str))) ⟨same_new nD, upd_same⟩ (fun i H3 _ h => Pg.same_seqT h.1 hp) ?_ ?_
      · rintro i y H3 hy' ⟨s5, hD⟩
        unfold ofN at hy'
        rw [List.getElem?_map, List.getElem?_map] at hy'
        obtain ⟨x, hx, rfl⟩ : ∃ x, ns[i]? = some x ∧ V.int (x : Nat) = y := by
          cases e : ns[i]? with
          | none => rw [e] at hy'; cases hy'
          | some x => rw [e] at hy'; exact ⟨x, rfl, Option.some.inj hy'⟩
        have il := (List.getElem?_eq_some_iff.mp hx).1
        refine ⟨rfl, yes (iteT ⟨_, rfl, _, rfl, logn (by have := hn x (List.mem_of_getElem? hx); omega), _, hD, by rw [List.length_map, List.length_map, List.length_take]; exact small5 (by omega), fun q o e => by rw [upd_ne (ne_of_none e nD)]; exact s5 _ _ e, ?_⟩)⟩
        rw [upd_same, List.take_add_one, hx, List.map_append, List.map_append, SX.num_S]
        rfl
      · rintro H3 ⟨s5, hD⟩
        rw [List.length_map, show (ofN ns).length = ns.length from List.length_map .., List.take_length] at hD
        exact join_end (by decide) (fun y hy => by
          obtain ⟨n, hn', rfl⟩ := List.mem_map.mp hy
          rw [SX.S_len]
          have := num_len (hn n hn')
          omega) (by rw [List.length_map]; omega) (s5 _ _ hL1) hD hj fun H' s => q _ (sHH.trans (s5.trans s))
    | edt k e =>
      obtain ⟨ev, sq, de⟩ := at_
      have k7 := num_len ok.1
      have l1 := ed_len ok.2
      have ls := SX.S_len e.txt
      have lk : (Str.ofString (toString ((k : Nat) : Int))).length ≤ 7 := by rw [SX.num_S, SX.S_len]; exact k7
      have c1 : ("edit " : Str).length = 5 := by decide
      have c2 : (" " : Str).length = 1 := by decide
      refine ⟨.ref a, rfl, a, _, _, .str "edit", rfl, rfl, sq, atI_nat (j := 0) rfl, rfl, _, rfl, ite2 (fun e => absurd e (by decide +kernel)) (fun _ => ?_)⟩
      refine ⟨.ref a, rfl, a, _, _, .str "edit", rfl, rfl, sq, atI_nat (j := 0) rfl, rfl, _, rfl, iteT ?_⟩
      refine ⟨.ref a, rfl, a, _, _, .int (k : Nat), rfl, rfl, sq, atI_nat (j := 1) rfl, _, rfl, logn (by have := ok.1; omega), _, _, rfl, rfl, sizeLine_big (by omega), _, _, rfl, rfl, sizeLine_big (by simp only [len_app]; omega), ?_⟩
      refine ⟨.ref a, rfl, a, _, _, ev, rfl, rfl, sq, atI_nat (j := 2) rfl, ev, e, rfl, de, ok.2, fun H' s => ⟨_, _, rfl, rfl, sizeLine_big (by simp only [len_app]; omega), ?_⟩⟩
      have := q H' s
      rw [← edt_txt2] at this
      exact this
end
end K45

namespace K45
open PySem PySem.Spec PyProof.Rows L2 Pg
open SX (S)
theorem names8_name : ∀ z ∈ names8, nameB z = true := by decide +kernel
theorem safe_text {z : Str} (h : Safe z) (l : z.length ≤ 60) : textB z = true := by
  unfold textB
  rw [decide_eq_true l, Bool.true_and]
  refine List.all_eq_true.mpr fun c hc => ?_
  have := h c hc
  unfold safeB plainB at this
  simp only [Bool.and_eq_true, decide_eq_true_eq] at this
  exact decide_eq_true ⟨this.1.1, this.1.2.1, by first | exact this.2 | exact this.2.1, this.1.2.2⟩
theorem rep_map : ∀ l : List Nat, StrLaws.replL [34] [39] l = l.map fun c => if c = 34 then 39 else c
  | [] => StrLaws.replL_nil
  | c :: r => by
    by_cases e : c = 34
    · rw [StrLaws.replL_hit (by simp) (by rw [e]; rfl), List.map_cons, if_pos e]
      show [39] ++ StrLaws.replL [34] [39] r = _
      rw [rep_map r]
      rfl
    · rw [StrLaws.replL_miss (fun h => e (by
        have h : [c] = [34] := h
        exact (List.cons.inj h).1)), rep_map r, List.map_cons, if_neg e]
theorem rep_text {z : Str} (h : Plain z) (l : z.length ≤ 60) : textB (Txt.replace z "\"" "'") = true := by
  have e : (Txt.replace z "\"" "'").cps.toList = z.cps.toList.map fun c => if c = 34 then 39 else c := by
    rw [show ("\"" : Str) = S [34] from q_S, show ("'" : Str) = S [39] from by decide +kernel, StrLaws.replace_list (by decide)]
    exact rep_map _
  unfold textB
  have el : (Txt.replace z "\"" "'").length ≤ 60 := by rw [len_codes, e, List.length_map, ← len_codes]; exact l
  rw [decide_eq_true el, Bool.true_and, e]
  refine List.all_eq_true.mpr fun c hc => ?_
  obtain ⟨x, hx, rfl⟩ := List.mem_map.mp hc
  have := of_decide_eq_true (h x hx)
  by_cases h34 : x = 34
  · rw [if_pos h34]; decide
  · rw [if_neg h34]
    exact decide_eq_true ⟨this.1, this.2.1, h34, this.2.2⟩
theorem eq_nilT (l : List PyData) : PyData.eqv (.tuple l) (.tuple []) = l.isEmpty := by
  cases l with
  | nil => decide +kernel
  | cons x r => unfold PyData.eqv; simp [PyData.eqvAll]
def cdS (z : Str) : List Nat := z.cps.toList
theorem S_cd (z : Str) : S (cdS z) = z := SX.S_tl z
theorem map_cd (xs : List Str) : (xs.map cdS).map S = xs := by
  rw [List.map_map]
  induction xs with
  | nil => rfl
  | cons x r ih => rw [List.map_cons, ih]; rfl
theorem names_pages {xs : List Str} (nd : xs.Nodup) (h : ∀ x ∈ xs, x ∈ names8) (l : xs.length ≤ 6) : pagesC (xs.map cdS) = true := by
  unfold pagesC pagesB
  rw [map_cd, decide_eq_true l, decide_eq_true nd, Bool.true_and, Bool.true_and]
  exact List.all_eq_true.mpr fun x hx => names8_name x (h x hx)
def spLEdit (K : PySem.W.Frag) : Sp := fun vs H Q _ => ∃ (b t : Addr) (xs : List Str), vs = [.ref b, .ref t] ∧ Box H b ∧ H t = some (.tup (xs.map V.str)) ∧ xs.Nodup ∧ (∀ x ∈ xs, x ∈ names8) ∧ xs.length ≤ 6 ∧ ∀ (H' : Hp) (v : V) (e : Ed), Drew b H H' → e.ok → Dp K H' v e.d → Q v H'
def spLRec (K : PySem.W.Frag) : Sp := fun vs H Q _ => ∃ b : Addr, vs = [.ref b] ∧ Box H b ∧ ∀ (H' : Hp) (v : V) (r : Rec), Drew b H H' → r.ok → Dp K H' v r.d → Q v H'
theorem set_dp {K : PySem.W.Frag} {H : Hp} {u : Addr} {n t : Str} (h : H u = some (.tup [.str "set", .str n, .str t])) : Dp K H (.ref u) (Ed.set (cdS n) (cdS t)).d := by
  show Dp K H (.ref u) (.tuple [.str "set", .str (S (cdS n)), .str (S (cdS t))])
  rw [S_cd, S_cd]
  exact .tup (.inl (.inl h)) (.cons (.str _) (.cons (.str _) (.cons (.str _) .nil)))
theorem set_ok {n t : Str} (h1 : nameB n = true) (h2 : textB t = true) : (Ed.set (cdS n) (cdS t)).ok := by
  show nameB (S (cdS n)) = true ∧ textB (S (cdS t)) = true
  rw [S_cd, S_cd]
  exact ⟨h1, h2⟩
theorem pgs_dp {K : PySem.W.Frag} {H : Hp} {u p : Addr} {xs : List Str} (h : H u = some (.tup [.str "pages", .ref p])) (hp : SqT K H p (xs.map V.str)) : Dp K H (.ref u) (Ed.pgs (xs.map cdS)).d := by
  show Dp K H (.ref u) (.tuple [.str "pages", .tuple (((xs.map cdS).map S).map PyData.str)])
  rw [map_cd]
  exact .tup (.inl (.inl h)) (.cons (.str _) (.cons (.tup hp (vstr_dp _)) .nil))
theorem strs_pd {xs : List Str} (h : ∀ x ∈ xs, x ∈ names8) (l : xs.length ≤ 6) : PdA 0 (6 * (2 + 1)) (xs.map PyData.str) := PdA.all (fun d hd => by
  obtain ⟨z, hz, rfl⟩ := List.mem_map.mp hd
  obtain ⟨h1, h2⟩ := names8_ok z (h z hz)
  refine Pd.str (fun c hc => ?_) h1
  have := List.all_eq_true.mp h2 c hc
  unfold safeB plainB at this
  simp only [Bool.and_eq_true, decide_eq_true_eq] at this
  omega) (by rw [List.length_map]; exact l)
theorem ofN_back : ∀ {os : List Int}, (∀ x ∈ os, 1 ≤ x) → ofN (os.map Int.toNat) = os
  | [], _ => rfl
  | x :: r, h => by
    have i := ofN_back (os := r) fun y hy => h y (List.mem_cons_of_mem _ hy)
    unfold ofN at i ⊢
    rw [List.map_cons, List.map_cons, i]
    congr 1
    have := h x List.mem_cons_self
    omega
theorem drew_kt {K : PySem.W.Frag} {b : Addr} {H H' : Hp} (x : Drew b H H') (hb : Box H b) : KeepT K H H' := by
  obtain ⟨dg, ds, n, h1, h2, _⟩ := hb
  rintro a xs ((h | ⟨o, h⟩) | h)
  · exact .inl (.inl (x.keep a _ (by rintro rfl; rw [h1] at h; cases h) h))
  · exact .inl (.inr ⟨o, x.keep a _ (by rintro rfl; rw [h1] at h; cases h) h⟩)
  · exact .inr h
theorem Ed.nl (e : Ed) : noL e.d = true := by
  cases e with
  | set n t => rfl
  | rem n => rfl
  | pgs ps =>
    have : ∀ ys : List Str, noLAll (ys.map PyData.str) = true := fun ys => by
      induction ys with
      | nil => rfl
      | cons y r ih =>
        rw [List.map_cons, noLAll, ih]
        rfl
    show (noL (.str "pages") && (noL (.tuple ((ps.map S).map PyData.str)) && noLAll [])) = true
    rw [show noL (.tuple ((ps.map S).map PyData.str)) = noLAll ((ps.map S).map PyData.str) from by rw [noL], this]
    rfl
section
variable {P : Program} {w : World} {K : PySem.W.Frag} {mg : Str → Option Value} {base : Heap} {f : Addr} {fd : FuncData}
theorem ok_law_edit (F : Fun K "_law_edit" "_law_edit" s_law_edit f fd) (z : Z mg) (claw_draw : Cal P w K mg base "_law_draw" 1 ["box", "many"] spDraw) (claw_name : Cal P w K mg base "_law_name" 2 ["box"] spName) (claw_text : Cal P w K mg base "_law_text" 3 ["box", "most"] spText) (claw_pages : Cal P w K mg base "_law_pages" 3 ["box"] spPagesL) : FnOk P w K mg base CX0 4 f fd ["box", "pages"] (spLEdit K) := by
  refine F.ok sc_law_edit (fun vs H Q E h => ?_) (fun cdv A outer s H vs Q E hr h => ?_)
  · obtain ⟨b, t, xs, rfl, _⟩ := h
    rfl
  · obtain ⟨b, t, xs, rfl, hb, ht, nd, in8, l6, q⟩ := h
    refine ⟨_, (pss_cons (ps_set (i := 2) sc_law_edit.nd rfl (Or.inl rfl) (pe_cal claw_draw (hr.mono (by decide)) (by rfl) (pa_cons (pv 0) (pa_cons pe_int pa_nil))))
      (pss_cons (ps_if (pt_cmpR op_le (pv 2) pe_int (nomark _))
        (pss_cons (ps_set (i := 3) sc_law_edit.nd rfl (Or.inl rfl) (pe_cal claw_text (hr.mono (by decide)) (by rfl) (pa_cons (pv 0) (pa_cons pe_int pa_nil))))
        (C8.pss_cut (ps_if (pt_cmpR op_eq (pe_cal claw_draw (hr.mono (by decide)) (by rfl) (pa_cons (pv 0) (pa_cons pe_int pa_nil))) pe_int (nomark _))
          (pss_one (ps_set (i := 3) sc_law_edit.nd rfl (Or.inl rfl) (pe_cal claw_name (hr.mono (by decide)) (by rfl) (pa_cons (pv 0) pa_nil))))
          pss_nil)
        (pss_one (ps_ret (pe_tup (pa_cons pe_str (pa_cons (pe_cal claw_name (hr.mono (by decide)) (by rfl) (pa_cons (pv 0) pa_nil)) (pa_cons (pv 3) pa_nil))))))))
        pss_nil)
      (pss_cons (ps_if (pt_cmpR op_eq (pv 2) pe_int (nomark _))
        (pss_one (ps_ret (pe_tup (pa_cons pe_str (pa_cons (pe_cal claw_name (hr.mono (by decide)) (by rfl) (pa_cons (pv 0) pa_nil)) pa_nil)))))
        pss_nil)
      (pss_cons (ps_if (PW.pt (pw_and (pt_cmpR op_eq (pv 2) pe_int (nomark _)) (pw_and1 (pt_cmpR (op_neD hr.units) (pv 1) (pe_tup pa_nil) (nomark _)))))
        (pss_one (ps_ret (pe_tup (pa_cons pe_str (pa_cons (pe_slice sl_tupA (pv 1) (po_some pe_int) po_none) pa_nil)))))
        pss_nil)
      (pss_one (ps_ret (pe_tup (pa_cons pe_str (pa_cons (pe_cal claw_pages (hr.mono (by decide)) (by rfl) (pa_cons (pv 0) pa_nil)) pa_nil))))))))), ?_⟩
    refine ⟨.ref b, rfl, b, 10, rfl, by decide, hb, fun kd H1 k0 k1 d1 => ?_⟩
    have tb : t ≠ b := fun e => by
      obtain ⟨dg, ds, n, e1, _⟩ := hb
      rw [e, e1] at ht; cases ht
    refine ⟨_, rfl, _, _, rfl, rfl, _, rfl, ite2 (fun _ => ?_) (fun _ => ?_)⟩
    · refine ⟨.ref b, rfl, b, 5, rfl, by decide, d1.box, fun tx H2 few safe d2 => ?_⟩
      have d12 := d1.trans d2
      refine ⟨fun σ' H' => ∃ tx : Str, σ' = [some (.ref b), some (.ref t), some (.int kd), some (.str tx)] ∧ Drew b H H' ∧ textB tx = true, ?_, ?_⟩
      · refine ⟨.ref b, rfl, b, 6, rfl, by decide, d12.box, fun r H3 r0 r1 d3 => ⟨rfl, _, rfl, ite2 (fun _ => ?_) (fun _ => ?_)⟩⟩
        · refine ⟨.ref b, rfl, b, rfl, d3.box, fun nm H4 hn d4 => ?_⟩
          obtain ⟨n1, n2⟩ := names8_ok nm hn
          exact ⟨nm, rfl, (d12.trans d3).trans d4, safe_text (safe_of n2) (by omega)⟩
        · exact ⟨tx, rfl, d12.trans d3, safe_text safe few⟩
      · rintro σ' H4 ⟨tx, rfl, d4, okt⟩
        refine ⟨.ref b, rfl, b, rfl, d4.box, fun nm H5 hn d5 => ⟨_, rfl, by show 3 ≤ sizeLine; decide, fun u nu => ?_⟩⟩
        exact q _ _ _ ((d4.trans d5).same (same_new nu)) (set_ok (names8_name nm hn) okt) (set_dp upd_same)
    · refine ⟨_, rfl, rfl, _, rfl, ite2 (fun _ => ?_) (fun _ => ?_)⟩
      · refine ⟨.ref b, rfl, b, rfl, d1.box, fun nm H2 hn d2 => ⟨by show 2 ≤ sizeLine; decide, fun u nu => ?_⟩⟩
        refine q _ _ (.rem (cdS nm)) ((d1.trans d2).same (same_new nu)) (by show nameB (S (cdS nm)) = true; rw [S_cd]; exact names8_name nm hn) ?_
        show Dp K _ (.ref u) (.tuple [.str "remove", .str (S (cdS nm))])
        rw [S_cd]
        exact .tup (.inl (.inl upd_same)) (.cons (.str _) (.cons (.str _) .nil))
      · have fin : ∀ {H2 : Hp}, Drew b H1 H2 → ∀ (t2 : Addr) (ys : List Str) (H3 : Hp), H2 t2 = none → H3 t2 = some (.tup (ys.map V.str)) → ys.Nodup → (∀ x ∈ ys, x ∈ names8) → ys.length ≤ 6 → Drew b H2 H3 → ∀ u, H3 u = none → Q (.ref u) (upd H3 u (.tup [.str "pages", .ref t2])) := fun DD t2 ys H3 _ ht2 nd2 in2 l2 d3 u nu =>
          q _ _ (.pgs (ys.map cdS)) ((d1.trans (DD.trans d3)).same (same_new nu)) (names_pages nd2 in2 l2) (pgs_dp upd_same (.inl (.inl (same_new nu _ _ ht2))))
        have ht1 := d1.keep t _ tb ht
        refine ⟨_, rfl, rfl, _, rfl, ite2 (fun _ => ?_) (fun _ => iteF ?_)⟩
        · refine ⟨.ref t, rfl, Nat.zero_le _, fun p np => ?_⟩
          have sp := same_new (o := .tup []) np
          have pds := strs_pd in8 l6
          refine ⟨_, _, .tup (.inl (.inl (sp _ _ ht1))) (vstr_dp xs), .tup (.inl (.inl upd_same)) .nil, (pds.tup.sz).shaped (by decide), by decide +kernel, _, rfl, ?_⟩
          rw [eq_nilT]
          cases xs with
          | nil =>
            refine iteF ?_
            exact ⟨.ref b, rfl, b, rfl, d1.box.same sp, fun t2 ys H3 n2 ht2 nd2 in2 l2 d3 => ⟨by show 2 ≤ sizeLine; decide, fun u nu => fin (.of d1.box sp) t2 ys H3 n2 ht2 nd2 in2 l2 d3 u nu⟩⟩
          | cons x r =>
            refine iteT ?_
            refine ⟨.ref t, rfl, 1, rfl, ?_⟩
            dsimp only [tNoPart]
            refine cut_tail (xs := r.map V.str) (x := V.str x) (.inl (.inl (sp _ _ ht1))) fun t2 H3 s3 hr2 => ⟨by show 2 ≤ sizeLine; decide, fun u nu => ?_⟩
            refine q _ _ (.pgs (r.map cdS)) ((d1.same (sp.trans s3)).same (same_new nu)) (names_pages (List.nodup_cons.mp nd).2 (fun y hy => in8 y (List.mem_cons_of_mem _ hy)) (by have : (x :: r).length = r.length + 1 := rfl; omega)) (pgs_dp upd_same (Pg.same_seqT (same_new nu) hr2))
        · exact ⟨.ref b, rfl, b, rfl, d1.box, fun t2 ys H3 n2 ht2 nd2 in2 l2 d3 => ⟨by show 2 ≤ sizeLine; decide, fun u nu => fin (.of d1.box (Same.refl _)) t2 ys H3 n2 ht2 nd2 in2 l2 d3 u nu⟩⟩
theorem ok_law_record (F : Fun K "_law_record" "_law_record" s_law_record f fd) (z : Z mg) (claw_draw : Cal P w K mg base "_law_draw" 1 ["box", "many"] spDraw) (claw_pages : Cal P w K mg base "_law_pages" 3 ["box"] spPagesL) (claw_any : Cal P w K mg base "_law_any" 4 ["box"] spAny) (claw_edit : Cal P w K mg base "_law_edit" 4 ["box", "pages"] (spLEdit K)) : FnOk P w K mg base CX0 5 f fd ["box"] (spLRec K) := by
  refine F.ok sc_law_record (fun vs H Q E h => ?_) (fun cdv A outer s H vs Q E hr h => ?_)
  · obtain ⟨b, rfl, _⟩ := h
    rfl
  · obtain ⟨b, rfl, hb, q⟩ := h
    refine ⟨_, (pss_cons (ps_set (i := 1) sc_law_record.nd rfl (Or.inl rfl) (pe_cal claw_draw (hr.mono (by decide)) (by rfl) (pa_cons (pv 0) (pa_cons pe_int pa_nil))))
      (pss_cons (ps_if (pt_cmpR op_eq (pv 1) pe_int (nomark _))
        (pss_cons (ps_set (i := 2) sc_law_record.nd rfl (Or.inl rfl) (pe_tup (pa_cons pe_int (pa_cons pe_int (pa_cons pe_int (pa_cons pe_int (pa_cons pe_int (pa_cons pe_int (pa_cons pe_int pa_nil)))))))))
        (pss_one (ps_ret (pe_tup (pa_cons pe_str (pa_cons (pe_callTy call_tuple_of (by rfl) z.tuple (by decide +kernel) (pa_cons (pe_lc (own := [("number", 6)]) (g := (gName 6)) (tt := tYes) rfl sc_law_record.nd (pi_tup (pv 2)) (blkOk_by (own := [("number", 6)]) (N := ["box", "kind", "most", "numbers", "edit", "k", "number"]) (sc := defScope s_law_record) (by decide +kernel)) (fun _ _ _ _ _ => pg_name (i := 6) sc_law_record.nd rfl (Or.inl rfl)) (fun _ _ _ _ _ => pts_nil) (fun _ _ _ _ _ => (pe_ix (ix_listK (K := K) rfl) (pe_lst (pa_cons (pv 6) (pa_cons (pe_op op_add pe_int (pe_cal claw_draw (hr.mono (by decide)) (by rfl) (pa_cons (pv 0) (pa_cons (pv 6) pa_nil)))) pa_nil))) (pe_cal claw_draw (hr.mono (by decide)) (by rfl) (pa_cons (pv 0) (pa_cons pe_int pa_nil))) (fun _ _ => rfl)))) pa_nil)) pa_nil))))))
        pss_nil)
      (pss_cons (ps_setLc (i := 3) (own := [("k", 5)]) (g := (gName 5)) (tt := tYes) rfl sc_law_record.nd rfl rfl (sw_true rfl rfl rfl (by decide +kernel)) (pi_range1 (by rfl) z.range (pa_cons pe_int pa_nil)) (blkOk_by (own := [("k", 5)]) (N := ["box", "kind", "most", "numbers", "edit", "k", "number"]) (sc := defScope s_law_record) (by decide +kernel)) (fun _ _ _ _ _ => pg_name (i := 5) sc_law_record.nd rfl (Or.inl rfl)) (fun _ _ _ _ _ => pts_nil) (fun _ _ _ _ _ => (pe_ix (ix_listK (K := K) rfl) (pe_lst (pa_cons pe_int (pa_cons pe_int (pa_cons (pe_cal claw_draw (hr.mono (by decide)) (by rfl) (pa_cons (pv 0) (pa_cons pe_int pa_nil))) (pa_cons (pe_op op_add (pe_op op_mul pe_int (pe_cal claw_draw (hr.mono (by decide)) (by rfl) (pa_cons (pv 0) (pa_cons pe_int pa_nil)))) pe_int) pa_nil))))) (pe_cal claw_draw (hr.mono (by decide)) (by rfl) (pa_cons (pv 0) (pa_cons pe_int pa_nil))) (fun _ _ => rfl))))
      (pss_cons (ps_if (pt_cmpR op_eq (pv 1) pe_int (nomark _))
        (pss_one (ps_ret (pe_tup (pa_cons pe_str (pa_cons (pe_ix ix_list (pv 3) pe_int (fun _ _ => rfl)) (pa_cons (pe_ix ix_list (pv 3) pe_int (fun _ _ => rfl)) (pa_cons (pe_ix ix_list (pv 3) pe_int (fun _ _ => rfl)) pa_nil)))))))
        pss_nil)
      (pss_cons (ps_set (i := 4) sc_law_record.nd rfl (Or.inl rfl) (pe_cal claw_edit (hr.mono (by decide)) (by rfl) (pa_cons (pv 0) (pa_cons (pe_cal claw_pages (hr.mono (by decide)) (by rfl) (pa_cons (pv 0) pa_nil)) pa_nil))))
      (C8.pss_cut (ps_if (pt_cmpR op_eq (pe_cal claw_draw (hr.mono (by decide)) (by rfl) (pa_cons (pv 0) (pa_cons pe_int pa_nil))) pe_int (nomark _))
        (pss_one (ps_set (i := 4) sc_law_record.nd rfl (Or.inl rfl) (pe_tup (pa_strT (pat_str (pat_last (CwR.pet_replC (pe_slice sl_str (pe_cal claw_any (hr.mono (by decide)) (by rfl) (pa_cons (pv 0) pa_nil)) po_none (po_some pe_int)))))))))
        pss_nil)
      (pss_one (ps_ret (pe_tup (pa_cons pe_str (pa_cons (pe_ix ix_list (pv 3) pe_int (fun _ _ => rfl)) (pa_cons (pv 4) pa_nil)))))))))))), ?_⟩
    refine ⟨.ref b, rfl, b, 4, rfl, by decide, hb, fun kd H1 k0 k1 d1 => ?_⟩
    refine ⟨_, rfl, rfl, _, rfl, ite2 (fun _ => ?_) (fun _ => ?_)⟩
    · refine ⟨by show 7 ≤ sizeLine; decide, fun m nm => ?_⟩
      have sm := same_new (o := .tup [V.int 3, .int 100, .int 4, .int 100, .int 400, .int 200, .int 2000]) nm
      have d2 := d1.same sm
      have mb : m ≠ b := d1.box.ne nm
      have hm : (upd H1 m (.tup [V.int 3, .int 100, .int 4, .int 100, .int 400, .int 200, .int 2000])) m = some (.tup (mosts.map V.int)) := upd_same
      generalize upd H1 m (.tup [V.int 3, .int 100, .int 4, .int 100, .int 400, .int 200, .int 2000]) = H2 at *
      refine ⟨_, rfl, m, rfl, ⟨_, .inl (.inl hm)⟩, fun D nD => ?_⟩
      have Db : D ≠ b := d2.box.ne nD
      have hmK : SqT K H2 m (mosts.map V.int) := .inl (.inl hm)
      refine lc_tup (K := K) (a := m) (xs := mosts.map V.int) (fun i H' => Drew b H2 H' ∧ ∃ os : List Int, goodTo os i ∧ H' D = some (.lst (os.map V.int)))
        ⟨Drew.of d2.box (same_new nD), [], good_nil, upd_same⟩ (fun i H' _ ⟨x, _⟩ => .inl (.inl (x.keep m _ mb hm))) ?_ ?_
      · rintro i y H' hy ⟨x9, os, go, hD⟩
        rw [List.getElem?_map] at hy
        obtain ⟨t, ht, rfl⟩ : ∃ t, mosts[i]? = some t ∧ V.int t = y := by
          cases e : mosts[i]? with
          | none => rw [e] at hy; cases hy
          | some t => rw [e] at hy; exact ⟨t, rfl, Option.some.inj hy⟩
        have tb : 1 ≤ t ∧ t ≤ 2000 := by
          have : ∀ t ∈ mosts, 1 ≤ t ∧ t ≤ 2000 := by decide
          exact this t (List.mem_of_getElem? ht)
        have il := (List.getElem?_eq_some_iff.mp ht).1
        have i7 : i < 7 := il
        refine ⟨rfl, yes (iteT ?_)⟩
        refine ⟨_, rfl, .ref b, rfl, _, rfl, b, t, rfl, by omega, x9.box, fun r H4 r0 r1 d4 => ⟨_, _, rfl, rfl, by show 2 ≤ sizeLine; decide, fun p np => ?_⟩⟩
        have hp : (upd H4 p (.lst [V.int t, .int (1 + r)])) p = some (.lst [V.int t, .int (1 + r)]) := upd_same
        have sp := same_new (o := .lst [V.int t, .int (1 + r)]) np
        have d5 := d4.same sp
        refine ⟨.ref b, rfl, b, 2, rfl, by decide, d5.box, fun r2 H6 r20 r21 d6 => ?_⟩
        have pb : p ≠ b := d4.box.ne np
        have hp6 := d6.keep p _ pb hp
        have dd := (x9.trans d5).trans d6
        have hD6 := d6.keep D _ Db (sp _ _ (d4.keep D _ Db hD))
        have each : ∀ {v : Int}, 1 ≤ v → v ≤ t → atI [V.int t, .int (1 + r)] r2 = some (.int v) → ∃ (a : Addr) (xs : List V) (n : Int) (x : V), V.ref p = .ref a ∧ V.int r2 = .int n ∧ SqL K H6 a xs ∧ atI xs n = some x ∧ ∃ acc, H6 D = some (.lst acc) ∧ acc.length < sizeLine ∧ Drew b H2 (upd H6 D (.lst (acc ++ [x]))) ∧ ∃ os : List Int, goodTo os (i + 1) ∧ (upd H6 D (.lst (acc ++ [x]))) D = some (.lst (os.map V.int)) := fun {v} v1 v2 ha =>
          ⟨p, _, _, _, rfl, rfl, .inl (.inl hp6), ha, _, hD6, by rw [List.length_map, go.1]; exact small5 (by omega), dd.put d2.box nD, os ++ [v], good_snoc go ht v1 v2, by rw [upd_same, List.map_append]; rfl⟩
        obtain h | h : r2 = 0 ∨ r2 = 1 := by omega
        · subst h
          exact each (v := t) tb.1 (Int.le_refl _) rfl
        · subst h
          exact each (v := 1 + r) (by omega) (by omega) rfl
      · rintro H5 ⟨x9, os, go, hD⟩
        have go7 : goodTo os 7 := go
        refine ⟨D, _, rfl, .inl ⟨.inl (.inl hD), fun t nt => ⟨by show 2 ≤ sizeLine; decide, fun u nu => ?_⟩⟩⟩
        have st := same_new (o := .tup (os.map V.int)) nt
        have su := same_new (o := .tup [.str "options", .ref t]) nu
        have pos : ∀ x ∈ os, 1 ≤ x := fun x hx => by
          obtain ⟨i, hi⟩ := List.getElem?_of_mem hx
          have il := (List.getElem?_eq_some_iff.mp hi).1
          obtain ⟨t, ht⟩ : ∃ t, mosts[i]? = some t := ⟨_, List.getElem?_eq_getElem (show i < mosts.length from by show i < 7; rw [← go7.1]; exact il)⟩
          exact (go7.2 i x t hi ht).1
        have eo := ofN_back pos
        refine q _ _ (.opt (os.map Int.toNat)) ((d2.trans x9).same (st.trans su)) (by show inB (ofN (os.map Int.toNat)) = true; rw [eo]; exact inB_iff.mpr go7) ?_
        show Dp K _ (.ref u) (.tuple [.str "options", .tuple ((ofN (os.map Int.toNat)).map PyData.int)])
        rw [eo]
        exact .tup (.inl (.inl upd_same)) (.cons (.str _) (.cons (.tup (.inl (.inl (su _ _ upd_same))) (ints_dp _)) .nil))
    · refine ⟨3, rfl, by decide, by decide, fun D nD => ?_⟩
      have Db : D ≠ b := d1.box.ne nD
      refine lc_range (lo := 0) (n := 3) (fun j H' => Drew b H1 H' ∧ ∃ ns : List Nat, ns.length = j ∧ (∀ n ∈ ns, n ≤ 9999999) ∧ H' D = some (.lst ((ofN ns).map V.int)))
        ⟨Drew.of d1.box (same_new nD), [], rfl, (fun n h => by cases h), upd_same⟩ ?_ ?_
      · rintro j H' hj ⟨x9, ns, ln, bn, hD⟩
        refine ⟨rfl, yes (iteT ?_)⟩
        refine ⟨.ref b, rfl, b, 1000, rfl, by decide, x9.box, fun r1 H3 r10 r11 d3 => ?_⟩
        refine ⟨.ref b, rfl, b, 1000, rfl, by decide, d3.box, fun r2 H4 r20 r21 d4 => ?_⟩
        refine ⟨_, _, rfl, rfl, .inl ⟨by omega, by omega⟩, _, _, rfl, rfl, by show 4 ≤ sizeLine; decide, fun p np => ?_⟩
        have hp : (upd H4 p (.lst [V.int 0, .int 9999999, .int r1, .int (1000 * r2 + 7)])) p = some (.lst [V.int 0, .int 9999999, .int r1, .int (1000 * r2 + 7)]) := upd_same
        have sp := same_new (o := .lst [V.int 0, .int 9999999, .int r1, .int (1000 * r2 + 7)]) np
        have d5 := (d3.trans d4).same sp
        refine ⟨.ref b, rfl, b, 4, rfl, by decide, d5.box, fun r4 H6 r40 r41 d6 => ?_⟩
        have pb : p ≠ b := d4.box.ne np
        have hp6 := d6.keep p _ pb hp
        have dd := (x9.trans d5).trans d6
        have hD6 := d6.keep D _ Db (sp _ _ (d4.keep D _ Db (d3.keep D _ Db hD)))
        have each : ∀ {v : Int}, 0 ≤ v → v ≤ 9999999 → atI [V.int 0, .int 9999999, .int r1, .int (1000 * r2 + 7)] r4 = some (.int v) → ∃ (a : Addr) (xs : List V) (n : Int) (x : V), V.ref p = .ref a ∧ V.int r4 = .int n ∧ SqL K H6 a xs ∧ atI xs n = some x ∧ ∃ acc, H6 D = some (.lst acc) ∧ acc.length < sizeLine ∧ Drew b H1 (upd H6 D (.lst (acc ++ [x]))) ∧ ∃ ns : List Nat, ns.length = j + 1 ∧ (∀ n ∈ ns, n ≤ 9999999) ∧ (upd H6 D (.lst (acc ++ [x]))) D = some (.lst ((ofN ns).map V.int)) := fun {v} v0 v1 ha => by
          obtain ⟨k, rfl⟩ := Int.eq_ofNat_of_zero_le v0
          refine ⟨p, _, _, _, rfl, rfl, .inl (.inl hp6), ha, _, hD6, by unfold ofN; rw [List.length_map, List.length_map]; exact small5 (by omega), dd.put d1.box nD, ns ++ [k], by rw [List.length_append, ln]; rfl, fun n hn => ?_, by rw [upd_same]; unfold ofN; rw [List.map_append, List.map_append]; rfl⟩
          rcases List.mem_append.mp hn with h | h
          · exact bn n h
          · rw [List.mem_singleton.mp h]; omega
        obtain h | h | h | h : r4 = 0 ∨ r4 = 1 ∨ r4 = 2 ∨ r4 = 3 := by omega
        · subst h; exact each (v := 0) (by omega) (by omega) rfl
        · subst h; exact each (v := 9999999) (by omega) (by omega) rfl
        · subst h; exact each (v := r1) (by omega) (by omega) rfl
        · subst h; exact each (v := 1000 * r2 + 7) (by omega) (by omega) rfl
      · rintro H3 ⟨x9, ns, ln, bn, hD⟩
        have d3 := d1.trans x9
        obtain ⟨n0, n1, n2, rfl⟩ : ∃ n0 n1 n2, ns = [n0, n1, n2] := match ns, ln with
          | [n0, n1, n2], _ => ⟨n0, n1, n2, rfl⟩
        have hD : H3 D = some (.lst [V.int (n0 : Nat), .int (n1 : Nat), .int (n2 : Nat)]) := hD
        refine ⟨_, rfl, rfl, _, rfl, ite2 (fun _ => ?_) (fun _ => ?_)⟩
        · refine ⟨.ref D, rfl, D, _, _, .int (n0 : Nat), rfl, rfl, .inl (.inl hD), atI_nat (j := 0) rfl, .ref D, rfl, D, _, _, .int (n1 : Nat), rfl, rfl, .inl (.inl hD), atI_nat (j := 1) rfl, .ref D, rfl, D, _, _, .int (n2 : Nat), rfl, rfl, .inl (.inl hD), atI_nat (j := 2) rfl, by show 4 ≤ sizeLine; decide, fun u nu => ?_⟩
          exact q _ _ (.ver [n0, n1, n2]) (d3.same (same_new nu)) ⟨rfl, bn⟩ (.tup (.inl (.inl upd_same)) (.cons (.str _) (.cons (.int _) (.cons (.int _) (.cons (.int _) .nil)))))
        · refine ⟨.ref b, rfl, .ref b, rfl, b, rfl, d3.box, fun t xs H4 nt ht nd in8 l6 d4 => ⟨b, t, xs, rfl, d4.box, ht, nd, in8, l6, fun H5 v e d5 ok dv => ?_⟩⟩
          have d35 := d4.trans d5
          have hD5 := d35.keep D _ Db hD
          have d05 := d3.trans d35
          refine ⟨fun σ' H' => ∃ (v : V) (e : Ed), σ' = [some (.ref b), some (.int kd), none, some (.ref D), some v, none, none] ∧ Drew b H5 H' ∧ e.ok ∧ Dp K H' v e.d, ?_, ?_⟩
          · refine ⟨.ref b, rfl, b, 4, rfl, by decide, d05.box, fun r H6 r0 r1 d6 => ⟨rfl, _, rfl, ite2 (fun _ => ?_) (fun _ => ?_)⟩⟩
            · refine ⟨.ref b, rfl, b, rfl, (d05.trans d6).box, fun z H7 zl zp d7 => ⟨60, rfl, z, rfl, sizeLine_big (by omega), ?_⟩⟩
              have cz := cut_to z 60
              have cl : (cutS z none (some 60)).length ≤ 60 := by
                rw [len_codes, show (cutS z none (some 60)).cps.toList = z.cps.toList.take 60 from cz, List.length_take]
                omega
              have cp : Plain (cutS z none (some 60)) := fun c hc => zp c (List.mem_of_mem_take (by rw [← cz]; exact hc))
              refine ⟨_, rfl, by rw [show ("'" : Str).length = 1 from by decide]; omega, by show 3 ≤ sizeLine; decide, fun u nu => ?_⟩
              exact ⟨_, _, rfl, (d6.trans d7).same (same_new nu), set_ok (n := "abcdef") (by decide +kernel) (rep_text cp cl), set_dp upd_same⟩
            · exact ⟨v, e, rfl, d6, ok, Dp.keepT (drew_kt d6 d05.box) _ _ (Ed.nl e) dv⟩
          · rintro σ' H6 ⟨v, e, rfl, d6, ok, dv⟩
            refine ⟨.ref D, rfl, D, _, _, .int (n0 : Nat), rfl, rfl, .inl (.inl (d6.keep D _ Db hD5)), atI_nat (j := 0) rfl, _, rfl, by show 3 ≤ sizeLine; decide, fun u nu => ?_⟩
            have su := same_new (o := .tup [.str "edit", .int (n0 : Nat), v]) nu
            exact q _ _ (.edt n0 e) ((d05.trans d6).same su) ⟨bn n0 (by simp), ok⟩ (.tup (.inl (.inl upd_same)) (.cons (.str _) (.cons (.int _) (.cons (Dp.keepT (Same.keepT su) _ _ (Ed.nl e) dv) .nil))))
end
end K45

namespace K45
open PySem PySem.Spec PyProof.Rows L2 Pg
open SX (S)
def spSpoilt : Sp := fun vs H Q _ => ∃ (b : Addr) (z : Str), vs = [.ref b, .str z] ∧ Box H b ∧ 1 ≤ z.length ∧ z.length ≤ 300 ∧ ∀ (H' : Hp) (y : Str), Drew b H H' → y.length ≤ 900 → Q (.str y) H'
def menuA : List Str := ["", "edit", "edit 0", "edit 0 pages a a", "edit 0 set a", "edit 0 set a \"", "edit 01 set a \"\"", "version 1 2", "version 1 2 3 4"]
def menuB : List Str := ["edit 0 pages a b c d e ab bc", ("edit 0 set abcdefg " : Str) ++ "\"\"", ("edit 0 set a " : Str) ++ "\"" ++ repS "x" 61 ++ "\"", "options 3 100 4 100 400 200 2001"]
def menuC : List Str := ["options 1 1 1 1 1 1 0", "options 4 1 1 1 1 1 1", "options 1 1 1 1 1 1", "version 10000000 0 0", "edit 0 remove abcdefg", "edit 0 pages  a"]
theorem menu_ok : (menuA ++ menuB ++ menuC).all (fun y => decide (y.length ≤ 900)) = true := by decide +kernel
section
variable {P : Program} {w : World} {K : PySem.W.Frag} {mg : Str → Option Value} {base : Heap} {f : Addr} {fd : FuncData}
theorem ok_law_spoilt (F : Fun K "_law_spoilt" "_law_spoilt" s_law_spoilt f fd) (z : Z mg) (claw_draw : Cal P w K mg base "_law_draw" 1 ["box", "many"] spDraw) : FnOk P w K mg base CX0 2 f fd ["box", "text"] spSpoilt := by
  refine F.ok sc_law_spoilt (fun vs H Q E h => ?_) (fun cdv A outer s H vs Q E hr h => ?_)
  · obtain ⟨b, z, rfl, _⟩ := h
    rfl
  · obtain ⟨b, t, rfl, hb, l1, l3, q⟩ := h
    refine ⟨_, (pss_cons (ps_set (i := 2) sc_law_spoilt.nd rfl (Or.inl rfl) (pe_cal claw_draw (hr.mono (by decide)) (by rfl) (pa_cons (pv 0) (pa_cons (pe_callB call_len_str (by rfl) z.len PySem.boot_len (pa_cons (pv 1) pa_nil)) pa_nil))))
      (pss_cons (ps_set (i := 3) sc_law_spoilt.nd rfl (Or.inl rfl) (pe_ix ix_str pe_str (pe_cal claw_draw (hr.mono (by decide)) (by rfl) (pa_cons (pv 0) (pa_cons pe_int pa_nil))) (fun _ _ => rfl)))
      (pss_cons (ps_set (i := 4) sc_law_spoilt.nd rfl (Or.inl rfl) (pe_cal claw_draw (hr.mono (by decide)) (by rfl) (pa_cons (pv 0) (pa_cons pe_int pa_nil))))
      (pss_cons (ps_if (pt_cmpR op_eq (pv 4) pe_int (nomark _))
        (pss_one (ps_ret (pe_op op_add_str (pe_slice sl_str (pv 1) po_none (po_some (pv 2))) (pe_slice sl_str (pv 1) (po_some (pe_op op_add (pv 2) pe_int)) po_none))))
        pss_nil)
      (pss_cons (ps_if (pt_cmpR op_eq (pv 4) pe_int (nomark _))
        (pss_one (ps_ret (pe_op op_add_str (pe_op op_add_str (pe_slice sl_str (pv 1) po_none (po_some (pv 2))) (pv 3)) (pe_slice sl_str (pv 1) (po_some (pv 2)) po_none))))
        pss_nil)
      (pss_cons (ps_if (pt_cmpR op_eq (pv 4) pe_int (nomark _))
        (pss_one (ps_ret (pe_op op_add_str (pe_op op_add_str (pe_slice sl_str (pv 1) po_none (po_some (pv 2))) (pv 3)) (pe_slice sl_str (pv 1) (po_some (pe_op op_add (pv 2) pe_int)) po_none))))
        pss_nil)
      (pss_cons (ps_set (i := 5) sc_law_spoilt.nd rfl (Or.inl rfl) (pe_lst (pa_cons pe_str (pa_cons pe_str (pa_cons pe_str (pa_cons pe_str (pa_cons pe_str (pa_cons pe_str (pa_cons pe_str (pa_cons pe_str (pa_cons pe_str pa_nil)))))))))))
      (pss_cons (ps_set (i := 5) sc_law_spoilt.nd rfl (Or.inl rfl) (pe_op op_cat (pv 5) (pe_lst (pa_cons pe_str (pa_cons (pe_op op_add_str pe_str pe_str) (pa_cons (pe_op op_add_str (pe_op op_add_str (pe_op op_add_str pe_str pe_str) (pe_op op_mulS pe_str pe_int)) pe_str) (pa_cons pe_str pa_nil)))))))
      (pss_cons (ps_set (i := 5) sc_law_spoilt.nd rfl (Or.inl rfl) (pe_op op_cat (pv 5) (pe_lst (pa_cons pe_str (pa_cons pe_str (pa_cons pe_str (pa_cons pe_str (pa_cons pe_str (pa_cons pe_str pa_nil)))))))))
      (pss_one (ps_ret (pe_ix ix_list (pv 5) (pe_cal claw_draw (hr.mono (by decide)) (by rfl) (pa_cons (pv 0) (pa_cons pe_int pa_nil))) (fun _ _ => rfl))))))))))))), ?_⟩
    refine ⟨.ref b, rfl, _, rfl, t, rfl, sizeLine_big (by omega), b, _, rfl, by omega, hb, fun at_ H1 a0 a1 d1 => ?_⟩
    refine ⟨.ref b, rfl, b, 9, rfl, by decide, d1.box, fun r H2 r0 r1 d2 => ?_⟩
    obtain ⟨k, rfl⟩ := Int.eq_ofNat_of_zero_le r0
    have e9 : ((" 0\"a.A,9-" : Str).cps.toList).length = 9 := by decide +kernel
    obtain ⟨c, hc⟩ : ∃ c, ((" 0\"a.A,9-" : Str).cps.toList)[k]? = some c := ⟨_, List.getElem?_eq_getElem (by omega)⟩
    have d12 := d1.trans d2
    have cl : ∀ lo hi, (cutS t lo hi).length ≤ t.length := cutS_len t
    have sg : (⟨#[c]⟩ : Str).length = 1 := rfl
    refine ⟨_, _, c, rfl, rfl, by decide, atI_nat hc, ?_⟩
    refine ⟨.ref b, rfl, b, 4, rfl, by decide, d12.box, fun kd H3 _ _ d3 => ?_⟩
    have d13 := d12.trans d3
    refine ⟨_, rfl, rfl, _, rfl, ite2 (fun _ => ?_) (fun _ => ?_)⟩
    · refine ⟨_, rfl, _, rfl, _, rfl, t, rfl, sizeLine_big (by omega), ?_⟩
      refine ⟨_, rfl, _, rfl, _, _, rfl, rfl, _, rfl, ?_⟩
      dsimp only [tNoPart]
      refine ⟨t, rfl, sizeLine_big (by omega), _, _, rfl, rfl, sizeLine_big (Nat.le_trans (Nat.add_le_add (cl _ _) (cl _ _)) (by omega)), ?_⟩
      exact q _ _ d13 (by rw [len_app]; exact Nat.le_trans (Nat.add_le_add (cl _ _) (cl _ _)) (by omega))
    refine ⟨_, rfl, rfl, _, rfl, ite2 (fun _ => ?_) (fun _ => ?_)⟩
    · refine ⟨_, rfl, _, rfl, _, rfl, t, rfl, sizeLine_big (by omega), _, rfl, _, _, rfl, rfl, sizeLine_big (by rw [sg]; exact Nat.le_trans (Nat.add_le_add (cl _ _) (Nat.le_refl 1)) (by omega)), ?_⟩
      refine ⟨_, rfl, _, rfl, _, rfl, ?_⟩
      dsimp only [tNoPart]
      refine ⟨t, rfl, sizeLine_big (by omega), _, _, rfl, rfl, sizeLine_big (by rw [len_app, sg]; exact Nat.le_trans (Nat.add_le_add (Nat.add_le_add (cl _ _) (Nat.le_refl 1)) (cl _ _)) (by omega)), ?_⟩
      exact q _ _ d13 (by rw [len_app, len_app, sg]; exact Nat.le_trans (Nat.add_le_add (Nat.add_le_add (cl _ _) (Nat.le_refl 1)) (cl _ _)) (by omega))
    refine ⟨_, rfl, rfl, _, rfl, ite2 (fun _ => ?_) (fun _ => ?_)⟩
    · refine ⟨_, rfl, _, rfl, _, rfl, t, rfl, sizeLine_big (by omega), _, rfl, _, _, rfl, rfl, sizeLine_big (by rw [sg]; exact Nat.le_trans (Nat.add_le_add (cl _ _) (Nat.le_refl 1)) (by omega)), ?_⟩
      refine ⟨_, rfl, _, rfl, _, _, rfl, rfl, _, rfl, ?_⟩
      dsimp only [tNoPart]
      refine ⟨t, rfl, sizeLine_big (by omega), _, _, rfl, rfl, sizeLine_big (by rw [len_app, sg]; exact Nat.le_trans (Nat.add_le_add (Nat.add_le_add (cl _ _) (Nat.le_refl 1)) (cl _ _)) (by omega)), ?_⟩
      exact q _ _ d13 (by rw [len_app, len_app, sg]; exact Nat.le_trans (Nat.add_le_add (Nat.add_le_add (cl _ _) (Nat.le_refl 1)) (cl _ _)) (by omega))
    · refine ⟨by show 9 ≤ sizeLine; decide, fun L1 n1 => ?_⟩
      have s1 := same_new (o := .lst (menuA.map V.str)) n1
      have h1 : (upd H3 L1 (.lst (menuA.map V.str))) L1 = some (.lst (menuA.map V.str)) := upd_same
      refine ⟨_, rfl, _, _, rfl, rfl, by decide, _, _, rfl, rfl, by decide, "x", 61, rfl, rfl, by decide, by decide, _, _, rfl, rfl, by decide +kernel, _, _, rfl, rfl, by decide +kernel, by show 4 ≤ sizeLine; decide, fun L2 n2 => ?_⟩
      have s2 := same_new (o := .lst (menuB.map V.str)) n2
      have n2 : (upd H3 L1 (.lst (menuA.map V.str))) L2 = none := n2
      have h2 : (upd (upd H3 L1 (.lst (menuA.map V.str))) L2 (.lst (menuB.map V.str))) L2 = some (.lst (menuB.map V.str)) := upd_same
      refine ⟨L1, L2, menuA.map V.str, menuB.map V.str, rfl, rfl, s2 _ _ h1, h2, by show 13 ≤ sizeLine; decide, fun L3 n3 => ?_⟩
      have s3 := same_new (o := .lst (menuA.map V.str ++ menuB.map V.str)) n3
      have h3 : (upd (upd (upd H3 L1 (.lst (menuA.map V.str))) L2 (.lst (menuB.map V.str))) L3 (.lst (menuA.map V.str ++ menuB.map V.str))) L3 = some (.lst (menuA.map V.str ++ menuB.map V.str)) := upd_same
      refine ⟨_, rfl, by show 6 ≤ sizeLine; decide, fun L4 n4 => ?_⟩
      have s4 := same_new (o := .lst (menuC.map V.str)) n4
      refine ⟨L3, L4, menuA.map V.str ++ menuB.map V.str, menuC.map V.str, rfl, rfl, s4 _ _ h3, upd_same, by show 19 ≤ sizeLine; decide, fun L5 n5 => ?_⟩
      have s5 := same_new (o := .lst (menuA.map V.str ++ menuB.map V.str ++ menuC.map V.str)) n5
      have d5 := d13.same (s1.trans (s2.trans (s3.trans (s4.trans s5))))
      have L5b : L5 ≠ b := (d13.same (s1.trans (s2.trans (s3.trans s4)))).box.ne n5
      refine ⟨_, rfl, .ref b, rfl, b, 19, rfl, by decide, d5.box, fun r H6 r0 r1 d6 => ?_⟩
      have h6 := d6.keep L5 _ L5b upd_same
      obtain ⟨v, hv, at_v⟩ := at_in (xs := (menuA ++ menuB ++ menuC).map V.str) r0 r1
      obtain ⟨y, hy, rfl⟩ := List.mem_map.mp hv
      refine ⟨L5, (menuA ++ menuB ++ menuC).map V.str, r, .str y, rfl, rfl, .inl (.inl (by rw [h6, List.map_append, List.map_append])), at_v, q _ _ (d5.trans d6) ?_⟩
      exact of_decide_eq_true (List.all_eq_true.mp menu_ok y hy)
end
end K45

namespace K45
open PySem PySem.Spec PyProof.Rows L2 Pg
open SX (S)
def spFairE (K : PySem.W.Frag) : Sp := fun vs H Q _ => ∃ (v : V) (e : Ed), vs = [v] ∧ Dp K H v e.d ∧ e.ok ∧ ∀ H', Same H H' → Q (.bl true) H'
def spFairR (K : PySem.W.Frag) : Sp := fun vs H Q _ => ∃ (v : V) (r : Rec), vs = [v] ∧ Dp K H v r.d ∧ r.ok ∧ ∀ H', Same H H' → Q (.bl true) H'
section
variable {P : Program} {w : World} {K : PySem.W.Frag} {mg : Str → Option Value} {base : Heap} {f : Addr} {fd : FuncData}
theorem ok_law_fair_edit (F : Fun K "_law_fair_edit" "_law_fair_edit" s_law_fair_edit f fd) (z : Z mg) (claw_is_name : Cal P w K mg base "_law_is_name" 1 ["text"] spIsName) : FnOk P w K mg base CX0 2 f fd ["edit"] (spFairE K) := by
  refine F.ok sc_law_fair_edit (fun vs H Q E h => ?_) (fun cdv A outer s H vs Q E hr h => ?_)
  · obtain ⟨v, e, rfl, _⟩ := h
    rfl
  · obtain ⟨v, e, rfl, d, ok, q⟩ := h
    refine ⟨_, (C8.pss_cut (ps_if (PW.pt (pw_and (pt_cmpR op_eq (pe_ix ix_tup (pv 0) pe_int (fun _ _ => rfl)) pe_str (nomark _)) (pw_and1 (PW.pt (pw_or (pt_cmpR op_gt (pe_callB call_len_str (by rfl) z.len PySem.boot_len (pa_cons (pe_ix ix_tup (pv 0) pe_int (fun _ _ => rfl)) pa_nil)) pe_int (nomark _)) (pw_or1 (pt_cmpR op_in_sign pe_str (pe_ix ix_tup (pv 0) pe_int (fun _ _ => rfl)) (by rfl))))))))
        (pss_one (ps_ret pe_bl))
        pss_nil)
      (pss_cons (ps_set (i := 1) sc_law_fair_edit.nd rfl (Or.inl rfl) (pe_lst (pa_cons (pe_ix ix_tup (pv 0) pe_int (fun _ _ => rfl)) pa_nil)))
      (C8.pss_cut (ps_if (pt_cmpR op_eq (pe_ix ix_tup (pv 0) pe_int (fun _ _ => rfl)) pe_str (nomark _))
        (pss_one (ps_set (i := 1) sc_law_fair_edit.nd rfl (Or.inl rfl) (pe_callTy call_list_of (by rfl) z.list (by decide +kernel) (pa_cons (pe_ix ix_tup (pv 0) pe_int (fun _ _ => rfl)) pa_nil))))
        pss_nil)
      (pss_one (ps_ret (pe_and (pe_cmpR op_le (pe_callB call_len_seq (by rfl) z.len PySem.boot_len (pa_cons (pv 1) pa_nil)) pe_int (nomark _)) (pe_and (pe_cmpR op_eq (pe_countL rfl (by rfl) z.len (by rfl) z.set (pv 1)) (pe_callB call_len_seq (by rfl) z.len PySem.boot_len (pa_cons (pv 1) pa_nil)) (nomark _)) (pe_one (pe_cmpR (op_eqD hr.units) (pe_lc (own := [("name", 2)]) (g := (gName 2)) rfl sc_law_fair_edit.nd (pi_list (pv 1)) (blkOk_by (own := [("name", 2)]) (N := ["edit", "names", "name"]) (sc := defScope s_law_fair_edit) (by decide +kernel)) (fun _ _ _ _ _ => pg_name (i := 2) sc_law_fair_edit.nd rfl (Or.inl rfl)) (fun _ _ _ _ _ => (pts_one (pt_not (pt_val (pe_cal claw_is_name (hr.mono (by decide)) (by rfl) (pa_cons (pv 2) pa_nil)))))) (fun _ _ _ _ _ => (pv 2))) (pe_lst pa_nil) (nomark _)))))))))), ?_⟩
    obtain ⟨a, rfl, at_⟩ := ed_at d
    refine ⟨fun σ' H' => σ' = [some (.ref a), none, none] ∧ H' = H, ?_, ?_⟩
    · cases e with
      | set n t =>
        have sq : SqT K H a [.str "set", .str (S n), .str (S t)] := at_
        obtain ⟨t60, tc⟩ := text_codes ok.2
        refine ⟨.ref a, rfl, a, _, _, .str "set", rfl, rfl, sq, atI_nat (j := 0) rfl, rfl, _, rfl, iteT ?_⟩
        refine ⟨.ref a, rfl, a, _, _, .str (S t), rfl, rfl, sq, atI_nat (j := 2) rfl, S t, rfl, sizeLine_big (by rw [SX.S_len]; omega), _, _, rfl, rfl, _, rfl, ?_⟩
        rw [decide_eq_false (show ¬ (60 : Int) < ((S t).length : Nat) by rw [SX.S_len]; omega)]
        refine iteF ?_
        refine ⟨.ref a, rfl, a, _, _, .str (S t), rfl, rfl, sq, atI_nat (j := 2) rfl, ?_⟩
        refine ⟨34, S t, by rw [q_S], rfl, _, rfl, ?_⟩
        rw [decide_eq_false (show ¬ (34 : Nat) ∈ (S t).cps.toList from fun m => (tc 34 m).2.2.1 rfl)]
        exact iteF ⟨rfl, rfl⟩
      | rem n =>
        have sq : SqT K H a [.str "remove", .str (S n)] := at_
        exact ⟨.ref a, rfl, a, _, _, .str "remove", rfl, rfl, sq, atI_nat (j := 0) rfl, rfl, _, rfl, ite2 (fun e => absurd e (by decide +kernel)) (fun _ => iteF ⟨rfl, rfl⟩)⟩
      | pgs ps =>
        obtain ⟨pa, sq, sp⟩ := at_
        exact ⟨.ref a, rfl, a, _, _, .str "pages", rfl, rfl, sq, atI_nat (j := 0) rfl, rfl, _, rfl, ite2 (fun e => absurd e (by decide +kernel)) (fun _ => iteF ⟨rfl, rfl⟩)⟩
    · rintro σ' H' ⟨rfl, rfl⟩
      have name1 : ∀ {n : List Nat}, nameC n = true → ∀ y ∈ [S n], nameB y = true := fun {n} h y hy => by rw [List.mem_singleton.mp hy]; exact h
      cases e with
      | set n t =>
        have sq : SqT K H' a [.str "set", .str (S n), .str (S t)] := at_
        refine ⟨.ref a, rfl, a, _, _, .str (S n), rfl, rfl, sq, atI_nat (j := 1) rfl, by show 1 ≤ sizeLine; decide, fun L nL => ?_⟩
        have sL := same_new (o := .lst [V.str (S n)]) nL
        refine ⟨fun σ' H1 => ∃ (L : Addr) (ys : List Str), σ' = [some (.ref a), some (.ref L), none] ∧ Same H' H1 ∧ H1 L = some (.lst (ys.map V.str)) ∧ ys.length ≤ 6 ∧ ys.Nodup ∧ (∀ y ∈ ys, nameB y = true), ?_, ?_⟩
        · exact ⟨.ref a, rfl, a, _, _, .str "set", rfl, rfl, Pg.same_seqT sL sq, atI_nat (j := 0) rfl, rfl, _, rfl, ite2 (fun e => absurd e (by decide +kernel)) (fun _ => ⟨L, [S n], rfl, sL, upd_same, by show 1 ≤ 6; decide, by simp, name1 ok.1⟩)⟩
        · rintro σ' H1 ⟨L, ys, rfl, s1, hL, l6, nd, nm⟩
          have ll : (ys.map V.str).length = ys.length := List.length_map ..
          have ny : ∀ y ∈ ys, y.length ≤ 6 := fun y hy => by
            have := nm y hy
            unfold nameB at this
            rw [Bool.and_eq_true] at this
            exact (of_decide_eq_true this.2).2
          refine ⟨_, rfl, L, _, rfl, .inl (.inl (.inl hL)), _, _, rfl, rfl, _, rfl, ?_⟩
          rw [decide_eq_true (show (((ys.map V.str).length : Nat) : Int) ≤ 6 by rw [ll]; omega)]
          refine iteT ?_
          refine ⟨_, rfl, L, ys, rfl, .inl (.inl hL), by omega, _, rfl, L, _, rfl, .inl (.inl (.inl hL)), rfl, _, rfl, ?_⟩
          have ec : decide (V.int (cntS ys : Nat) = V.int ((ys.map V.str).length : Nat)) = true := decide_eq_true (by rw [ll, (cntS_full ys).mpr nd])
          rw [ec]
          refine iteT ?_
          refine ⟨_, rfl, L, rfl, ⟨_, .inl (.inl hL)⟩, fun D nD => ?_⟩
          refine lc_list (K := K) (a := L) (xs := ys.map V.str) (fun i H3 => Same H1 H3 ∧ H3 D = some (.lst [])) ⟨same_new nD, upd_same⟩ (fun i H3 _ h => .inl (.inl (h.1 _ _ hL))) ?_ ?_
          · rintro i y H3 hy ⟨sm, hD⟩
            rw [List.getElem?_map] at hy
            obtain ⟨x, hx, rfl⟩ : ∃ x, ys[i]? = some x ∧ V.str x = y := by
              cases e : ys[i]? with
              | none => rw [e] at hy; cases hy
              | some x => rw [e] at hy; exact ⟨x, rfl, Option.some.inj hy⟩
            have xm := List.mem_of_getElem? hx
            refine ⟨rfl, _, rfl, x, rfl, by have := ny x xm; omega, _, rfl, ?_⟩
            rw [nm x xm]
            exact iteF ⟨sm, hD⟩
          · rintro H3 ⟨sm, hD⟩
            refine ⟨Nat.zero_le _, fun m nm => ?_⟩
            have s4 := same_new (o := .lst []) nm
            refine ⟨_, _, .lst (.inl (.inl (s4 _ _ hD))) .nil, .lst (.inl (.inl upd_same)) .nil, by decide +kernel, by decide +kernel, ?_⟩
            rw [show PyData.eqv (.list []) (.list []) = true from by decide +kernel]
            exact q _ (s1.trans (sm.trans s4))
      | rem n =>
        have sq : SqT K H' a [.str "remove", .str (S n)] := at_
        refine ⟨.ref a, rfl, a, _, _, .str (S n), rfl, rfl, sq, atI_nat (j := 1) rfl, by show 1 ≤ sizeLine; decide, fun L nL => ?_⟩
        have sL := same_new (o := .lst [V.str (S n)]) nL
        refine ⟨fun σ' H1 => ∃ (L : Addr) (ys : List Str), σ' = [some (.ref a), some (.ref L), none] ∧ Same H' H1 ∧ H1 L = some (.lst (ys.map V.str)) ∧ ys.length ≤ 6 ∧ ys.Nodup ∧ (∀ y ∈ ys, nameB y = true), ?_, ?_⟩
        · exact ⟨.ref a, rfl, a, _, _, .str "remove", rfl, rfl, Pg.same_seqT sL sq, atI_nat (j := 0) rfl, rfl, _, rfl, ite2 (fun e => absurd e (by decide +kernel)) (fun _ => ⟨L, [S n], rfl, sL, upd_same, by show 1 ≤ 6; decide, by simp, name1 ok⟩)⟩
        · rintro σ' H1 ⟨L, ys, rfl, s1, hL, l6, nd, nm⟩
          have ll : (ys.map V.str).length = ys.length := List.length_map ..
          have ny : ∀ y ∈ ys, y.length ≤ 6 := fun y hy => by
            have := nm y hy
            unfold nameB at this
            rw [Bool.and_eq_true] at this
            exact (of_decide_eq_true this.2).2
          refine ⟨_, rfl, L, _, rfl, .inl (.inl (.inl hL)), _, _, rfl, rfl, _, rfl, ?_⟩
          rw [decide_eq_true (show (((ys.map V.str).length : Nat) : Int) ≤ 6 by rw [ll]; omega)]
          refine iteT ?_
          refine ⟨_, rfl, L, ys, rfl, .inl (.inl hL), by omega, _, rfl, L, _, rfl, .inl (.inl (.inl hL)), rfl, _, rfl, ?_⟩
          have ec : decide (V.int (cntS ys : Nat) = V.int ((ys.map V.str).length : Nat)) = true := decide_eq_true (by rw [ll, (cntS_full ys).mpr nd])
          rw [ec]
          refine iteT ?_
          refine ⟨_, rfl, L, rfl, ⟨_, .inl (.inl hL)⟩, fun D nD => ?_⟩
          refine lc_list (K := K) (a := L) (xs := ys.map V.str) (fun i H3 => Same H1 H3 ∧ H3 D = some (.lst [])) ⟨same_new nD, upd_same⟩ (fun i H3 _ h => .inl (.inl (h.1 _ _ hL))) ?_ ?_
          · rintro i y H3 hy ⟨sm, hD⟩
            rw [List.getElem?_map] at hy
            obtain ⟨x, hx, rfl⟩ : ∃ x, ys[i]? = some x ∧ V.str x = y := by
              cases e : ys[i]? with
              | none => rw [e] at hy; cases hy
              | some x => rw [e] at hy; exact ⟨x, rfl, Option.some.inj hy⟩
            have xm := List.mem_of_getElem? hx
            refine ⟨rfl, _, rfl, x, rfl, by have := ny x xm; omega, _, rfl, ?_⟩
            rw [nm x xm]
            exact iteF ⟨sm, hD⟩
          · rintro H3 ⟨sm, hD⟩
            refine ⟨Nat.zero_le _, fun m nm => ?_⟩
            have s4 := same_new (o := .lst []) nm
            refine ⟨_, _, .lst (.inl (.inl (s4 _ _ hD))) .nil, .lst (.inl (.inl upd_same)) .nil, by decide +kernel, by decide +kernel, ?_⟩
            rw [show PyData.eqv (.list []) (.list []) = true from by decide +kernel]
            exact q _ (s1.trans (sm.trans s4))
      | pgs ps =>
        obtain ⟨pa, sq, sp⟩ := at_
        obtain ⟨l6', nd', nm'⟩ := pages_parts ok
        refine ⟨.ref a, rfl, a, _, _, .ref pa, rfl, rfl, sq, atI_nat (j := 1) rfl, by show 1 ≤ sizeLine; decide, fun L nL => ?_⟩
        have sL := same_new (o := .lst [V.ref pa]) nL
        refine ⟨fun σ' H1 => ∃ (L : Addr) (ys : List Str), σ' = [some (.ref a), some (.ref L), none] ∧ Same H' H1 ∧ H1 L = some (.lst (ys.map V.str)) ∧ ys.length ≤ 6 ∧ ys.Nodup ∧ (∀ y ∈ ys, nameB y = true), ?_, ?_⟩
        · refine ⟨.ref a, rfl, a, _, _, .str "pages", rfl, rfl, Pg.same_seqT sL sq, atI_nat (j := 0) rfl, rfl, _, rfl, iteT ?_⟩
          refine ⟨.ref a, rfl, a, _, _, .ref pa, rfl, rfl, Pg.same_seqT sL sq, atI_nat (j := 1) rfl, pa, _, rfl, .inr (Pg.same_seqT sL sp), fun L2 n2 => ?_⟩
          refine ⟨L2, ps.map S, rfl, sL.trans (same_new n2), upd_same, by rw [List.length_map]; exact l6', ?_, fun y hy => ?_⟩
          · exact List.pairwise_map.mpr (nd'.imp fun h e => h (SX.S_inj e))
          · obtain ⟨x, hx, rfl⟩ := List.mem_map.mp hy
            exact nm' x hx
        · rintro σ' H1 ⟨L, ys, rfl, s1, hL, l6, nd, nm⟩
          have ll : (ys.map V.str).length = ys.length := List.length_map ..
          have ny : ∀ y ∈ ys, y.length ≤ 6 := fun y hy => by
            have := nm y hy
            unfold nameB at this
            rw [Bool.and_eq_true] at this
            exact (of_decide_eq_true this.2).2
          refine ⟨_, rfl, L, _, rfl, .inl (.inl (.inl hL)), _, _, rfl, rfl, _, rfl, ?_⟩
          rw [decide_eq_true (show (((ys.map V.str).length : Nat) : Int) ≤ 6 by rw [ll]; omega)]
          refine iteT ?_
          refine ⟨_, rfl, L, ys, rfl, .inl (.inl hL), by omega, _, rfl, L, _, rfl, .inl (.inl (.inl hL)), rfl, _, rfl, ?_⟩
          have ec : decide (V.int (cntS ys : Nat) = V.int ((ys.map V.str).length : Nat)) = true := decide_eq_true (by rw [ll, (cntS_full ys).mpr nd])
          rw [ec]
          refine iteT ?_
          refine ⟨_, rfl, L, rfl, ⟨_, .inl (.inl hL)⟩, fun D nD => ?_⟩
          refine lc_list (K := K) (a := L) (xs := ys.map V.str) (fun i H3 => Same H1 H3 ∧ H3 D = some (.lst [])) ⟨same_new nD, upd_same⟩ (fun i H3 _ h => .inl (.inl (h.1 _ _ hL))) ?_ ?_
          · rintro i y H3 hy ⟨sm, hD⟩
            rw [List.getElem?_map] at hy
            obtain ⟨x, hx, rfl⟩ : ∃ x, ys[i]? = some x ∧ V.str x = y := by
              cases e : ys[i]? with
              | none => rw [e] at hy; cases hy
              | some x => rw [e] at hy; exact ⟨x, rfl, Option.some.inj hy⟩
            have xm := List.mem_of_getElem? hx
            refine ⟨rfl, _, rfl, x, rfl, by have := ny x xm; omega, _, rfl, ?_⟩
            rw [nm x xm]
            exact iteF ⟨sm, hD⟩
          · rintro H3 ⟨sm, hD⟩
            refine ⟨Nat.zero_le _, fun m nm => ?_⟩
            have s4 := same_new (o := .lst []) nm
            refine ⟨_, _, .lst (.inl (.inl (s4 _ _ hD))) .nil, .lst (.inl (.inl upd_same)) .nil, by decide +kernel, by decide +kernel, ?_⟩
            rw [show PyData.eqv (.list []) (.list []) = true from by decide +kernel]
            exact q _ (s1.trans (sm.trans s4))
end
end K45

namespace K45
open PySem PySem.Spec PyProof.Rows L2 Pg
open SX (S)
def spOwn : Sp := fun vs H Q _ => ∃ t : Str, vs = [.str t] ∧ t.length ≤ 1000 ∧ ∀ H', Same H H' → Q (.bl true) H'
theorem Rec.nl (r : Rec) : noL r.d = true := by
  have ni : ∀ l : List Int, noLAll (l.map PyData.int) = true := fun l => by
    induction l with
    | nil => rfl
    | cons x r ih =>
      rw [List.map_cons, noLAll, ih]
      rfl
  cases r with
  | opt ns =>
    show (noL (.str "options") && (noL (.tuple ((ofN ns).map PyData.int)) && noLAll [])) = true
    rw [show noL (.tuple ((ofN ns).map PyData.int)) = noLAll ((ofN ns).map PyData.int) from by rw [noL], ni]
    rfl
  | ver ns =>
    show (noL (.str "version") && noLAll ((ofN ns).map PyData.int)) = true
    rw [ni]
    rfl
  | edt k e =>
    show (noL (.str "edit") && (noL (.int (k : Nat)) && (noL e.d && noLAll []))) = true
    rw [Ed.nl e]
    rfl
section
variable {P : Program} {w : World} {K : PySem.W.Frag} {mg : Str → Option Value} {base : Heap} {f : Addr} {fd : FuncData}
theorem ok_law_fair (F : Fun K "_law_fair" "_law_fair" s_law_fair f fd) (z : Z mg) (claw_fair_edit : Cal P w K mg base "_law_fair_edit" 2 ["edit"] (spFairE K)) : FnOk P w K mg base CX0 3 f fd ["record"] (spFairR K) := by
  refine F.ok sc_law_fair (fun vs H Q E h => ?_) (fun cdv A outer s H vs Q E hr h => ?_)
  · obtain ⟨v, r, rfl, _⟩ := h
    rfl
  · obtain ⟨v, r, rfl, d, ok, q⟩ := h
    refine ⟨_, (pss_cons (ps_if (pt_cmpR op_eq (pe_ix ix_tup (pv 0) pe_int (fun _ _ => rfl)) pe_str (nomark _))
        (pss_cons (ps_set (i := 1) sc_law_fair.nd rfl (Or.inr rfl) (pe_tup (pa_cons pe_int (pa_cons pe_int (pa_cons pe_int (pa_cons pe_int (pa_cons pe_int (pa_cons pe_int (pa_cons pe_int pa_nil)))))))))
        (pss_one (ps_ret (pe_cmpR (op_eqD hr.units) (pe_lc (own := [("k", 3)]) (g := (gName 3)) rfl sc_law_fair.nd (pi_range1 (by rfl) z.range (pa_cons pe_int pa_nil)) (blkOk_by (own := [("k", 3)]) (N := ["record", "most", "numbers", "k", "number"]) (sc := defScope s_law_fair) (by decide +kernel)) (fun _ _ _ _ _ => pg_name (i := 3) sc_law_fair.nd rfl (Or.inl rfl)) (fun _ _ _ _ _ => (pts_one (pt_not (pt_chain op_le op_le pe_int (pe_ix (ix_tupK (K := K) rfl) (pe_ix (ix_tupK (K := K) rfl) (pv 0) pe_int (fun _ _ => rfl)) (pv 3) (fun _ _ => rfl)) (pe_ix (ix_tupK (K := K) rfl) (pv 1) (pv 3) (fun _ _ => rfl)))))) (fun _ _ _ _ _ => (pv 3))) (pe_lst pa_nil) (nomark _)))))
        pss_nil)
      (pss_cons (ps_set (i := 2) sc_law_fair.nd rfl (Or.inl rfl) (pe_slice sl_tupA (pv 0) (po_some pe_int) po_none))
      (C8.pss_cut (ps_if (pt_cmpR op_eq (pe_ix ix_tup (pv 0) pe_int (fun _ _ => rfl)) pe_str (nomark _))
        (pss_one (ps_set (i := 2) sc_law_fair.nd rfl (Or.inl rfl) (pe_tup (pa_cons (pe_ix ix_tup (pv 0) pe_int (fun _ _ => rfl)) pa_nil))))
        pss_nil)
      (pss_one (ps_ret (pe_and (pe_cmpR (op_eqD hr.units) (pe_lc (own := [("number", 4)]) (g := (gName 4)) rfl sc_law_fair.nd (pi_tup (pv 2)) (blkOk_by (own := [("number", 4)]) (N := ["record", "most", "numbers", "k", "number"]) (sc := defScope s_law_fair) (by decide +kernel)) (fun _ _ _ _ _ => pg_name (i := 4) sc_law_fair.nd rfl (Or.inl rfl)) (fun _ _ _ _ _ => (pts_one (pt_not (pt_chain op_le op_le pe_int (pv 4) pe_int)))) (fun _ _ _ _ _ => (pv 4))) (pe_lst pa_nil) (nomark _)) (pe_one (pe_or (pe_cmpR op_ne (pe_ix ix_tup (pv 0) pe_int (fun _ _ => rfl)) pe_str (nomark _)) (pe_one (pe_cal claw_fair_edit (hr.mono (by decide)) (by rfl) (pa_cons (pe_ix ix_tup (pv 0) pe_int (fun _ _ => rfl)) pa_nil))))))))))), ?_⟩
    obtain ⟨a, rfl, at_⟩ := rec_at d
    cases r with
    | opt ns =>
      obtain ⟨t, sq, sp⟩ := at_
      obtain ⟨g1, g2⟩ := inB_iff.mp ok
      refine ⟨.ref a, rfl, a, _, _, .str "options", rfl, rfl, sq, atI_nat (j := 0) rfl, rfl, _, rfl, iteT ?_⟩
      refine ⟨by show 7 ≤ sizeLine; decide, fun m nm => ?_⟩
      have sm := same_new (o := .tup [V.int 3, .int 100, .int 4, .int 100, .int 400, .int 200, .int 2000]) nm
      have hm : SqT K (upd H m (.tup [V.int 3, .int 100, .int 4, .int 100, .int 400, .int 200, .int 2000])) m (mosts.map V.int) := .inl (.inl upd_same)
      generalize upd H m (.tup [V.int 3, .int 100, .int 4, .int 100, .int 400, .int 200, .int 2000]) = H2 at *
      refine ⟨7, rfl, by decide, by decide, fun D nD => ?_⟩
      refine lc_range (lo := 0) (n := 7) (fun j H' => Same H2 H' ∧ H' D = some (.lst [])) ⟨same_new nD, upd_same⟩ ?_ ?_
      · rintro j H' hj ⟨s9, hD⟩
        obtain ⟨o, ho⟩ : ∃ o, (ofN ns)[j]? = some o := ⟨_, List.getElem?_eq_getElem (by omega)⟩
        obtain ⟨M, hM⟩ : ∃ M, mosts[j]? = some M := ⟨_, List.getElem?_eq_getElem (show j < mosts.length from hj)⟩
        obtain ⟨b1, b2⟩ := g2 j o M ho hM
        have sq9 := Pg.same_seqT (sm.trans s9) sq
        have sp9 := Pg.same_seqT (sm.trans s9) sp
        refine ⟨rfl, .ref a, rfl, a, _, _, .ref t, rfl, rfl, sq9, atI_nat (j := 1) rfl, _, rfl, t, _, _, .int o, rfl, rfl, sp9, ?_⟩
        refine ⟨by rw [Int.zero_add]; exact atI_nat (by rw [List.getElem?_map, ho]; rfl), _, _, rfl, rfl, _, rfl, ?_⟩
        rw [decide_eq_true b1]
        refine iteT ⟨.ref m, rfl, _, rfl, m, _, _, .int M, rfl, rfl, Pg.same_seqT s9 hm, by rw [Int.zero_add]; exact atI_nat (by rw [List.getElem?_map, hM]; rfl), _, _, rfl, rfl, _, rfl, ?_⟩
        rw [decide_eq_true b2]
        exact iteF ⟨s9, hD⟩
      · rintro H3 ⟨s9, hD⟩
        refine ⟨Nat.zero_le _, fun m' nm' => ?_⟩
        have s4 := same_new (o := .lst []) nm'
        refine ⟨_, _, .lst (.inl (.inl (s4 _ _ hD))) .nil, .lst (.inl (.inl upd_same)) .nil, by decide +kernel, by decide +kernel, ?_⟩
        rw [show PyData.eqv (.list []) (.list []) = true from by decide +kernel]
        exact q _ (sm.trans (s9.trans s4))
    | ver ns =>
      have sq : SqT K H a (.str "version" :: (ofN ns).map V.int) := at_
      refine ⟨.ref a, rfl, a, _, _, .str "version", rfl, rfl, sq, atI_nat (j := 0) rfl, rfl, _, rfl, ite2 (fun e => absurd e (by decide +kernel)) (fun _ => ?_)⟩
      refine ⟨.ref a, rfl, 1, rfl, ?_⟩
      dsimp only [tNoPart]
      refine cut_tail sq fun t H1 s1 hp1 => ?_
      have bn := ok.2
      refine ⟨fun σ' H2 => ∃ tn : Addr, σ' = [some (.ref a), none, some (.ref tn), none, none] ∧ Same H H2 ∧ SqT K H2 tn ((ofN ns).map V.int), ?_, ?_⟩
      · exact ⟨.ref a, rfl, a, _, _, .str "version", rfl, rfl, Pg.same_seqT s1 sq, atI_nat (j := 0) rfl, rfl, _, rfl, ite2 (fun e => absurd e (by decide +kernel)) (fun _ => ⟨t, rfl, s1, hp1⟩)⟩
      · rintro σ' H2 ⟨tn, rfl, s2, hp⟩
        refine ⟨_, rfl, tn, rfl, ⟨_, hp⟩, fun D nD => ?_⟩
        refine lc_tup (K := K) (a := tn) (xs := (ofN ns).map V.int) (fun i H3 => Same H2 H3 ∧ H3 D = some (.lst [])) ⟨same_new nD, upd_same⟩ (fun i H3 _ h => Pg.same_seqT h.1 hp) ?_ ?_
        · rintro i y H3 hy ⟨sm, hD⟩
          unfold ofN at hy
          rw [List.getElem?_map, List.getElem?_map] at hy
          obtain ⟨x, hx, rfl⟩ : ∃ x, ns[i]? = some x ∧ V.int (x : Nat) = y := by
            cases e : ns[i]? with
            | none => rw [e] at hy; cases hy
            | some x => rw [e] at hy; exact ⟨x, rfl, Option.some.inj hy⟩
          have bx := bn x (List.mem_of_getElem? hx)
          refine ⟨rfl, _, rfl, _, _, rfl, rfl, _, rfl, ?_⟩
          rw [decide_eq_true (show (0 : Int) ≤ ((x : Nat) : Int) by omega)]
          refine iteT ⟨_, _, rfl, rfl, _, rfl, ?_⟩
          rw [decide_eq_true (show ((x : Nat) : Int) ≤ 9999999 by omega)]
          exact iteF ⟨sm, hD⟩
        · rintro H3 ⟨sm, hD⟩
          refine ⟨Nat.zero_le _, fun m nm => ?_⟩
          have s4 := same_new (o := .lst []) nm
          refine ⟨_, _, .lst (.inl (.inl (s4 _ _ hD))) .nil, .lst (.inl (.inl upd_same)) .nil, by decide +kernel, by decide +kernel, ?_⟩
          have s24 := s2.trans (sm.trans s4)
          rw [show PyData.eqv (.list []) (.list []) = true from by decide +kernel]
          refine ⟨_, rfl, iteT ?_⟩
          generalize upd H3 m (.lst []) = H4 at *
          first
            | exact ⟨.ref a, rfl, a, _, _, .str "version", rfl, rfl, Pg.same_seqT s24 sq, atI_nat (j := 0) rfl, rfl, _, rfl, ite2 (fun _ => q _ s24) (fun e => absurd (by decide +kernel) e)⟩
            | exact ⟨.ref a, rfl, a, _, _, .str "edit", rfl, rfl, Pg.same_seqT s24 sq, atI_nat (j := 0) rfl, rfl, _, rfl, ite2 (fun e => absurd e (by decide +kernel)) (fun _ => ⟨.ref a, rfl, a, _, _, ev, rfl, rfl, Pg.same_seqT s24 sq, atI_nat (j := 2) rfl, ev, e, rfl, Dp.keepT (Same.keepT s24) _ _ (Ed.nl e) de, ok.2, fun H5 s5 => q _ (s24.trans s5)⟩)⟩
    | edt k e =>
      obtain ⟨ev, sq, de⟩ := at_
      refine ⟨.ref a, rfl, a, _, _, .str "edit", rfl, rfl, sq, atI_nat (j := 0) rfl, rfl, _, rfl, ite2 (fun e => absurd e (by decide +kernel)) (fun _ => ?_)⟩
      refine ⟨.ref a, rfl, 1, rfl, ?_⟩
      dsimp only [tNoPart]
      refine cut_tail sq fun t H1 s1 hp1 => ?_
      have bn : ∀ n ∈ [k], n ≤ 9999999 := fun n hn => by rw [List.mem_singleton.mp hn]; exact ok.1
      obtain ⟨ns, ens⟩ : ∃ ns, ns = [k] := ⟨_, rfl⟩
      rw [← ens] at bn
      refine ⟨fun σ' H2 => ∃ tn : Addr, σ' = [some (.ref a), none, some (.ref tn), none, none] ∧ Same H H2 ∧ SqT K H2 tn ((ofN ns).map V.int), ?_, ?_⟩
      · refine ⟨.ref a, rfl, a, _, _, .str "edit", rfl, rfl, Pg.same_seqT s1 sq, atI_nat (j := 0) rfl, rfl, _, rfl, iteT ?_⟩
        refine ⟨.ref a, rfl, a, _, _, .int (k : Nat), rfl, rfl, Pg.same_seqT s1 sq, atI_nat (j := 1) rfl, by show 1 ≤ sizeLine; decide, fun tn ntn => ?_⟩
        exact ⟨tn, rfl, s1.trans (same_new ntn), .inl (.inl (by rw [ens]; exact upd_same))⟩
      · rintro σ' H2 ⟨tn, rfl, s2, hp⟩
        refine ⟨_, rfl, tn, rfl, ⟨_, hp⟩, fun D nD => ?_⟩
        refine lc_tup (K := K) (a := tn) (xs := (ofN ns).map V.int) (fun i H3 => Same H2 H3 ∧ H3 D = some (.lst [])) ⟨same_new nD, upd_same⟩ (fun i H3 _ h => Pg.same_seqT h.1 hp) ?_ ?_
        · rintro i y H3 hy ⟨sm, hD⟩
          unfold ofN at hy
          rw [List.getElem?_map, List.getElem?_map] at hy
          obtain ⟨x, hx, rfl⟩ : ∃ x, ns[i]? = some x ∧ V.int (x : Nat) = y := by
            cases e : ns[i]? with
            | none => rw [e] at hy; cases hy
            | some x => rw [e] at hy; exact ⟨x, rfl, Option.some.inj hy⟩
          have bx := bn x (List.mem_of_getElem? hx)
          refine ⟨rfl, _, rfl, _, _, rfl, rfl, _, rfl, ?_⟩
          rw [decide_eq_true (show (0 : Int) ≤ ((x : Nat) : Int) by omega)]
          refine iteT ⟨_, _, rfl, rfl, _, rfl, ?_⟩
          rw [decide_eq_true (show ((x : Nat) : Int) ≤ 9999999 by omega)]
          exact iteF ⟨sm, hD⟩
        · rintro H3 ⟨sm, hD⟩
          refine ⟨Nat.zero_le _, fun m nm => ?_⟩
          have s4 := same_new (o := .lst []) nm
          refine ⟨_, _, .lst (.inl (.inl (s4 _ _ hD))) .nil, .lst (.inl (.inl upd_same)) .nil, by decide +kernel, by decide +kernel, ?_⟩
          have s24 := s2.trans (sm.trans s4)
          rw [show PyData.eqv (.list []) (.list []) = true from by decide +kernel]
          refine ⟨_, rfl, iteT ?_⟩
          generalize upd H3 m (.lst []) = H4 at *
          first
            | exact ⟨.ref a, rfl, a, _, _, .str "version", rfl, rfl, Pg.same_seqT s24 sq, atI_nat (j := 0) rfl, rfl, _, rfl, ite2 (fun _ => q _ s24) (fun e => absurd (by decide +kernel) e)⟩
            | exact ⟨.ref a, rfl, a, _, _, .str "edit", rfl, rfl, Pg.same_seqT s24 sq, atI_nat (j := 0) rfl, rfl, _, rfl, ite2 (fun e => absurd e (by decide +kernel)) (fun _ => ⟨.ref a, rfl, a, _, _, ev, rfl, rfl, Pg.same_seqT s24 sq, atI_nat (j := 2) rfl, ev, e, rfl, Dp.keepT (Same.keepT s24) _ _ (Ed.nl e) de, ok.2, fun H5 s5 => q _ (s24.trans s5)⟩)⟩
theorem ok_law_own_record (F : Fun K "_law_own_record" "_law_own_record" s_law_own_record f fd) (z : Z mg) (cread_record : Cal P w K mg base "read_record" 6 ["text"] (spRRec K)) (claw_record_text : Cal P w K mg base "_law_record_text" 2 ["record"] (spWRec K)) (claw_fair : Cal P w K mg base "_law_fair" 3 ["record"] (spFairR K)) : FnOk P w K mg base CX0 7 f fd ["text"] spOwn := by
  refine F.ok sc_law_own_record (fun vs H Q E h => ?_) (fun cdv A outer s H vs Q E hr h => ?_)
  · obtain ⟨v, rfl, _⟩ := h
    rfl
  · obtain ⟨t, rfl, few, q⟩ := h
    refine ⟨_, (pss_cons (ps_set (i := 1) sc_law_own_record.nd rfl (Or.inl rfl) (pe_cal cread_record (hr.mono (by decide)) (by rfl) (pa_cons (pv 0) pa_nil)))
      (pss_one (ps_ret (pe_or (pe_cmpR op_isN (pv 1) pe_non (nomark _)) (pe_one (pe_and (pe_cmpR op_eq (pe_cal claw_record_text (hr.mono (by decide)) (by rfl) (pa_cons (pv 1) pa_nil)) (pv 0) (nomark _)) (pe_one (pe_cal claw_fair (hr.mono (by decide)) (by rfl) (pa_cons (pv 1) pa_nil))))))))), ?_⟩
    refine ⟨_, rfl, t.cps.toList, by rw [SX.S_tl]; rfl, by rw [← len_codes]; exact few, fun H1 v r s1 ok et d => ?_, fun no H1 s1 => ?_⟩
    · obtain ⟨a, rfl, at_⟩ := rec_at d
      refine ⟨_, rfl, rfl, _, rfl, iteF ?_⟩
      refine ⟨_, rfl, _, r, rfl, d, ok, fun H2 s2 => ⟨_, rfl, rfl, _, rfl, ?_⟩⟩
      have e1 : decide (V.str (S r.txt) = V.str t) = true := decide_eq_true (by rw [et, SX.S_tl])
      rw [e1]
      exact iteT ⟨_, rfl, _, r, rfl, Dp.keepT (Same.keepT s2) _ _ (Rec.nl r) d, ok, fun H3 s3 => q _ (s1.trans (s2.trans s3))⟩
    · exact ⟨_, rfl, rfl, _, rfl, iteT (q _ s1)⟩
theorem ok_law_own_edit (F : Fun K "_law_own_edit" "_law_own_edit" s_law_own_edit f fd) (z : Z mg) (cread_edit : Cal P w K mg base "read_edit" 4 ["text"] (spREdit K)) (claw_written : Cal P w K mg base "_law_written" 1 ["edit"] (spWEdit K)) (claw_fair_edit : Cal P w K mg base "_law_fair_edit" 2 ["edit"] (spFairE K)) : FnOk P w K mg base CX0 5 f fd ["text"] spOwn := by
  refine F.ok sc_law_own_edit (fun vs H Q E h => ?_) (fun cdv A outer s H vs Q E hr h => ?_)
  · obtain ⟨v, rfl, _⟩ := h
    rfl
  · obtain ⟨t, rfl, few, q⟩ := h
    refine ⟨_, (pss_cons (ps_set (i := 1) sc_law_own_edit.nd rfl (Or.inl rfl) (pe_cal cread_edit (hr.mono (by decide)) (by rfl) (pa_cons (pv 0) pa_nil)))
      (pss_one (ps_ret (pe_or (pe_cmpR op_isN (pv 1) pe_non (nomark _)) (pe_one (pe_and (pe_cmpR op_eq (pe_cal claw_written (hr.mono (by decide)) (by rfl) (pa_cons (pv 1) pa_nil)) (pv 0) (nomark _)) (pe_one (pe_cal claw_fair_edit (hr.mono (by decide)) (by rfl) (pa_cons (pv 1) pa_nil))))))))), ?_⟩
    refine ⟨_, rfl, t.cps.toList, by rw [SX.S_tl]; rfl, by rw [← len_codes]; exact few, fun H1 v e s1 ok et d => ?_, fun no H1 s1 => ?_⟩
    · obtain ⟨a, rfl, at_⟩ := ed_at d
      refine ⟨_, rfl, rfl, _, rfl, iteF ?_⟩
      refine ⟨_, rfl, _, e, rfl, d, ok, fun H2 s2 => ⟨_, rfl, rfl, _, rfl, ?_⟩⟩
      have e1 : decide (V.str (S e.txt) = V.str t) = true := decide_eq_true (by rw [et, SX.S_tl])
      rw [e1]
      exact iteT ⟨_, rfl, _, e, rfl, Dp.keepT (Same.keepT s2) _ _ (Ed.nl e) d, ok, fun H3 s3 => q _ (s1.trans (s2.trans s3))⟩
    · exact ⟨_, rfl, rfl, _, rfl, iteT (q _ s1)⟩
end
end K45

namespace K45
open PySem PySem.Spec PyProof.Rows L2 Pg
open SX (S)
def spLaw (K : PySem.W.Frag) : Sp := fun vs H Q _ => ∃ (a : Addr) (ns : List Int), vs = [.ref a] ∧ SqL K H a (ns.map V.int) ∧ ns.length ≤ 63 ∧ ∀ H', Q (.bl true) H'
theorem pdS {z : List Nat} {M : Nat} (h : ∀ c ∈ z, c < 1114112) (l : z.length ≤ M) : Pd 0 M (.str (S z)) := Pd.str h (by rw [SX.S_len]; exact l)
theorem pdl {z : Str} (h : z.cps.toList.all (fun c => decide (c < 1114112)) = true) (l : z.length ≤ 10) : Pd 0 10 (.str z) := Pd.str (fun c hc => of_decide_eq_true (List.all_eq_true.mp h c hc)) l
theorem name_pd {n : List Nat} (h : nameC n = true) : Pd 0 6 (.str (S n)) := pdS (fun c hc => by have := ((name_codes h).1 c hc).2; omega) (name_codes h).2.2
theorem ed_pd {e : Ed} (ok : e.ok) : Pd 3 200 e.d := by
  cases e with
  | set n t =>
    have := text_codes ok.2
    exact ((PdA.cons (pdl (by decide +kernel) (by decide)) (PdA.cons (name_pd ok.1) (PdA.cons (pdS (M := 60) (fun c hc => by have := (this.2 c hc).2.1; omega) this.1) PdA.nil))).tup).mono (by decide) (by decide)
  | rem n => exact ((PdA.cons (pdl (by decide +kernel) (by decide)) (PdA.cons (name_pd ok) PdA.nil)).tup).mono (by decide) (by decide)
  | pgs ps =>
    obtain ⟨h1, h2, h3⟩ := pages_parts ok
    have pa : PdA 0 (6 * (6 + 1)) ((ps.map S).map PyData.str) := PdA.all (fun d hd => by
      obtain ⟨y, hy, rfl⟩ := List.mem_map.mp hd
      obtain ⟨p, hp, rfl⟩ := List.mem_map.mp hy
      exact name_pd (h3 p hp)) (by rw [List.length_map, List.length_map]; exact h1)
    exact ((PdA.cons ((pdl (by decide +kernel) (by decide)).mono (Nat.zero_le 1) (Nat.le_refl _)) (PdA.cons pa.tup PdA.nil)).tup).mono (by decide) (by decide)
theorem rec_pd {r : Rec} (ok : r.ok) : Pd 5 500 r.d := by
  have ni : ∀ {ns : List Nat}, (∀ n ∈ ns, n ≤ 9999999) → ns.length ≤ 10 → PdA 0 (10 * (0 + 1)) ((ofN ns).map PyData.int) := fun {ns} h l => PdA.all (fun d hd => by
    obtain ⟨y, hy, rfl⟩ := List.mem_map.mp hd
    obtain ⟨n, hn, rfl⟩ := List.mem_map.mp hy
    have := h n hn
    exact Pd.int (by omega) (by omega)) (by unfold ofN; rw [List.length_map, List.length_map]; exact l)
  cases r with
  | opt ns =>
    obtain ⟨h1, h2⟩ := opt_parts ok
    exact ((PdA.cons ((pdl (by decide +kernel) (by decide)).mono (Nat.zero_le 1) (Nat.le_refl _)) (PdA.cons (ni (fun n hn => by have := h2 n hn; omega) (by omega)).tup PdA.nil)).tup).mono (by decide) (by decide)
  | ver ns =>
    obtain ⟨h1, h2⟩ := ok
    exact ((PdA.cons (pdl (by decide +kernel) (by decide)) (ni h2 (by omega))).tup).mono (by decide) (by decide)
  | edt k e =>
    have := ok.1
    exact ((PdA.cons ((pdl (by decide +kernel) (by decide)).mono (Nat.zero_le 3) (Nat.le_refl _)) (PdA.cons ((Pd.int (by omega) (by omega)).mono (Nat.zero_le 3) (Nat.le_refl _)) (PdA.cons (ed_pd ok.2) PdA.nil))).tup).mono (by decide) (by decide)
theorem Shows.ofP {D M : Nat} {d : PyData} (s : Pd D M d) (h1 : D ≤ 40 := by decide) (h2 : M ≤ 2 ^ 20 := by decide) : Shows d := ⟨s.sz.ok, s.sz.nd, Nat.le_trans s.sz.dep h1, s.sz.fits h2⟩
theorem rec_pos (r : Rec) : 1 ≤ r.txt.length := by
  cases r with
  | opt ns =>
    show 1 ≤ (TL.joinL [32] (kOpt :: ns.map TL.numL)).length
    cases ns with
    | nil => decide
    | cons n r => rw [List.map_cons, joinL_cons (by simp), List.length_append]; show 1 ≤ 7 + _; omega
  | ver ns =>
    show 1 ≤ (TL.joinL [32] (kVer :: ns.map TL.numL)).length
    cases ns with
    | nil => decide
    | cons n r => rw [List.map_cons, joinL_cons (by simp), List.length_append]; show 1 ≤ 7 + _; omega
  | edt k e =>
    show 1 ≤ (kEdt ++ 32 :: (TL.numL k ++ 32 :: e.txt)).length
    rw [List.length_append]; show 1 ≤ 4 + _; omega
section
variable {P : Program} {w : World} {K : PySem.W.Frag} {mg : Str → Option Value} {base : Heap} {f : Addr} {fd : FuncData}
theorem ok_law (F : Fun K "law" "law" s_law f fd) (z : Z mg) (cwrite_edit : Cal P w K mg base "write_edit" 1 ["edit"] (spWEdit K)) (cwrite_record : Cal P w K mg base "write_record" 2 ["record"] (spWRec K)) (cread_edit : Cal P w K mg base "read_edit" 4 ["text"] (spREdit K)) (cread_record : Cal P w K mg base "read_record" 6 ["text"] (spRRec K))
    (claw_digits : Cal P w K mg base "_law_digits" 2 ["script", "first", "last"] (spDigits K)) (claw_alike : CalG P w K mg base "_law_alike" 1 ["one", "two"] (spAlike K)) (claw_written : Cal P w K mg base "_law_written" 1 ["edit"] (spWEdit K)) (claw_record_text : Cal P w K mg base "_law_record_text" 2 ["record"] (spWRec K))
    (claw_record : Cal P w K mg base "_law_record" 5 ["box"] (spLRec K)) (claw_spoilt : Cal P w K mg base "_law_spoilt" 2 ["box", "text"] spSpoilt) (claw_own_record : Cal P w K mg base "_law_own_record" 7 ["text"] spOwn) (claw_own_edit : Cal P w K mg base "_law_own_edit" 5 ["text"] spOwn) : FnG P w K mg base 8 f fd ["script"] (spLaw K) := by
  refine FnG.mk' F sc_law (fun vs H Q E h => ?_) (fun cdv A outer s H vs Q gd hr h => ?_)
  · obtain ⟨a, ns, rfl, _⟩ := h
    rfl
  · obtain ⟨a, ns, rfl, hs, few, q⟩ := h
    refine ⟨_, (pss_cons (ps_set (i := 1) sc_law.nd rfl (Or.inl rfl) (pe_lst (pa_cons (pe_cal claw_digits (hr.mono (by decide)) (by rfl) (pa_cons (pv 0) (pa_cons pe_int (pa_cons pe_int pa_nil)))) (pa_cons pe_int pa_nil))))
      (pss_cons (ps_for PassesOwn.never rfl (pi_range1 (by rfl) z.range (pa_cons pe_int pa_nil)) (pg_name (i := 2) sc_law.nd rfl (Or.inl rfl))
        (pss_cons (ps_set (i := 3) sc_law.nd rfl (Or.inl rfl) (pe_cal claw_record (hr.mono (by decide)) (by rfl) (pa_cons (pv 1) pa_nil)))
        (pss_cons (ps_set (i := 4) sc_law.nd rfl (Or.inl rfl) (pe_cal claw_record_text (hr.mono (by decide)) (by rfl) (pa_cons (pv 3) pa_nil)))
        (C8.pss_cut (ps_if (PW.pt (pw_or (pt_cmpR op_ne (pe_cal cwrite_record (hr.mono (by decide)) (by rfl) (pa_cons (pv 3) pa_nil)) (pv 4) (nomark _)) (pw_or1 (pt_not (pt_val (pe_calG claw_alike gd (hr.mono (by decide)) (by rfl) (pa_cons (pe_cal cread_record (hr.mono (by decide)) (by rfl) (pa_cons (pv 4) pa_nil)) (pa_cons (pv 3) pa_nil))))))))
          (pss_one (ps_ret pe_bl))
          pss_nil)
        (pss_cons (ps_set (i := 5) sc_law.nd rfl (Or.inl rfl) (pe_cal claw_spoilt (hr.mono (by decide)) (by rfl) (pa_cons (pv 1) (pa_cons (pv 4) pa_nil))))
        (C8.pss_cut (ps_if (PW.pt (pw_or (pt_not (pt_val (pe_cal claw_own_record (hr.mono (by decide)) (by rfl) (pa_cons (pv 5) pa_nil)))) (pw_or1 (pt_not (pt_val (pe_cal claw_own_edit (hr.mono (by decide)) (by rfl) (pa_cons (pv 5) pa_nil)))))))
          (pss_one (ps_ret pe_bl))
          pss_nil)
        (C8.pss_cut (ps_if (PW.pt (pw_or (pt_cmpR op_notN (pe_cal cread_record (hr.mono (by decide)) (by rfl) (pa_cons (pe_op op_add_str (pv 4) pe_str) pa_nil)) pe_non (nomark _)) (pw_or1 (pt_cmpR op_notN (pe_cal cread_record (hr.mono (by decide)) (by rfl) (pa_cons (pe_op op_add_str pe_str (pv 4)) pa_nil)) pe_non (nomark _)))))
          (pss_one (ps_ret pe_bl))
          pss_nil)
        (pss_one (ps_if (pt_cmpR op_eq (pe_ix ix_tup (pv 3) pe_int (fun _ _ => rfl)) pe_str (nomark _))
          (pss_cons (ps_set (i := 6) sc_law.nd rfl (Or.inl rfl) (pe_cal claw_written (hr.mono (by decide)) (by rfl) (pa_cons (pe_ix ix_tup (pv 3) pe_int (fun _ _ => rfl)) pa_nil)))
          (pss_cons (ps_if (PW.pt (pw_or (pt_cmpR op_ne (pe_cal cwrite_edit (hr.mono (by decide)) (by rfl) (pa_cons (pe_ix ix_tup (pv 3) pe_int (fun _ _ => rfl)) pa_nil)) (pv 6) (nomark _)) (pw_or1 (pt_not (pt_val (pe_calG claw_alike gd (hr.mono (by decide)) (by rfl) (pa_cons (pe_cal cread_edit (hr.mono (by decide)) (by rfl) (pa_cons (pv 6) pa_nil)) (pa_cons (pe_ix ix_tup (pv 3) pe_int (fun _ _ => rfl)) pa_nil))))))))
            (pss_one (ps_ret pe_bl))
            pss_nil)
          (pss_cons (ps_set (i := 5) sc_law.nd rfl (Or.inl rfl) (pe_cal claw_spoilt (hr.mono (by decide)) (by rfl) (pa_cons (pv 1) (pa_cons (pv 6) pa_nil))))
          (pss_one (ps_if (pt_not (pt_val (pe_cal claw_own_edit (hr.mono (by decide)) (by rfl) (pa_cons (pv 5) pa_nil))))
            (pss_one (ps_ret pe_bl))
            pss_nil)))))
          pss_nil)))))))))
      (pss_one (ps_ret pe_bl)))), ?_⟩
    refine ⟨.ref a, rfl, a, ns, 0, 63, rfl, hs, by decide, by decide, fun H1 pd ds sm np hp fewd => ?_⟩
    refine ⟨by show 2 ≤ sizeLine; decide, fun b nb => ?_⟩
    have npb : pd ≠ b := ne_of_none hp nb
    have box0 : Box (upd H1 b (.lst [.ref pd, .int 0])) b := ⟨pd, ds, 0, upd_same, by rw [upd_ne npb]; exact hp, npb, fewd⟩
    refine ⟨9, rfl, by decide, by decide, ?_⟩
    refine for_range (lo := 0) (n := 9) (fun j σ H' => ∃ y2 y3 y4 y5 y6 : Option V, σ = [some (.ref a), some (.ref b), y2, y3, y4, y5, y6] ∧ Box H' b) ⟨_, _, _, _, _, rfl, box0⟩ ?_ ?_
    · rintro j σ H2 hj ⟨y2, y3, y4, y5, y6, rfl, bx⟩
      refine ⟨.ref b, rfl, b, rfl, bx, fun H3 v r d3 ok dv => ?_⟩
      refine ⟨_, rfl, v, r, rfl, dv, ok, fun H4 s4 => ?_⟩
      have bx4 := d3.box.same s4
      have pd := rec_pd ok
      have dv4 := pd.keep (Same.keepT s4) dv
      have len := rec_len ok
      have pos := rec_pos r
      have ls := SX.S_len r.txt
      clear dv bx d3 s4
      -- written and read again
      refine ⟨fun σ' H' => σ' = [some (.ref a), some (.ref b), some (.int (0 + (j : Nat))), some v, some (.str (S r.txt)), y5, y6] ∧ Box H' b ∧ Dp K H' v r.d, ?_, ?_⟩
      · refine ⟨_, rfl, v, r, rfl, dv4, ok, fun H5 s5 => ⟨_, rfl, rfl, _, rfl, ?_⟩⟩
        rw [decide_eq_true (rfl : V.str (S r.txt) = V.str (S r.txt))]
        refine iteF ?_
        refine ⟨_, rfl, r.txt, rfl, by omega, fun H6 v' r' s6 ok' et d' => ?_, fun no => absurd rfl (no r ok)⟩
        obtain rfl := Rec.inj ok' ok et
        have s46 := s5.trans s6
        have dv6 := pd.keep (Same.keepT s46) dv4
        exact ⟨_, rfl, _, _, _, _, rfl, d', dv6, Shows.ofP pd, Shows.ofP pd, true, by rw [decide_eq_true rfl], iteF ⟨rfl, bx4.same s46, dv6⟩⟩
      · rintro σ' H5 ⟨rfl, bx5, dv5⟩
        refine ⟨.ref b, rfl, _, rfl, b, _, rfl, bx5, by omega, by omega, fun H6 y d6 ly => ?_⟩
        have dv6 := pd.keep (drew_kt d6 bx5) dv5
        have bx6 := d6.box
        refine ⟨fun σ' H' => σ' = [some (.ref a), some (.ref b), some (.int (0 + (j : Nat))), some v, some (.str (S r.txt)), some (.str y), y6] ∧ Same H6 H', ?_, ?_⟩
        · exact ⟨_, rfl, y, rfl, by omega, fun H7 s7 => ⟨_, rfl, iteF ⟨_, rfl, y, rfl, by omega, fun H8 s8 => ⟨_, rfl, iteF ⟨rfl, s7.trans s8⟩⟩⟩⟩⟩
        · rintro σ' H7 ⟨rfl, s7⟩
          refine ⟨fun σ' H' => σ' = [some (.ref a), some (.ref b), some (.int (0 + (j : Nat))), some v, some (.str (S r.txt)), some (.str y), y6] ∧ Same H7 H', ?_, ?_⟩
          · have c1 : (" " : Str).length = 1 := by decide
            refine ⟨_, rfl, _, _, rfl, rfl, sizeLine_big (by omega), r.txt ++ [32], by rw [sp_S, SX.S_cat]; rfl, by rw [List.length_append]; show _ + 1 ≤ 1000; omega, fun H8 v' r' s8 ok' et d' => absurd et (Rec.no_behind ok'), fun no H8 s8 => ?_⟩
            refine ⟨rfl, _, rfl, iteF ?_⟩
            refine ⟨_, rfl, _, _, rfl, rfl, sizeLine_big (by omega), 32 :: r.txt, by rw [sp_S, SX.S_cat]; rfl, by rw [List.length_cons]; omega, fun H9 v' r' s9 ok' et d' => absurd et Rec.no_ahead, fun no H9 s9 => ?_⟩
            exact ⟨rfl, _, rfl, iteF ⟨rfl, s8.trans s9⟩⟩
          · rintro σ' H8 ⟨rfl, s8⟩
            have s68 := s7.trans s8
            have bx8 := bx6.same s68
            have dv8 := pd.keep (Same.keepT s68) dv6
            obtain ⟨va, rfl, at_⟩ := rec_at dv8
            cases r with
            | opt ns =>
              obtain ⟨t, sq, sp⟩ := at_
              exact ⟨.ref va, rfl, va, _, _, .str "options", rfl, rfl, sq, atI_nat (j := 0) rfl, rfl, _, rfl, ite2 (fun e => absurd e (by decide +kernel)) (fun _ => ⟨_, _, _, _, _, rfl, bx8⟩)⟩
            | ver ns =>
              have sq : SqT K H8 va (.str "version" :: (ofN ns).map V.int) := at_
              exact ⟨.ref va, rfl, va, _, _, .str "version", rfl, rfl, sq, atI_nat (j := 0) rfl, rfl, _, rfl, ite2 (fun e => absurd e (by decide +kernel)) (fun _ => ⟨_, _, _, _, _, rfl, bx8⟩)⟩
            | edt k e =>
              obtain ⟨ev, sq, de⟩ := at_
              have oke := ok.2
              have pe := ed_pd oke
              have le := ed_len oke
              have lse := SX.S_len e.txt
              have pose : 1 ≤ e.txt.length := List.length_pos_iff.mpr Ed.ne
              refine ⟨.ref va, rfl, va, _, _, .str "edit", rfl, rfl, sq, atI_nat (j := 0) rfl, rfl, _, rfl, iteT ?_⟩
              refine ⟨.ref va, rfl, va, _, _, ev, rfl, rfl, sq, atI_nat (j := 2) rfl, ev, e, rfl, de, oke, fun H9 s9 => ?_⟩
              have sq9 := Pg.same_seqT s9 sq
              have de9 := pe.keep (Same.keepT s9) de
              refine ⟨.ref va, rfl, va, _, _, ev, rfl, rfl, sq9, atI_nat (j := 2) rfl, ev, e, rfl, de9, oke, fun H10 s10 => ⟨_, rfl, rfl, _, rfl, ?_⟩⟩
              rw [decide_eq_true (rfl : V.str (S e.txt) = V.str (S e.txt))]
              refine iteF ?_
              refine ⟨_, rfl, e.txt, rfl, by omega, fun H11 v' e' s11 ok' et d' => ?_, fun no => absurd rfl (no e oke)⟩
              obtain rfl := Ed.inj ok' oke et
              have s911 := s10.trans s11
              have sq11 := Pg.same_seqT s911 sq9
              have de11 := pe.keep (Same.keepT s911) de9
              refine ⟨.ref va, rfl, va, _, _, ev, rfl, rfl, sq11, atI_nat (j := 2) rfl, _, _, _, _, rfl, d', de11, Shows.ofP pe, Shows.ofP pe, true, by rw [decide_eq_true rfl], iteF ?_⟩
              have bx11 := bx8.same (s9.trans s911)
              refine ⟨.ref b, rfl, _, rfl, b, _, rfl, bx11, by omega, by omega, fun H12 y2 d12 ly2 => ?_⟩
              exact ⟨_, rfl, y2, rfl, by omega, fun H13 s13 => ⟨_, rfl, iteF ⟨_, _, _, _, _, rfl, d12.box.same s13⟩⟩⟩
    · rintro σ H2 ⟨y2, y3, y4, y5, y6, rfl, bx⟩
      exact q H2
end
end K45

namespace K45
open PySem PySem.Spec PyProof.Rows L2 Pg
/-! what the top has written -/
theorem all_mk {l : PySem.W.OpenLaw} {w : World} {K : PySem.W.Frag} {h : Heap} {mg : Str → Option Value} {fa f0 f1 f2 f3 f4 f5 f6 f7 f8 f9 f10 f11 f12 f13 f14 f15 f16 f17 f18 f19 f20 f21 f22 f23 f24 f25 f26 f27 f28 f29 f30 f31  : Addr} (X : K.In h) (G : h.Ns mainGlobals mg) (hfa : mg "law" = some (.ref fa))
    {od0 an0 od1 an1 od2 an2 od3 an3 od4 an4 od5 an5 od6 an6 od7 an7 od8 an8 od9 an9 od10 an10 od11 an11 od12 an12 od13 an13 od14 an14 od15 an15 od16 an16 od17 an17 od18 an18 od19 an19 od20 an20 od21 an21 od22 an22 od23 an23 od24 an24 od25 an25 od26 an26 od27 an27 od28 an28 od29 an29 od30 an30 od31 an31 : Option Addr} {sl0 sl1 sl2 sl3 sl4 sl5 sl6 sl7 sl8 sl9 sl10 sl11 sl12 sl13 sl14 sl15 sl16 sl17 sl18 sl19 sl20 sl21 sl22 sl23 sl24 sl25 sl26 sl27 sl28 sl29 sl30 sl31 : Array (Option Value)} {oc0 kV0 dc0 pm0 cd0 ct0 oc1 kV1 dc1 pm1 cd1 ct1 oc2 kV2 dc2 pm2 cd2 ct2 oc3 kV3 dc3 pm3 cd3 ct3 oc4 kV4 dc4 pm4 cd4 ct4 oc5 kV5 dc5 pm5 cd5 ct5 oc6 kV6 dc6 pm6 cd6 ct6 oc7 kV7 dc7 pm7 cd7 ct7 oc8 kV8 dc8 pm8 cd8 ct8 oc9 kV9 dc9 pm9 cd9 ct9 oc10 kV10 dc10 pm10 cd10 ct10 oc11 kV11 dc11 pm11 cd11 ct11 oc12 kV12 dc12 pm12 cd12 ct12 oc13 kV13 dc13 pm13 cd13 ct13 oc14 kV14 dc14 pm14 cd14 ct14 oc15 kV15 dc15 pm15 cd15 ct15 oc16 kV16 dc16 pm16 cd16 ct16 oc17 kV17 dc17 pm17 cd17 ct17 oc18 kV18 dc18 pm18 cd18 ct18 oc19 kV19 dc19 pm19 cd19 ct19 oc20 kV20 dc20 pm20 cd20 ct20 oc21 kV21 dc21 pm21 cd21 ct21 oc22 kV22 dc22 pm22 cd22 ct22 oc23 kV23 dc23 pm23 cd23 ct23 oc24 kV24 dc24 pm24 cd24 ct24 oc25 kV25 dc25 pm25 cd25 ct25 oc26 kV26 dc26 pm26 cd26 ct26 oc27 kV27 dc27 pm27 cd27 ct27 oc28 kV28 dc28 pm28 cd28 ct28 oc29 kV29 dc29 pm29 cd29 ct29 oc30 kV30 dc30 pm30 cd30 ct30 oc31 kV31 dc31 pm31 cd31 ct31 : Value} {t0 t1 t2 t3 t4 : Tok} {u0 : Tok}
    {bA bp0 bp1 bp2 bp3 bp4 bp5 bp6 : Addr} {bI bi0 bi1 bi2 bi3 bi4 bi5 bi6 : Array Value} {bM bm0 bm1 bm2 bm3 bm4 bm5 bm6 : Nat} {bD bd0 bd1 bd2 bd3 bd4 bd5 bd6 : Option Addr} {bL bl0 bl1 bl2 bl3 bl4 bl5 bl6 : Array (Option Value)}
    (a0 : PySem.W.nsIn K mainGlobals "is_name" = some (some (.ref f0))) (l0 : K.lookup f0 = some ⟨oc0, od0, .func (PySem.W.fnOf "is_name" "is_name" (defArgs s_is_name) (defBody s_is_name) (defScope s_is_name) .none kV0 dc0 pm0 an0 cd0 ct0), sl0⟩)
      (c0 : PySem.W.codeIn K cd0 "is_name" = true) (k0 : PySem.W.keepIn K (.ref f0) = true)
    (a1 : PySem.W.nsIn K mainGlobals "_is_of_text" = some (some (.ref f1))) (l1 : K.lookup f1 = some ⟨oc1, od1, .func (PySem.W.fnOf "_is_of_text" "_is_of_text" (defArgs s_is_of_text) (defBody s_is_of_text) (defScope s_is_of_text) .none kV1 dc1 pm1 an1 cd1 ct1), sl1⟩)
      (c1 : PySem.W.codeIn K cd1 "_is_of_text" = true) (k1 : PySem.W.keepIn K (.ref f1) = true)
    (a2 : PySem.W.nsIn K mainGlobals "is_text" = some (some (.ref f2))) (l2 : K.lookup f2 = some ⟨oc2, od2, .func (PySem.W.fnOf "is_text" "is_text" (defArgs s_is_text) (defBody s_is_text) (defScope s_is_text) .none kV2 dc2 pm2 an2 cd2 ct2), sl2⟩)
      (c2 : PySem.W.codeIn K cd2 "is_text" = true) (k2 : PySem.W.keepIn K (.ref f2) = true)
    (a3 : PySem.W.nsIn K mainGlobals "are_pages" = some (some (.ref f3))) (l3 : K.lookup f3 = some ⟨oc3, od3, .func (PySem.W.fnOf "are_pages" "are_pages" (defArgs s_are_pages) (defBody s_are_pages) (defScope s_are_pages) .none kV3 dc3 pm3 an3 cd3 ct3), sl3⟩)
      (c3 : PySem.W.codeIn K cd3 "are_pages" = true) (k3 : PySem.W.keepIn K (.ref f3) = true)
    (a4 : PySem.W.nsIn K mainGlobals "are_options" = some (some (.ref f4))) (l4 : K.lookup f4 = some ⟨oc4, od4, .func (PySem.W.fnOf "are_options" "are_options" (defArgs s_are_options) (defBody s_are_options) (defScope s_are_options) .none kV4 dc4 pm4 an4 cd4 ct4), sl4⟩)
      (c4 : PySem.W.codeIn K cd4 "are_options" = true) (k4 : PySem.W.keepIn K (.ref f4) = true)
    (a5 : PySem.W.nsIn K mainGlobals "write_edit" = some (some (.ref f5))) (l5 : K.lookup f5 = some ⟨oc5, od5, .func (PySem.W.fnOf "write_edit" "write_edit" (defArgs s_write_edit) (defBody s_write_edit) (defScope s_write_edit) .none kV5 dc5 pm5 an5 cd5 ct5), sl5⟩)
      (c5 : PySem.W.codeIn K cd5 "write_edit" = true) (k5 : PySem.W.keepIn K (.ref f5) = true)
    (a6 : PySem.W.nsIn K mainGlobals "write_record" = some (some (.ref f6))) (l6 : K.lookup f6 = some ⟨oc6, od6, .func (PySem.W.fnOf "write_record" "write_record" (defArgs s_write_record) (defBody s_write_record) (defScope s_write_record) .none kV6 dc6 pm6 an6 cd6 ct6), sl6⟩)
      (c6 : PySem.W.codeIn K cd6 "write_record" = true) (k6 : PySem.W.keepIn K (.ref f6) = true)
    (a7 : PySem.W.nsIn K mainGlobals "_is_number" = some (some (.ref f7))) (l7 : K.lookup f7 = some ⟨oc7, od7, .func (PySem.W.fnOf "_is_number" "_is_number" (defArgs s_is_number) (defBody s_is_number) (defScope s_is_number) .none kV7 dc7 pm7 an7 cd7 ct7), sl7⟩)
      (c7 : PySem.W.codeIn K cd7 "_is_number" = true) (k7 : PySem.W.keepIn K (.ref f7) = true)
    (a8 : PySem.W.nsIn K mainGlobals "_read_numbers" = some (some (.ref f8))) (l8 : K.lookup f8 = some ⟨oc8, od8, .func (PySem.W.fnOf "_read_numbers" "_read_numbers" (defArgs s_read_numbers) (defBody s_read_numbers) (defScope s_read_numbers) .none kV8 dc8 pm8 an8 cd8 ct8), sl8⟩)
      (c8 : PySem.W.codeIn K cd8 "_read_numbers" = true) (k8 : PySem.W.keepIn K (.ref f8) = true)
    (a9 : PySem.W.nsIn K mainGlobals "_read_set" = some (some (.ref f9))) (l9 : K.lookup f9 = some ⟨oc9, od9, .func (PySem.W.fnOf "_read_set" "_read_set" (defArgs s_read_set) (defBody s_read_set) (defScope s_read_set) .none kV9 dc9 pm9 an9 cd9 ct9), sl9⟩)
      (c9 : PySem.W.codeIn K cd9 "_read_set" = true) (k9 : PySem.W.keepIn K (.ref f9) = true)
    (a10 : PySem.W.nsIn K mainGlobals "read_edit" = some (some (.ref f10))) (l10 : K.lookup f10 = some ⟨oc10, od10, .func (PySem.W.fnOf "read_edit" "read_edit" (defArgs s_read_edit) (defBody s_read_edit) (defScope s_read_edit) .none kV10 dc10 pm10 an10 cd10 ct10), sl10⟩)
      (c10 : PySem.W.codeIn K cd10 "read_edit" = true) (k10 : PySem.W.keepIn K (.ref f10) = true)
    (a11 : PySem.W.nsIn K mainGlobals "_read_edit_record" = some (some (.ref f11))) (l11 : K.lookup f11 = some ⟨oc11, od11, .func (PySem.W.fnOf "_read_edit_record" "_read_edit_record" (defArgs s_read_edit_record) (defBody s_read_edit_record) (defScope s_read_edit_record) .none kV11 dc11 pm11 an11 cd11 ct11), sl11⟩)
      (c11 : PySem.W.codeIn K cd11 "_read_edit_record" = true) (k11 : PySem.W.keepIn K (.ref f11) = true)
    (a12 : PySem.W.nsIn K mainGlobals "read_record" = some (some (.ref f12))) (l12 : K.lookup f12 = some ⟨oc12, od12, .func (PySem.W.fnOf "read_record" "read_record" (defArgs s_read_record) (defBody s_read_record) (defScope s_read_record) .none kV12 dc12 pm12 an12 cd12 ct12), sl12⟩)
      (c12 : PySem.W.codeIn K cd12 "read_record" = true) (k12 : PySem.W.keepIn K (.ref f12) = true)
    (a13 : PySem.W.nsIn K mainGlobals "_law_cell" = some (some (.ref f13))) (l13 : K.lookup f13 = some ⟨oc13, od13, .func (PySem.W.fnOf "_law_cell" "_law_cell" (defArgs s_law_cell) (defBody s_law_cell) (defScope s_law_cell) .none kV13 dc13 pm13 an13 cd13 ct13), sl13⟩)
      (c13 : PySem.W.codeIn K cd13 "_law_cell" = true) (k13 : PySem.W.keepIn K (.ref f13) = true)
    (a14 : PySem.W.nsIn K mainGlobals "_law_digits" = some (some (.ref f14))) (l14 : K.lookup f14 = some ⟨oc14, od14, .func (PySem.W.fnOf "_law_digits" "_law_digits" (defArgs s_law_digits) (defBody s_law_digits) (defScope s_law_digits) .none kV14 dc14 pm14 an14 cd14 ct14), sl14⟩)
      (c14 : PySem.W.codeIn K cd14 "_law_digits" = true) (k14 : PySem.W.keepIn K (.ref f14) = true)
    (a15 : PySem.W.nsIn K mainGlobals "_law_draw" = some (some (.ref f15))) (l15 : K.lookup f15 = some ⟨oc15, od15, .func (PySem.W.fnOf "_law_draw" "_law_draw" (defArgs s_law_draw) (defBody s_law_draw) (defScope s_law_draw) .none kV15 dc15 pm15 an15 cd15 ct15), sl15⟩)
      (c15 : PySem.W.codeIn K cd15 "_law_draw" = true) (k15 : PySem.W.keepIn K (.ref f15) = true)
    (a16 : PySem.W.nsIn K mainGlobals "_law_name" = some (some (.ref f16))) (l16 : K.lookup f16 = some ⟨oc16, od16, .func (PySem.W.fnOf "_law_name" "_law_name" (defArgs s_law_name) (defBody s_law_name) (defScope s_law_name) .none kV16 dc16 pm16 an16 cd16 ct16), sl16⟩)
      (c16 : PySem.W.codeIn K cd16 "_law_name" = true) (k16 : PySem.W.keepIn K (.ref f16) = true)
    (a17 : PySem.W.nsIn K mainGlobals "_law_text" = some (some (.ref f17))) (l17 : K.lookup f17 = some ⟨oc17, od17, .func (PySem.W.fnOf "_law_text" "_law_text" (defArgs s_law_text) (defBody s_law_text) (defScope s_law_text) .none kV17 dc17 pm17 an17 cd17 ct17), sl17⟩)
      (c17 : PySem.W.codeIn K cd17 "_law_text" = true) (k17 : PySem.W.keepIn K (.ref f17) = true)
    (a18 : PySem.W.nsIn K mainGlobals "_law_pages" = some (some (.ref f18))) (l18 : K.lookup f18 = some ⟨oc18, od18, .func (PySem.W.fnOf "_law_pages" "_law_pages" (defArgs s_law_pages) (defBody s_law_pages) (defScope s_law_pages) .none kV18 dc18 pm18 an18 cd18 ct18), sl18⟩)
      (c18 : PySem.W.codeIn K cd18 "_law_pages" = true) (k18 : PySem.W.keepIn K (.ref f18) = true)
    (a19 : PySem.W.nsIn K mainGlobals "_law_alike" = some (some (.ref f19))) (l19 : K.lookup f19 = some ⟨oc19, od19, .func (PySem.W.fnOf "_law_alike" "_law_alike" (defArgs s_law_alike) (defBody s_law_alike) (defScope s_law_alike) .none kV19 dc19 pm19 an19 cd19 ct19), sl19⟩)
      (c19 : PySem.W.codeIn K cd19 "_law_alike" = true) (k19 : PySem.W.keepIn K (.ref f19) = true)
    (a20 : PySem.W.nsIn K mainGlobals "_law_any" = some (some (.ref f20))) (l20 : K.lookup f20 = some ⟨oc20, od20, .func (PySem.W.fnOf "_law_any" "_law_any" (defArgs s_law_any) (defBody s_law_any) (defScope s_law_any) .none kV20 dc20 pm20 an20 cd20 ct20), sl20⟩)
      (c20 : PySem.W.codeIn K cd20 "_law_any" = true) (k20 : PySem.W.keepIn K (.ref f20) = true)
    (a21 : PySem.W.nsIn K mainGlobals "_law_edit" = some (some (.ref f21))) (l21 : K.lookup f21 = some ⟨oc21, od21, .func (PySem.W.fnOf "_law_edit" "_law_edit" (defArgs s_law_edit) (defBody s_law_edit) (defScope s_law_edit) .none kV21 dc21 pm21 an21 cd21 ct21), sl21⟩)
      (c21 : PySem.W.codeIn K cd21 "_law_edit" = true) (k21 : PySem.W.keepIn K (.ref f21) = true)
    (a22 : PySem.W.nsIn K mainGlobals "_law_written" = some (some (.ref f22))) (l22 : K.lookup f22 = some ⟨oc22, od22, .func (PySem.W.fnOf "_law_written" "_law_written" (defArgs s_law_written) (defBody s_law_written) (defScope s_law_written) .none kV22 dc22 pm22 an22 cd22 ct22), sl22⟩)
      (c22 : PySem.W.codeIn K cd22 "_law_written" = true) (k22 : PySem.W.keepIn K (.ref f22) = true)
    (a23 : PySem.W.nsIn K mainGlobals "_law_record_text" = some (some (.ref f23))) (l23 : K.lookup f23 = some ⟨oc23, od23, .func (PySem.W.fnOf "_law_record_text" "_law_record_text" (defArgs s_law_record_text) (defBody s_law_record_text) (defScope s_law_record_text) .none kV23 dc23 pm23 an23 cd23 ct23), sl23⟩)
      (c23 : PySem.W.codeIn K cd23 "_law_record_text" = true) (k23 : PySem.W.keepIn K (.ref f23) = true)
    (a24 : PySem.W.nsIn K mainGlobals "_law_record" = some (some (.ref f24))) (l24 : K.lookup f24 = some ⟨oc24, od24, .func (PySem.W.fnOf "_law_record" "_law_record" (defArgs s_law_record) (defBody s_law_record) (defScope s_law_record) .none kV24 dc24 pm24 an24 cd24 ct24), sl24⟩)
      (c24 : PySem.W.codeIn K cd24 "_law_record" = true) (k24 : PySem.W.keepIn K (.ref f24) = true)
    (a25 : PySem.W.nsIn K mainGlobals "_law_spoilt" = some (some (.ref f25))) (l25 : K.lookup f25 = some ⟨oc25, od25, .func (PySem.W.fnOf "_law_spoilt" "_law_spoilt" (defArgs s_law_spoilt) (defBody s_law_spoilt) (defScope s_law_spoilt) .none kV25 dc25 pm25 an25 cd25 ct25), sl25⟩)
      (c25 : PySem.W.codeIn K cd25 "_law_spoilt" = true) (k25 : PySem.W.keepIn K (.ref f25) = true)
    (a26 : PySem.W.nsIn K mainGlobals "_law_is_name" = some (some (.ref f26))) (l26 : K.lookup f26 = some ⟨oc26, od26, .func (PySem.W.fnOf "_law_is_name" "_law_is_name" (defArgs s_law_is_name) (defBody s_law_is_name) (defScope s_law_is_name) .none kV26 dc26 pm26 an26 cd26 ct26), sl26⟩)
      (c26 : PySem.W.codeIn K cd26 "_law_is_name" = true) (k26 : PySem.W.keepIn K (.ref f26) = true)
    (a27 : PySem.W.nsIn K mainGlobals "_law_fair_edit" = some (some (.ref f27))) (l27 : K.lookup f27 = some ⟨oc27, od27, .func (PySem.W.fnOf "_law_fair_edit" "_law_fair_edit" (defArgs s_law_fair_edit) (defBody s_law_fair_edit) (defScope s_law_fair_edit) .none kV27 dc27 pm27 an27 cd27 ct27), sl27⟩)
      (c27 : PySem.W.codeIn K cd27 "_law_fair_edit" = true) (k27 : PySem.W.keepIn K (.ref f27) = true)
    (a28 : PySem.W.nsIn K mainGlobals "_law_fair" = some (some (.ref f28))) (l28 : K.lookup f28 = some ⟨oc28, od28, .func (PySem.W.fnOf "_law_fair" "_law_fair" (defArgs s_law_fair) (defBody s_law_fair) (defScope s_law_fair) .none kV28 dc28 pm28 an28 cd28 ct28), sl28⟩)
      (c28 : PySem.W.codeIn K cd28 "_law_fair" = true) (k28 : PySem.W.keepIn K (.ref f28) = true)
    (a29 : PySem.W.nsIn K mainGlobals "_law_own_record" = some (some (.ref f29))) (l29 : K.lookup f29 = some ⟨oc29, od29, .func (PySem.W.fnOf "_law_own_record" "_law_own_record" (defArgs s_law_own_record) (defBody s_law_own_record) (defScope s_law_own_record) .none kV29 dc29 pm29 an29 cd29 ct29), sl29⟩)
      (c29 : PySem.W.codeIn K cd29 "_law_own_record" = true) (k29 : PySem.W.keepIn K (.ref f29) = true)
    (a30 : PySem.W.nsIn K mainGlobals "_law_own_edit" = some (some (.ref f30))) (l30 : K.lookup f30 = some ⟨oc30, od30, .func (PySem.W.fnOf "_law_own_edit" "_law_own_edit" (defArgs s_law_own_edit) (defBody s_law_own_edit) (defScope s_law_own_edit) .none kV30 dc30 pm30 an30 cd30 ct30), sl30⟩)
      (c30 : PySem.W.codeIn K cd30 "_law_own_edit" = true) (k30 : PySem.W.keepIn K (.ref f30) = true)
    (a31 : PySem.W.nsIn K mainGlobals "law" = some (some (.ref f31))) (l31 : K.lookup f31 = some ⟨oc31, od31, .func (PySem.W.fnOf "law" "law" (defArgs s_law) (defBody s_law) (defScope s_law) .none kV31 dc31 pm31 an31 cd31 ct31), sl31⟩)
      (c31 : PySem.W.codeIn K cd31 "law" = true) (k31 : PySem.W.keepIn K (.ref f31) = true)
    (z0 : PySem.W.nsIn K mainGlobals "len" = some none)
    (z1 : PySem.W.nsIn K mainGlobals "range" = some none)
    (z2 : PySem.W.nsIn K mainGlobals "int" = some none)
    (z3 : PySem.W.nsIn K mainGlobals "repr" = some none)
    (z4 : PySem.W.nsIn K mainGlobals "list" = some none)
    (z5 : PySem.W.nsIn K mainGlobals "tuple" = some none)
    (z6 : PySem.W.nsIn K mainGlobals "set" = some none)
    (z7 : PySem.W.nsIn K mainGlobals "all" = some none)
    (z8 : PySem.W.nsIn K mainGlobals "ord" = some none)
    (z9 : PySem.W.nsIn K mainGlobals "str" = some none)
    (z10 : PySem.W.nsIn K mainGlobals "zip" = some none)
    (n0 : PySem.W.nsIn K mainGlobals "NAME_MOST" = some (some (.int 6 t0)))
    (n1 : PySem.W.nsIn K mainGlobals "TEXT_MOST" = some (some (.int 60 t1)))
    (n2 : PySem.W.nsIn K mainGlobals "PAGES_MOST" = some (some (.int 6 t2)))
    (n3 : PySem.W.nsIn K mainGlobals "_PERCENT" = some (some (.int 37 t3)))
    (n4 : PySem.W.nsIn K mainGlobals "DIGITS_MOST" = some (some (.int 7 t4)))
    (m0 : PySem.W.nsIn K mainGlobals "_QUOTE" = some (some (.str "\"" u0)))
    (xb0 : PySem.W.nsIn K mainGlobals "_BOUNDS" = some (some (.ref bA)))
    (xb1 : K.lookup bA = some ⟨.type "tuple", bD, .seq bI bM, bL⟩)
    (xb2 : L2.Vals [.ref bp0, .ref bp1, .ref bp2, .ref bp3, .ref bp4, .ref bp5, .ref bp6] bI.toList)
    (xc0 : K.lookup bp0 = some ⟨.type "tuple", bd0, .seq bi0 bm0, bl0⟩)
    (xd0 : L2.Vals [.int 1, .int 3] bi0.toList)
    (xc1 : K.lookup bp1 = some ⟨.type "tuple", bd1, .seq bi1 bm1, bl1⟩)
    (xd1 : L2.Vals [.int 1, .int 100] bi1.toList)
    (xc2 : K.lookup bp2 = some ⟨.type "tuple", bd2, .seq bi2 bm2, bl2⟩)
    (xd2 : L2.Vals [.int 1, .int 4] bi2.toList)
    (xc3 : K.lookup bp3 = some ⟨.type "tuple", bd3, .seq bi3 bm3, bl3⟩)
    (xd3 : L2.Vals [.int 1, .int 100] bi3.toList)
    (xc4 : K.lookup bp4 = some ⟨.type "tuple", bd4, .seq bi4 bm4, bl4⟩)
    (xd4 : L2.Vals [.int 1, .int 400] bi4.toList)
    (xc5 : K.lookup bp5 = some ⟨.type "tuple", bd5, .seq bi5 bm5, bl5⟩)
    (xd5 : L2.Vals [.int 1, .int 200] bi5.toList)
    (xc6 : K.lookup bp6 = some ⟨.type "tuple", bd6, .seq bi6 bm6, bl6⟩)
    (xd6 : L2.Vals [.int 1, .int 2000] bi6.toList) :
    ∃ fd : FuncData, (∀ (s : Shared) (v : Value), BindsTo s fd ⟨[v], []⟩ [("script", v)]) ∧ ∀ base : Heap, K.In base → base.Ns mainGlobals mg → FnG l.prog w K mg base 8 fa fd ["script"] (spLaw K) := by
  obtain rfl : fa = f31 := by
    have e := hfa.symm.trans (PySem.W.mg_of X G a31)
    cases e
    rfl
  have z : Z mg := ⟨PySem.W.mg_none_of X G z0, PySem.W.mg_none_of X G z1, PySem.W.mg_none_of X G z2, PySem.W.mg_none_of X G z3, PySem.W.mg_none_of X G z4, PySem.W.mg_none_of X G z5, PySem.W.mg_none_of X G z6, PySem.W.mg_none_of X G z7, PySem.W.mg_none_of X G z8, PySem.W.mg_none_of X G z9, PySem.W.mg_none_of X G z10, ⟨_, PySem.W.mg_of X G n0⟩, ⟨_, PySem.W.mg_of X G n1⟩, ⟨_, PySem.W.mg_of X G n2⟩, ⟨_, PySem.W.mg_of X G n3⟩, ⟨_, PySem.W.mg_of X G n4⟩, ⟨_, PySem.W.mg_of X G m0⟩⟩
  have two : ∀ {xs : List V} {i : Array Value}, xs.length ≤ 7 → Vals xs i.toList → i.size ≤ sizeLine := fun {xs i} h v => by
    have e : i.size = xs.length := by rw [v.length, Array.length_toList]
    rw [e]
    exact Nat.le_trans h (by decide)
  have bd : Bounds K mg bA := ⟨PySem.W.mg_of X G xb0, [bp0, bp1, bp2, bp3, bp4, bp5, bp6], ⟨_, _, _, xb1, rfl, rfl, two (xs := [.ref bp0, .ref bp1, .ref bp2, .ref bp3, .ref bp4, .ref bp5, .ref bp6]) (Nat.le_refl 7) xb2, xb2⟩, rfl, fun i p t hp ht => match i, hp, ht with
    | 0, hp, ht => by obtain rfl := Option.some.inj hp; obtain rfl := Option.some.inj ht; exact ⟨_, _, _, xc0, rfl, rfl, two (by decide) xd0, xd0⟩
    | 1, hp, ht => by obtain rfl := Option.some.inj hp; obtain rfl := Option.some.inj ht; exact ⟨_, _, _, xc1, rfl, rfl, two (by decide) xd1, xd1⟩
    | 2, hp, ht => by obtain rfl := Option.some.inj hp; obtain rfl := Option.some.inj ht; exact ⟨_, _, _, xc2, rfl, rfl, two (by decide) xd2, xd2⟩
    | 3, hp, ht => by obtain rfl := Option.some.inj hp; obtain rfl := Option.some.inj ht; exact ⟨_, _, _, xc3, rfl, rfl, two (by decide) xd3, xd3⟩
    | 4, hp, ht => by obtain rfl := Option.some.inj hp; obtain rfl := Option.some.inj ht; exact ⟨_, _, _, xc4, rfl, rfl, two (by decide) xd4, xd4⟩
    | 5, hp, ht => by obtain rfl := Option.some.inj hp; obtain rfl := Option.some.inj ht; exact ⟨_, _, _, xc5, rfl, rfl, two (by decide) xd5, xd5⟩
    | 6, hp, ht => by obtain rfl := Option.some.inj hp; obtain rfl := Option.some.inj ht; exact ⟨_, _, _, xc6, rfl, rfl, two (by decide) xd6, xd6⟩
    | n + 7, hp, ht => by cases hp⟩
  have F0 := fun_mk (st := s_is_name) l0 c0 k0
  have b0 := F0.binds (ps := ["text"]) fun _ _ _ _ _ _ us hl => match us, hl with | [_], _ => rfl
  have F1 := fun_mk (st := s_is_of_text) l1 c1 k1
  have b1 := F1.binds (ps := ["sign"]) fun _ _ _ _ _ _ us hl => match us, hl with | [_], _ => rfl
  have F2 := fun_mk (st := s_is_text) l2 c2 k2
  have b2 := F2.binds (ps := ["text"]) fun _ _ _ _ _ _ us hl => match us, hl with | [_], _ => rfl
  have F3 := fun_mk (st := s_are_pages) l3 c3 k3
  have b3 := F3.binds (ps := ["names"]) fun _ _ _ _ _ _ us hl => match us, hl with | [_], _ => rfl
  have F4 := fun_mk (st := s_are_options) l4 c4 k4
  have b4 := F4.binds (ps := ["options"]) fun _ _ _ _ _ _ us hl => match us, hl with | [_], _ => rfl
  have F5 := fun_mk (st := s_write_edit) l5 c5 k5
  have b5 := F5.binds (ps := ["edit"]) fun _ _ _ _ _ _ us hl => match us, hl with | [_], _ => rfl
  have F6 := fun_mk (st := s_write_record) l6 c6 k6
  have b6 := F6.binds (ps := ["record"]) fun _ _ _ _ _ _ us hl => match us, hl with | [_], _ => rfl
  have F7 := fun_mk (st := s_is_number) l7 c7 k7
  have b7 := F7.binds (ps := ["word"]) fun _ _ _ _ _ _ us hl => match us, hl with | [_], _ => rfl
  have F8 := fun_mk (st := s_read_numbers) l8 c8 k8
  have b8 := F8.binds (ps := ["words"]) fun _ _ _ _ _ _ us hl => match us, hl with | [_], _ => rfl
  have F9 := fun_mk (st := s_read_set) l9 c9 k9
  have b9 := F9.binds (ps := ["text"]) fun _ _ _ _ _ _ us hl => match us, hl with | [_], _ => rfl
  have F10 := fun_mk (st := s_read_edit) l10 c10 k10
  have b10 := F10.binds (ps := ["text"]) fun _ _ _ _ _ _ us hl => match us, hl with | [_], _ => rfl
  have F11 := fun_mk (st := s_read_edit_record) l11 c11 k11
  have b11 := F11.binds (ps := ["rest"]) fun _ _ _ _ _ _ us hl => match us, hl with | [_], _ => rfl
  have F12 := fun_mk (st := s_read_record) l12 c12 k12
  have b12 := F12.binds (ps := ["text"]) fun _ _ _ _ _ _ us hl => match us, hl with | [_], _ => rfl
  have F13 := fun_mk (st := s_law_cell) l13 c13 k13
  have b13 := F13.binds (ps := ["script", "k"]) fun _ _ _ _ _ _ us hl => match us, hl with | [_, _], _ => rfl
  have F14 := fun_mk (st := s_law_digits) l14 c14 k14
  have b14 := F14.binds (ps := ["script", "first", "last"]) fun _ _ _ _ _ _ us hl => match us, hl with | [_, _, _], _ => rfl
  have F15 := fun_mk (st := s_law_draw) l15 c15 k15
  have b15 := F15.binds (ps := ["box", "many"]) fun _ _ _ _ _ _ us hl => match us, hl with | [_, _], _ => rfl
  have F16 := fun_mk (st := s_law_name) l16 c16 k16
  have b16 := F16.binds (ps := ["box"]) fun _ _ _ _ _ _ us hl => match us, hl with | [_], _ => rfl
  have F17 := fun_mk (st := s_law_text) l17 c17 k17
  have b17 := F17.binds (ps := ["box", "most"]) fun _ _ _ _ _ _ us hl => match us, hl with | [_, _], _ => rfl
  have F18 := fun_mk (st := s_law_pages) l18 c18 k18
  have b18 := F18.binds (ps := ["box"]) fun _ _ _ _ _ _ us hl => match us, hl with | [_], _ => rfl
  have F19 := fun_mk (st := s_law_alike) l19 c19 k19
  have b19 := F19.binds (ps := ["one", "two"]) fun _ _ _ _ _ _ us hl => match us, hl with | [_, _], _ => rfl
  have F20 := fun_mk (st := s_law_any) l20 c20 k20
  have b20 := F20.binds (ps := ["box"]) fun _ _ _ _ _ _ us hl => match us, hl with | [_], _ => rfl
  have F21 := fun_mk (st := s_law_edit) l21 c21 k21
  have b21 := F21.binds (ps := ["box", "pages"]) fun _ _ _ _ _ _ us hl => match us, hl with | [_, _], _ => rfl
  have F22 := fun_mk (st := s_law_written) l22 c22 k22
  have b22 := F22.binds (ps := ["edit"]) fun _ _ _ _ _ _ us hl => match us, hl with | [_], _ => rfl
  have F23 := fun_mk (st := s_law_record_text) l23 c23 k23
  have b23 := F23.binds (ps := ["record"]) fun _ _ _ _ _ _ us hl => match us, hl with | [_], _ => rfl
  have F24 := fun_mk (st := s_law_record) l24 c24 k24
  have b24 := F24.binds (ps := ["box"]) fun _ _ _ _ _ _ us hl => match us, hl with | [_], _ => rfl
  have F25 := fun_mk (st := s_law_spoilt) l25 c25 k25
  have b25 := F25.binds (ps := ["box", "text"]) fun _ _ _ _ _ _ us hl => match us, hl with | [_, _], _ => rfl
  have F26 := fun_mk (st := s_law_is_name) l26 c26 k26
  have b26 := F26.binds (ps := ["text"]) fun _ _ _ _ _ _ us hl => match us, hl with | [_], _ => rfl
  have F27 := fun_mk (st := s_law_fair_edit) l27 c27 k27
  have b27 := F27.binds (ps := ["edit"]) fun _ _ _ _ _ _ us hl => match us, hl with | [_], _ => rfl
  have F28 := fun_mk (st := s_law_fair) l28 c28 k28
  have b28 := F28.binds (ps := ["record"]) fun _ _ _ _ _ _ us hl => match us, hl with | [_], _ => rfl
  have F29 := fun_mk (st := s_law_own_record) l29 c29 k29
  have b29 := F29.binds (ps := ["text"]) fun _ _ _ _ _ _ us hl => match us, hl with | [_], _ => rfl
  have F30 := fun_mk (st := s_law_own_edit) l30 c30 k30
  have b30 := F30.binds (ps := ["text"]) fun _ _ _ _ _ _ us hl => match us, hl with | [_], _ => rfl
  have F31 := fun_mk (st := s_law) l31 c31 k31
  refine ⟨PySem.W.fnOf "law" "law" (defArgs s_law) (defBody s_law) (defScope s_law) .none kV31 dc31 pm31 an31 cd31 ct31, fun s v => .of_eq rfl, fun base _ _ => ?_⟩
  have C_is_name : Cal l.prog w K mg base "is_name" 1 ["text"] spIsNameP := ⟨f0, _, ok_is_name F0 z , b0, PySem.W.mg_of X G a0, k0⟩
  have C_is_of_text : Cal l.prog w K mg base "_is_of_text" 1 ["sign"] spOfText := ⟨f1, _, ok_is_of_text F1 z , b1, PySem.W.mg_of X G a1, k1⟩
  have C_is_text : Cal l.prog w K mg base "is_text" 2 ["text"] spIsText := ⟨f2, _, ok_is_text F2 z C_is_of_text, b2, PySem.W.mg_of X G a2, k2⟩
  have C_are_pages : Cal l.prog w K mg base "are_pages" 2 ["names"] (spPagesR K) := ⟨f3, _, ok_are_pages F3 z C_is_name, b3, PySem.W.mg_of X G a3, k3⟩
  have C_are_options : Cal l.prog w K mg base "are_options" 1 ["options"] (spAre K) := ⟨f4, _, ok_are_options F4 z bd, b4, PySem.W.mg_of X G a4, k4⟩
  have C_write_edit : Cal l.prog w K mg base "write_edit" 1 ["edit"] (spWEdit K) := ⟨f5, _, ok_write_edit F5 z , b5, PySem.W.mg_of X G a5, k5⟩
  have C_write_record : Cal l.prog w K mg base "write_record" 2 ["record"] (spWRec K) := ⟨f6, _, ok_write_record F6 z C_write_edit, b6, PySem.W.mg_of X G a6, k6⟩
  have C_is_number : Cal l.prog w K mg base "_is_number" 1 ["word"] spIsNum := ⟨f7, _, ok_is_number F7 z , b7, PySem.W.mg_of X G a7, k7⟩
  have C_read_numbers : Cal l.prog w K mg base "_read_numbers" 2 ["words"] (spRNums K) := ⟨f8, _, ok_read_numbers F8 z C_is_number, b8, PySem.W.mg_of X G a8, k8⟩
  have C_read_set : Cal l.prog w K mg base "_read_set" 3 ["text"] (spRSet K) := ⟨f9, _, ok_read_set F9 z C_is_name C_is_text, b9, PySem.W.mg_of X G a9, k9⟩
  have C_read_edit : Cal l.prog w K mg base "read_edit" 4 ["text"] (spREdit K) := ⟨f10, _, ok_read_edit F10 z C_is_name C_are_pages C_read_set, b10, PySem.W.mg_of X G a10, k10⟩
  have C_read_edit_record : Cal l.prog w K mg base "_read_edit_record" 5 ["rest"] (spREdRec K) := ⟨f11, _, ok_read_edit_record F11 z C_read_numbers C_read_edit, b11, PySem.W.mg_of X G a11, k11⟩
  have C_read_record : Cal l.prog w K mg base "read_record" 6 ["text"] (spRRec K) := ⟨f12, _, ok_read_record F12 z C_are_options C_read_numbers C_read_edit_record, b12, PySem.W.mg_of X G a12, k12⟩
  have C_law_cell : Cal l.prog w K mg base "_law_cell" 1 ["script", "k"] (spCell K) := ⟨f13, _, ok_law_cell F13 z , b13, PySem.W.mg_of X G a13, k13⟩
  have C_law_digits : Cal l.prog w K mg base "_law_digits" 2 ["script", "first", "last"] (spDigits K) := ⟨f14, _, ok_law_digits F14 z C_law_cell, b14, PySem.W.mg_of X G a14, k14⟩
  have C_law_draw : Cal l.prog w K mg base "_law_draw" 1 ["box", "many"] spDraw := ⟨f15, _, ok_law_draw F15 z , b15, PySem.W.mg_of X G a15, k15⟩
  have C_law_name : Cal l.prog w K mg base "_law_name" 2 ["box"] spName := ⟨f16, _, ok_law_name F16 z C_law_draw, b16, PySem.W.mg_of X G a16, k16⟩
  have C_law_text : Cal l.prog w K mg base "_law_text" 3 ["box", "most"] spText := ⟨f17, _, ok_law_text F17 z C_law_draw C_law_name, b17, PySem.W.mg_of X G a17, k17⟩
  have C_law_pages : Cal l.prog w K mg base "_law_pages" 3 ["box"] spPagesL := ⟨f18, _, ok_law_pages F18 z C_law_draw C_law_name, b18, PySem.W.mg_of X G a18, k18⟩
  have C_law_alike : CalG l.prog w K mg base "_law_alike" 1 ["one", "two"] (spAlike K) := ⟨f19, _, ok_law_alike F19 z , b19, PySem.W.mg_of X G a19, k19⟩
  have C_law_any : Cal l.prog w K mg base "_law_any" 4 ["box"] spAny := ⟨f20, _, ok_law_any F20 z C_law_draw C_law_name C_law_text, b20, PySem.W.mg_of X G a20, k20⟩
  have C_law_edit : Cal l.prog w K mg base "_law_edit" 4 ["box", "pages"] (spLEdit K) := ⟨f21, _, ok_law_edit F21 z C_law_draw C_law_name C_law_text C_law_pages, b21, PySem.W.mg_of X G a21, k21⟩
  have C_law_written : Cal l.prog w K mg base "_law_written" 1 ["edit"] (spWEdit K) := ⟨f22, _, ok_law_written F22 z , b22, PySem.W.mg_of X G a22, k22⟩
  have C_law_record_text : Cal l.prog w K mg base "_law_record_text" 2 ["record"] (spWRec K) := ⟨f23, _, ok_law_record_text F23 z C_law_written, b23, PySem.W.mg_of X G a23, k23⟩
  have C_law_record : Cal l.prog w K mg base "_law_record" 5 ["box"] (spLRec K) := ⟨f24, _, ok_law_record F24 z C_law_draw C_law_pages C_law_any C_law_edit, b24, PySem.W.mg_of X G a24, k24⟩
  have C_law_spoilt : Cal l.prog w K mg base "_law_spoilt" 2 ["box", "text"] spSpoilt := ⟨f25, _, ok_law_spoilt F25 z C_law_draw, b25, PySem.W.mg_of X G a25, k25⟩
  have C_law_is_name : Cal l.prog w K mg base "_law_is_name" 1 ["text"] spIsName := ⟨f26, _, ok_law_is_name F26 z , b26, PySem.W.mg_of X G a26, k26⟩
  have C_law_fair_edit : Cal l.prog w K mg base "_law_fair_edit" 2 ["edit"] (spFairE K) := ⟨f27, _, ok_law_fair_edit F27 z C_law_is_name, b27, PySem.W.mg_of X G a27, k27⟩
  have C_law_fair : Cal l.prog w K mg base "_law_fair" 3 ["record"] (spFairR K) := ⟨f28, _, ok_law_fair F28 z C_law_fair_edit, b28, PySem.W.mg_of X G a28, k28⟩
  have C_law_own_record : Cal l.prog w K mg base "_law_own_record" 7 ["text"] spOwn := ⟨f29, _, ok_law_own_record F29 z C_read_record C_law_record_text C_law_fair, b29, PySem.W.mg_of X G a29, k29⟩
  have C_law_own_edit : Cal l.prog w K mg base "_law_own_edit" 5 ["text"] spOwn := ⟨f30, _, ok_law_own_edit F30 z C_read_edit C_law_written C_law_fair_edit, b30, PySem.W.mg_of X G a30, k30⟩
  exact ok_law F31 z C_write_edit C_write_record C_read_edit C_read_record C_law_digits C_law_alike C_law_written C_law_record_text C_law_record C_law_spoilt C_law_own_record C_law_own_edit
end K45
open PySem PySem.W PyProof.Rows
set_option maxRecDepth 100000 in
set_option maxHeartbeats 0 in
theorem PySem.Challenge.cw_pagesatonce_k45_records_written_and_read_holds : PySem.Challenge.rw_pagesatonce_k45_records_written_and_read.Holds := by
  w_on; o_law; k_head; (case hw => w_witness2)
  k_fill
  refine Pg.walkG (l := PySem.Challenge.rw_pagesatonce_k45_records_written_and_read) (n := 63) (k := 8) (x := "script") (sp := K45.spLaw) rfl (by decide) rfl ⟨rfl, by decide, by decide⟩ (fun w h Y => PySem.W.kIn_of Y) ?F (fun K H a ns hl hS => ⟨a, ns, rfl, hS, hl, fun _ => rfl⟩)
  case F =>
    intro w mg fa h KX G hmg
    refine' K45.all_mk KX G hmg ?a0 ?l0 ?c0 ?k0 ?a1 ?l1 ?c1 ?k1 ?a2 ?l2 ?c2 ?k2 ?a3 ?l3 ?c3 ?k3 ?a4 ?l4 ?c4 ?k4 ?a5 ?l5 ?c5 ?k5 ?a6 ?l6 ?c6 ?k6 ?a7 ?l7 ?c7 ?k7 ?a8 ?l8 ?c8 ?k8 ?a9 ?l9 ?c9 ?k9 ?a10 ?l10 ?c10 ?k10 ?a11 ?l11 ?c11 ?k11 ?a12 ?l12 ?c12 ?k12 ?a13 ?l13 ?c13 ?k13 ?a14 ?l14 ?c14 ?k14 ?a15 ?l15 ?c15 ?k15 ?a16 ?l16 ?c16 ?k16 ?a17 ?l17 ?c17 ?k17 ?a18 ?l18 ?c18 ?k18 ?a19 ?l19 ?c19 ?k19 ?a20 ?l20 ?c20 ?k20 ?a21 ?l21 ?c21 ?k21 ?a22 ?l22 ?c22 ?k22 ?a23 ?l23 ?c23 ?k23 ?a24 ?l24 ?c24 ?k24 ?a25 ?l25 ?c25 ?k25 ?a26 ?l26 ?c26 ?k26 ?a27 ?l27 ?c27 ?k27 ?a28 ?l28 ?c28 ?k28 ?a29 ?l29 ?c29 ?k29 ?a30 ?l30 ?c30 ?k30 ?a31 ?l31 ?c31 ?k31 ?z0 ?z1 ?z2 ?z3 ?z4 ?z5 ?z6 ?z7 ?z8 ?z9 ?z10 ?n0 ?n1 ?n2 ?n3 ?n4 ?m0 ?xb0 ?xb1 ?xb2 ?xc0 ?xd0 ?xc1 ?xd1 ?xc2 ?xd2 ?xc3 ?xd3 ?xc4 ?xd4 ?xc5 ?xd5 ?xc6 ?xd6
    (case a0 => k_is); (case l0 => k_is); (case c0 => k_is); (case k0 => k_is); (case a1 => k_is); (case l1 => k_is)
    (case c1 => k_is); (case k1 => k_is); (case a2 => k_is); (case l2 => k_is); (case c2 => k_is); (case k2 => k_is)
    (case a3 => k_is); (case l3 => k_is); (case c3 => k_is); (case k3 => k_is); (case a4 => k_is); (case l4 => k_is)
    (case c4 => k_is); (case k4 => k_is); (case a5 => k_is); (case l5 => k_is); (case c5 => k_is); (case k5 => k_is)
    (case a6 => k_is); (case l6 => k_is); (case c6 => k_is); (case k6 => k_is); (case a7 => k_is); (case l7 => k_is)
    (case c7 => k_is); (case k7 => k_is); (case a8 => k_is); (case l8 => k_is); (case c8 => k_is); (case k8 => k_is)
    (case a9 => k_is); (case l9 => k_is); (case c9 => k_is); (case k9 => k_is); (case a10 => k_is); (case l10 => k_is)
    (case c10 => k_is); (case k10 => k_is); (case a11 => k_is); (case l11 => k_is); (case c11 => k_is); (case k11 => k_is)
    (case a12 => k_is); (case l12 => k_is); (case c12 => k_is); (case k12 => k_is); (case a13 => k_is); (case l13 => k_is)
    (case c13 => k_is); (case k13 => k_is); (case a14 => k_is); (case l14 => k_is); (case c14 => k_is); (case k14 => k_is)
    (case a15 => k_is); (case l15 => k_is); (case c15 => k_is); (case k15 => k_is); (case a16 => k_is); (case l16 => k_is)
    (case c16 => k_is); (case k16 => k_is); (case a17 => k_is); (case l17 => k_is); (case c17 => k_is); (case k17 => k_is)
    (case a18 => k_is); (case l18 => k_is); (case c18 => k_is); (case k18 => k_is); (case a19 => k_is); (case l19 => k_is)
    (case c19 => k_is); (case k19 => k_is); (case a20 => k_is); (case l20 => k_is); (case c20 => k_is); (case k20 => k_is)
    (case a21 => k_is); (case l21 => k_is); (case c21 => k_is); (case k21 => k_is); (case a22 => k_is); (case l22 => k_is)
    (case c22 => k_is); (case k22 => k_is); (case a23 => k_is); (case l23 => k_is); (case c23 => k_is); (case k23 => k_is)
    (case a24 => k_is); (case l24 => k_is); (case c24 => k_is); (case k24 => k_is); (case a25 => k_is); (case l25 => k_is)
    (case c25 => k_is); (case k25 => k_is); (case a26 => k_is); (case l26 => k_is); (case c26 => k_is); (case k26 => k_is)
    (case a27 => k_is); (case l27 => k_is); (case c27 => k_is); (case k27 => k_is); (case a28 => k_is); (case l28 => k_is)
    (case c28 => k_is); (case k28 => k_is); (case a29 => k_is); (case l29 => k_is); (case c29 => k_is); (case k29 => k_is)
    (case a30 => k_is); (case l30 => k_is); (case c30 => k_is); (case k30 => k_is); (case a31 => k_is); (case l31 => k_is)
    (case c31 => k_is); (case k31 => k_is); (case z0 => k_is); (case z1 => k_is); (case z2 => k_is); (case z3 => k_is)
    (case z4 => k_is); (case z5 => k_is); (case z6 => k_is); (case z7 => k_is); (case z8 => k_is); (case z9 => k_is)
    (case z10 => k_is); (case n0 => k_is); (case n1 => k_is); (case n2 => k_is); (case n3 => k_is); (case n4 => k_is)
    (case m0 => k_is)
    (case xb0 => k_is)
    (case xb1 => k_is)
    (case xb2 => exact .cons rfl (.cons rfl (.cons rfl (.cons rfl (.cons rfl (.cons rfl (.cons rfl .nil)))))))
    (case xc0 => k_is)
    (case xd0 => exact .cons ⟨_, rfl⟩ (.cons ⟨_, rfl⟩ .nil))
    (case xc1 => k_is)
    (case xd1 => exact .cons ⟨_, rfl⟩ (.cons ⟨_, rfl⟩ .nil))
    (case xc2 => k_is)
    (case xd2 => exact .cons ⟨_, rfl⟩ (.cons ⟨_, rfl⟩ .nil))
    (case xc3 => k_is)
    (case xd3 => exact .cons ⟨_, rfl⟩ (.cons ⟨_, rfl⟩ .nil))
    (case xc4 => k_is)
    (case xd4 => exact .cons ⟨_, rfl⟩ (.cons ⟨_, rfl⟩ .nil))
    (case xc5 => k_is)
    (case xd5 => exact .cons ⟨_, rfl⟩ (.cons ⟨_, rfl⟩ .nil))
    (case xc6 => k_is)
    (case xd6 => exact .cons ⟨_, rfl⟩ (.cons ⟨_, rfl⟩ .nil))

