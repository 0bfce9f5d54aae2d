import PyProof.Rows.All
import Wide.All
import OpenK.AllK
import Wide.FinOn
import PyProof.ReprRoads
import PyProof.ReprLen
import KE.GoesMore
import HandS.Base
import HandS.Call
import HandS.List
import HandS.Comp
import HandS.Ends
import HandS.Dict
import HandS.Iter
import HandS.Text
import HandS.Words
import HandS.WordsList
import HandS.WordsDict
import HandS.Walk
import HandS.Style
import HandS.Zip
import HandS.TupAny
import HandS.SortInts
import HandS.Wide
import HandS.Star
import KE.GoesZip
import HandS.Zip0
import HandS.TupMul
import HandS.TupSets
import PySem.Challenge.RW_wakedenough_k22_whole_valleys
set_option Elab.async false
set_option linter.all false
set_option maxRecDepth 100000
namespace WK
open PySem PySem.Spec PyProof.Rows L2

/-! ### a def that may ask for repr: what is printed around the call is known to be nothing -/
abbrev NoE : XK := fun _ _ _ => False
structure FnG (P : Program) (w : World) (K : PySem.W.Frag) (mg : Str → Option Value) (base : Heap) (k : Nat) (f : Addr) (fd : FuncData) (ps : List Str) (sp : Sp) : Prop where
  go : ∀ (A : Around) (outer : List Env) (s : Shared) (H : Hp) (args : Args) (us : List Value) (vs : List V) (Q : VK),
    A.guards = some [] → Room k A → Env0 P w K mg base A outer s H →
    BindsTo s fd args (ps.zip us) → Vals vs us → vs.length = ps.length → sp vs H Q NoE →
    codeAny (model P w) A (.call (.ref f) args) (CR CX0 outer P w H s Q NoE) s

theorem guards_deeper {A : Around} {env : Env} (h : A.guards = some []) : (A.deeper env).guards = some [] := h

section
variable {P : Program} {w : World} {K : PySem.W.Frag} {mg : Str → Option Value} {base : Heap}
theorem okG {x qual : Str} {st : Stmt} {f : Addr} {fd : FuncData} {N ps : List Str} {k : Nat} {sp : Sp}
    (F : Fun K x qual st f fd) (S : FnScope N ps (defScope st))
    (bd : ∀ (cdv : Value) (A : Around) (outer : List Env) (s : Shared) (H : Hp) (vs : List V) (Q : VK),
      Room k (A.deeper (envOfC qual (defScope st) s.heap.objs.size f cdv)) → A.guards = some [] → sp vs H Q NoE →
      ∃ t, PSs (cxOf CX0 P w K mg base N qual (defScope st) f cdv A outer s H NoE).nox (defBody st) t ∧
        t { nx := fun _ G => Q .non G, rt := Q } (start N vs) H) :
    FnG P w K mg base (k + 1) f fd ps sp := by
  obtain ⟨oc, od, kV, doc, pm, an, cdv, ct, osl, rfl, lk, hcd⟩ := F.ex
  constructor
  intro A outer s H args us vs Q gd room env bind rel hl hsp
  have inK : K.In s.heap := env.mod.kin.keeps (fun b o e => (env.bs b o e).1)
  have noLim : s.heap.NoLimit := env.mod.nolimit.keeps (fun b o e => (env.bs b o e).1)
  have kinds : ∀ y ∈ ps.zip us,
      (defScope st).names.lookup y.1 = some .local ∨
      ((defScope st).names.lookup y.1 = some .cell ∧
        ((cellsFrom (s.heap.objs.size + 1) (defScope st).names []).lookup y.1).isSome = true) := by
    rintro ⟨n, v⟩ hy
    cases S.par n (List.of_mem_zip hy).1 with
    | inl q => exact Or.inl q
    | inr q => exact Or.inr ⟨q, PySem.W.cellsFrom_some _ _ _ (Or.inl q)⟩
  refine codeAny_call_function room.depth
    (inK _ _ lk) rfl S.co S.gen rfl
    (PySem.W.codeRec_of inK hcd) (bind _ _ _ _ ?_)
  refine wpAny_newFunctionEnv_cells S.kind kinds ?_
  intro e1 he s1 ic
  subst he
  refine ⟨noLim.keeps ic.toInCall.keep, ?_⟩
  apply codeAny_func
  obtain ⟨t, ht, hq⟩ := bd cdv A outer s H vs Q (room.deeper _) gd hsp
  have I0 := inv_start (CX := CX0) (P := P) (w := w) (K := K) (mg := mg) (base := base) (E := NoE) S room.hd env hl rel ic
  refine wpAny_mono (ht.nox.run [] s1 (start N vs) H _ I0 hq) ?_ (fun _ _ z => z)
  intro fl s2 hs
  cases fl with
  | brk => obtain ⟨_, _, _, q⟩ := hs; exact q.elim
  | cont => obtain ⟨_, _, _, q⟩ := hs; exact q.elim
  | ret u =>
    obtain ⟨v, σ', H', J, rv, q⟩ := hs
    exact ⟨v, H', J.os, J.bare, J.base, J.hok, rv, q⟩
  | next =>
    obtain ⟨σ', H', J, q⟩ := hs
    exact ⟨V.non, H', J.os, J.bare, J.base, J.hok, rfl, q⟩
end
end WK
set_option Elab.async false
set_option linter.all false
set_option maxRecDepth 100000
namespace WK
open PySem PySem.Spec PyProof.Rows L2

/-! ### repr of data -/
mutual
theorem dp_nodict {K : PySem.W.Frag} {H : Hp} : ∀ (d : PyData) (v : V), Dp K H v d → d.hasDict = false
  | .none, _, _ => rfl
  | .bool _, _, _ => rfl
  | .int _, _, _ => rfl
  | .str _, _, _ => rfl
  | .list ds, _, h => by
    cases h with
    | lst _ q => simpa only [PyData.hasDict] using dp_nodictAll ds _ q
  | .tuple ds, _, h => by
    cases h with
    | tup _ q => simpa only [PyData.hasDict] using dp_nodictAll ds _ q
  | .dict _, _, h => by cases h
theorem dp_nodictAll {K : PySem.W.Frag} {H : Hp} : ∀ (ds : List PyData) (vs : List V), DpAll K H vs ds → PyData.hasDictAll ds = false
  | [], _, _ => rfl
  | d :: ds, _, h => by
    cases h with
    | cons a b => simp only [PyData.hasDictAll, dp_nodict d _ a, dp_nodictAll ds _ b, Bool.or_self]
end

/-- data that repr shows in room -/
structure Shows (d : PyData) : Prop where
  ok : d.showable = true
  dep : d.depth ≤ 20
  len : d.shown.length ≤ sizeLine

def rRepr (K : PySem.W.Frag) : List V → Hp → VK → Prop := fun xs H Q => ∃ (a : Addr) (d : PyData), xs = [.ref a] ∧ Dp K H (.ref a) d ∧ Shows d ∧ Q (.str d.shown) H
theorem call_reprD {X : Cx} (hg : X.A.guards = some []) (hu : X.A.units + 64 < cLine) : CallR X (.builtin "repr") (rRepr X.K) := by
  rintro pins s σ H xs us Q I r ⟨a, d, rfl, hd, sh, q⟩
  obtain ⟨u, rfl, ru⟩ := vals1 r
  cases ru
  obtain ⟨as, r1⟩ := Dp.reads I d _ _ hd rfl
  have hdep := sh.dep
  exact repr_of_reads' r1 sh.ok (PyData.noDict_hsm (dp_nodict d _ hd)) hg (by omega) (fun _ _ e => e)
    (fun h' u tk hk => ⟨.str d.shown, H, I.kept hk, ⟨u, rfl⟩, q⟩) sh.len

/-! ### the law's call, where nothing is printed around it -/
theorem law_callG {P : Program} {w : World} {K : PySem.W.Frag} {mg mb : Str → Option Value} {k : Nat} {fa a : Addr} {fd : FuncData} {x : Str} {sp : Sp} {s₁ : Shared} {vs : List Value} {ns : List Int}
    (KX : K.In s₁.heap) (hns : s₁.heap.Ns mainGlobals mg) (hb : s₁.heap.Ns builtinsNs mb) (hbb : ∀ x : Str, x ≠ "__name__" → mb x = bootBuiltins x) (hlim : s₁.heap.NoLimit) (hg : s₁.gens = #[])
    (ha : s₁.heap.get? a = some { cls := .type "list", data := .seq vs.toArray }) (hi : IntsAre vs ns) (hl : ns.length ≤ sizeLine) (hr : Room k callerA)
    (F : ∀ base : Heap, K.In base → base.Ns mainGlobals mg → FnG P w K mg base k fa fd [x] sp)
    (hbind : ∀ (s : Shared) (u : Value), BindsTo s fd ⟨[u], []⟩ [(x, u)])
    (hsp : ∀ H : Hp, Only H → SqL K H a (ns.map V.int) → sp [.ref a] H (fun v _ => v = .bl true) NoE) :
    codeAny (model P w) callerA (.call (.ref fa) ⟨[.ref a], []⟩)
      (fun r s' => r = .ok (.ret (.bool true)) ∧ OldK s₁.heap s'.heap ∧ s'.os = s₁.os ∧ AllBare s'.gens) s₁ := by
  have main : ∀ H : Hp, Only H → SqL K H a (ns.map V.int) → HOk P w H s₁.heap →
      (∀ b, H b ≠ none → b = a) → (H a ≠ none → K.lookup a = none) →
      codeAny (model P w) callerA (.call (.ref fa) ⟨[.ref a], []⟩)
        (fun r s' => r = .ok (.ret (.bool true)) ∧ OldK s₁.heap s'.heap ∧ s'.os = s₁.os ∧ AllBare s'.gens) s₁ := by
    intro H only seq hok justA notK
    have isA : ∀ {b : Addr} {u : HO}, H b = some u → b = a := by
      intro b u q
      exact justA b (by simp [q])
    have hid : ∀ {b : Addr} {o : Obj}, s₁.heap.get? b = some o → H b = none → (hidT s₁.heap H).get? b = some o :=
      fun e n => hidT_get e n
    have dictFree : ∀ {b : Addr} {o : Obj} {es : Array DictEntry} {ep : Nat}, s₁.heap.get? b = some o → o.data = .dict es ep → H b = none := by
      intro b o es ep e d
      match q : H b with
      | none => rfl
      | some u =>
        have := isA q
        subst this
        rw [ha] at e
        injection e with e
        subst e
        exact nomatch d
    have spaces : ∀ {b : Addr} {m : Str → Option Value}, s₁.heap.Ns b m → (hidT s₁.heap H).Ns b m := by
      rintro b m ⟨o, es, ep, e, d, rest⟩
      exact ⟨o, es, ep, hid e (dictFree e d), d, rest⟩
    have inK : K.In (hidT s₁.heap H) := by
      intro b o e
      refine hid (KX b o e) ?_
      match q : H b with
      | none => rfl
      | some u =>
        have := isA q
        subst this
        have z := notK (by simp [q])
        rw [e] at z
        exact nomatch z
    have md : Mod K mg (hidT s₁.heap H) := by
      obtain ⟨mc, l1, l2⟩ := hlim
      exact ⟨inK, spaces hns, ⟨mb, spaces hb, hbb⟩, ⟨mc, spaces l1, l2⟩⟩
    have none0 : ∀ b : Addr, ¬ b ∈ ([] : List Addr) := fun b z => nomatch z
    have env : Env0 P w K mg (hidT s₁.heap H) callerA [] s₁ H :=
      { frames := rfl, mod := md, bs := fun b o e => of_hidT e, bsz := Nat.le_of_eq (hidT_size _ _), funs := trivial,
        frf := fun b z => absurd z (none0 b), hok := hok, bare := .of_eq hg }
    have run := (F _ inK (spaces hns)).go callerA [] s₁ H ⟨[.ref a], []⟩ [.ref a] [.ref a] (fun v _ => v = .bl true) rfl hr env
      (hbind s₁ (.ref a)) (.cons rfl .nil) rfl (hsp H only seq)
    refine codeAny_mono run ?_
    intro r s' h
    match r, h with
    | .error e, h => exact False.elim h
    | .ok .next, h => exact False.elim h
    | .ok .brk, h => exact False.elim h
    | .ok .cont, h => exact False.elim h
    | .ok (.ret u), h =>
      obtain ⟨v, H', os, bare, un, hok', rel, ev⟩ := h
      have ev : v = .bl true := ev
      subst ev
      have eu : u = Value.bool true := rel
      subst eu
      refine ⟨rfl, OldK.of_keep ?_, os, bare⟩
      intro b o e
      match q : H b with
      | none => exact un.keep b o e q (none0 b) (none0 b)
      | some v =>
        cases only b with
        | inl z => rw [q] at z; exact nomatch z
        | inr z =>
          obtain ⟨ob, xs, z⟩ := z
          have here := (hok b _ z).1
          have there := (hok' b _ (un.frzs b ob _ z)).1
          rw [e] at here
          injection here with here
          subst here
          exact there
  have rel := vals_ints hi
  match hk : K.lookup a with
  | some o =>
    have e := KX a o hk
    rw [ha] at e
    injection e with e
    subst e
    refine main (fun _ => none) (fun _ => Or.inl rfl) (Or.inr ⟨_, vs.toArray, _, hk, rfl, rfl, rfl, ?_, ?_⟩) ?_ (fun b z => absurd rfl z) (fun z => absurd rfl z)
    · rw [List.size_toArray, hi.length]; exact hl
    · simpa using rel
    · intro b u z; exact nomatch z
  | none =>
    let H0 : Hp := fun b => if b = a then some (.frz { cls := .type "list", data := .seq vs.toArray } (.lst (ns.map V.int))) else none
    have atA : H0 a = some (.frz { cls := .type "list", data := .seq vs.toArray } (.lst (ns.map V.int))) := if_pos rfl
    have off : ∀ b, b ≠ a → H0 b = none := fun b n => if_neg n
    refine main H0 ?_ (Or.inl (Or.inr ⟨_, atA⟩)) ?_ ?_ (fun _ => hk)
    · intro b
      by_cases e : b = a
      · subst e; exact Or.inr ⟨_, _, atA⟩
      · exact Or.inl (off b e)
    · intro b u z
      by_cases e : b = a
      · subst e
        rw [atA] at z
        injection z with z
        subst z
        exact ⟨ha, by rw [List.length_map]; exact hl, vs, _, rel, ha⟩
      · rw [off b e] at z; exact nomatch z
    · intro b z
      by_cases e : b = a
      · exact e
      · exact absurd (off b e) z

theorem walk_ofG {l : PySem.W.OpenLaw} {n k : Nat} {q : Program} {loose : List Str} {XP : (Str → Option Value) → Heap → Prop} {YP : World → Heap → Prop} {d : DefRec} {K : Params → PySem.W.Frag} {sp : World → Sp} {x : Str}
    (hn : l.most = some n) (hn2 : n ≤ sizeLine) (hdf : d.params.defaults = []) (hr : Room k callerA)
    (hY : ∀ (w : World) (h : Heap), YP w h → (K w.params).In h)
    (F : ∀ (w : World) (mg : Str → Option Value) (fa : Addr) (h : Heap), (K w.params).In h → h.Ns mainGlobals mg → mg d.name = some (.ref fa) →
      ∃ fd : FuncData, (∀ (s : Shared) (u : Value), BindsTo s fd ⟨[u], []⟩ [(x, u)]) ∧
        ∀ base : Heap, (K w.params).In base → base.Ns mainGlobals mg → FnG l.prog w (K w.params) mg base k fa fd [x] (sp w))
    (hsp : ∀ (w : World) (H : Hp) (a : Addr) (ns : List Int), ns.length ≤ n → Only H → SqL (K w.params) H a (ns.map V.int) → sp w [.ref a] H (fun v _ => v = .bl true) NoE) :
    PySem.W.WalkO q loose XP YP l.row.toRowW d [] (fun f vs => PySem.call f vs) := by
  apply Att.attach_call hn hdf
  intro w s₀ s₁ mg mb fa o pm cd doc a vs ns G Y ho hd hcd hmg hobj hints hlen hg
  obtain ⟨fd, hb, hF⟩ := F w mg fa _ (hY w _ Y) G.T.g hmg
  exact law_callG (hY w _ Y) G.T.g G.T.b G.T.builtins G.T.nolimit hg hobj hints (Nat.le_trans hlen hn2) hr hF hb
    (fun H hO hS => hsp w H a ns hlen hO hS)
end WK
set_option Elab.async false
set_option linter.all false
set_option maxRecDepth 100000
namespace WK
open PySem PySem.Spec PyProof.Rows L2

/-! ### heaps that go on -/
/-- all but p and c stays -/
def Off (p c : Addr) (H H' : Hp) : Prop := ∀ b o, b ≠ p → b ≠ c → H b = some o → H' b = some o
theorem Off.refl (p c : Addr) (H : Hp) : Off p c H H := fun _ _ _ _ h => h
theorem Off.trans {p c : Addr} {H H1 H2 : Hp} (a : Off p c H H1) (b : Off p c H1 H2) : Off p c H H2 := fun x o h1 h2 e => b x o h1 h2 (a x o h1 h2 e)
theorem Same.off {p c : Addr} {H H' : Hp} (a : Same H H') : Off p c H H' := fun b o _ _ e => a b o e
theorem same_new {H : Hp} {p : Addr} {o : HO} (h : H p = none) : Same H (upd H p o) := fun b x e => by
  rw [upd_ne (ne_of_none e h)]
  exact e
/-- a new object stands at p: go on with any heap that holds all that was, and it -/
theorem fresh {H : Hp} {p : Addr} {o : HO} {G : Hp → Prop} (np : H p = none) (k : ∀ H1, Same H H1 → H1 p = some o → G H1) : G (upd H p o) := k _ (same_new np) upd_same
theorem Off.at_p {p c : Addr} {H : Hp} {o : HO} : Off p c H (upd H p o) := fun b x h1 _ e => by
  rw [upd_ne h1]
  exact e
theorem Off.at_c {p c : Addr} {H : Hp} {o : HO} : Off p c H (upd H c o) := fun b x _ h2 e => by
  rw [upd_ne h2]
  exact e

/-! ### the source of draws -/
def srcK (c : Addr) (l m t : Int) : List (Key × V) := [(.inr "cells", .ref c), (.inr "left", .int l), (.inr "mixed", .int m), (.inr "turn", .int t)]
theorem k12 : ¬ (("cells" : Str) = "left") := by decide +kernel
theorem k13 : ¬ (("cells" : Str) = "mixed") := by decide +kernel
theorem k14 : ¬ (("cells" : Str) = "turn") := by decide +kernel
theorem k23 : ¬ (("left" : Str) = "mixed") := by decide +kernel
theorem k24 : ¬ (("left" : Str) = "turn") := by decide +kernel
theorem k34 : ¬ (("mixed" : Str) = "turn") := by decide +kernel
theorem kne {a b : Str} (h : ¬ a = b) : ¬ ((.inr a : Key) = .inr b) := fun e => h (Sum.inr.inj e)
section
variable {c : Addr} {l m t x : Int}
theorem src_cells : valV (srcK c l m t) (.inr "cells") = some (.ref c) := valV_pos rfl
theorem src_left : valV (srcK c l m t) (.inr "left") = some (.int l) := (valV_neg (kne k12)).trans (valV_pos rfl)
theorem src_mixed : valV (srcK c l m t) (.inr "mixed") = some (.int m) := (valV_neg (kne k13)).trans ((valV_neg (kne k23)).trans (valV_pos rfl))
theorem src_turn : valV (srcK c l m t) (.inr "turn") = some (.int t) := (valV_neg (kne k14)).trans ((valV_neg (kne k24)).trans ((valV_neg (kne k34)).trans (valV_pos rfl)))
theorem put_left : putK (srcK c l m t) (.inr "left") (.int x) = srcK c x m t := by
  simp [putK, srcK, k12, k13, k14, k23, k24, k34, Ne.symm k23, Ne.symm k24, Ne.symm k34]
theorem put_mixed : putK (srcK c l m t) (.inr "mixed") (.int x) = srcK c l x t := by
  simp [putK, srcK, k12, k13, k14, k23, k24, k34, Ne.symm k23, Ne.symm k24, Ne.symm k34]
theorem put_turn : putK (srcK c l m t) (.inr "turn") (.int x) = srcK c l m x := by
  simp [putK, srcK, k12, k13, k14, k23, k24, k34, Ne.symm k23, Ne.symm k24, Ne.symm k34]
end
/-- the source at p, its cells at c -/
structure Src (H : Hp) (p c : Addr) : Prop where
  ex : ∃ (cells : List Int) (l m t : Int), H p = some (.dK (srcK c l m t)) ∧ H c = some (.lst (cells.map V.int))
theorem Src.ne {H : Hp} {p c : Addr} (S : Src H p c) : p ≠ c := by
  obtain ⟨_, _, _, _, a, b⟩ := S.ex
  exact ne_of a b (by intro z; cases z)
theorem Src.same {H H' : Hp} {p c : Addr} (S : Src H p c) (s : Same H H') : Src H' p c := by
  obtain ⟨cells, l, m, t, a, b⟩ := S.ex
  exact ⟨cells, l, m, t, s _ _ a, s _ _ b⟩
theorem Src.ne_p {H : Hp} {p c a : Addr} (S : Src H p c) (n : H a = none) : a ≠ p := by
  obtain ⟨_, _, _, _, q, _⟩ := S.ex
  exact (ne_of_none q n).symm
theorem Src.ne_c {H : Hp} {p c a : Addr} (S : Src H p c) (n : H a = none) : a ≠ c := by
  obtain ⟨_, _, _, _, _, q⟩ := S.ex
  exact (ne_of_none q n).symm
theorem Src.tup_ne {H : Hp} {p c a : Addr} {xs : List V} (S : Src H p c) (n : H a = some (.tup xs)) : a ≠ p ∧ a ≠ c := by
  obtain ⟨_, _, _, _, q1, q2⟩ := S.ex
  exact ⟨ne_of n q1 (by intro z; cases z), ne_of n q2 (by intro z; cases z)⟩
theorem Off.tup {H H' : Hp} {p c a : Addr} {xs : List V} (o : Off p c H H') (S : Src H p c) (n : H a = some (.tup xs)) : H' a = some (.tup xs) :=
  o a _ (S.tup_ne n).1 (S.tup_ne n).2 n

/-! ### what the helpers promise -/
def spSource (K : PySem.W.Frag) : Sp := fun vs H Q _ => ∃ (a : Addr) (ns : List Int), vs = [.ref a] ∧ SqL K H a (ns.map V.int) ∧ ns.length ≤ 63 ∧
  ∀ H' p c, Src H' p c → Same H H' → H p = none → H c = none → Q (.ref p) H'
def spPick : Sp := fun vs H Q _ => ∃ (p c : Addr) (many : Int), vs = [.ref p, .int many] ∧ Src H p c ∧ many < 1073741824 ∧
  ∀ H' r, Src H' p c → Off p c H H' → 0 ≤ r → (r < many ∨ r = 0) → Q (.int r) H'
def spOf (K : PySem.W.Frag) : Sp := fun vs H Q _ => ∃ (p c l : Addr) (xs : List V), vs = [.ref p, .ref l] ∧ Src H p c ∧ (∀ H', Off p c H H' → SqL K H' l xs ∨ SqT K H' l xs) ∧ xs ≠ [] ∧ xs.length ≤ 100000 ∧
  ∀ H' x, x ∈ xs → Src H' p c → Off p c H H' → Q x H'

/-! ### data and heaps -/
mutual
theorem dp_same {K : PySem.W.Frag} {H H' : Hp} (s : Same H H') : ∀ (d : PyData) (v : V), Dp K H v d → Dp K H' v d
  | .none, _, h => by cases h; exact .non
  | .bool _, _, h => by cases h; exact .bl _
  | .int _, _, h => by cases h; exact .int _
  | .str _, _, h => by cases h; exact .str _
  | .list ds, _, h => by
    cases h with
    | lst a q => exact .lst (s.seq a) (dp_sameAll s ds _ q)
  | .tuple ds, _, h => by
    cases h with
    | tup a q =>
      refine .tup ?_ (dp_sameAll s ds _ q)
      rcases a with (a | ⟨o, a⟩) | a
      · exact .inl (.inl (s _ _ a))
      · exact .inl (.inr ⟨o, s _ _ a⟩)
      · exact .inr a
  | .dict _, _, h => by cases h
theorem dp_sameAll {K : PySem.W.Frag} {H H' : Hp} (s : Same H H') : ∀ (ds : List PyData) (vs : List V), DpAll K H vs ds → DpAll K H' vs ds
  | [], _, h => by cases h; exact .nil
  | d :: ds, _, h => by
    cases h with
    | cons a b => exact .cons (dp_same s d _ a) (dp_sameAll s ds _ b)
end
theorem dp_ints {K : PySem.W.Frag} {H : Hp} : ∀ ns : List Int, DpAll K H (ns.map V.int) (ns.map PyData.int)
  | [] => .nil
  | n :: ns => .cons (.int n) (dp_ints ns)
theorem dp_snoc {K : PySem.W.Frag} {H : Hp} : ∀ {vs : List V} {ds : List PyData} {v : V} {d : PyData}, DpAll K H vs ds → Dp K H v d → DpAll K H (vs ++ [v]) (ds ++ [d])
  | _, _, _, _, .nil, h => .cons h .nil
  | _, _, _, _, .cons a b, h => .cons a (dp_snoc b h)
theorem dp_len {K : PySem.W.Frag} {H : Hp} : ∀ {vs : List V} {ds : List PyData}, DpAll K H vs ds → vs.length = ds.length
  | _, _, .nil => rfl
  | _, _, .cons _ b => congrArg (· + 1) (dp_len b)
/-! ### small things -/
theorem int_at {ns : List Int} {i : Nat} {x : V} (h : (ns.map V.int)[i]? = some x) : ∃ z, ns[i]? = some z ∧ x = .int z := by
  rw [List.getElem?_map] at h
  obtain ⟨z, e, r⟩ := Option.map_eq_some_iff.mp h
  exact ⟨z, e, r.symm⟩
theorem mulr {i j : Int} (h : -(2 ^ 64) < j ∧ j < 2 ^ 64) : CMul i j := .inr h
theorem mull {i j : Int} (h : -(2 ^ 64) < i ∧ i < 2 ^ 64) : CMul i j := .inl h
theorem new_of {H H2 : Hp} {p : Addr} {o : HO} (e : upd H p o = H2) (np : H p = none) : Same H H2 ∧ H2 p = some o := by
  subst e
  exact ⟨same_new np, upd_same⟩
theorem chg {H H2 : Hp} {p : Addr} {o : HO} (e : upd H p o = H2) : H2 p = some o ∧ ∀ b, b ≠ p → H2 b = H b := by
  subst e
  exact ⟨upd_same, fun b h => upd_ne h⟩
theorem small63 {n : Nat} (h : n ≤ 63) : n < sizeLine := Nat.lt_of_le_of_lt h (by decide)
theorem abs_eq (z : Int) : (if z < 0 then -z else z) = (z.natAbs : Int) := by split <;> omega
theorem take_snoc {α β : Type} {xs : List α} {i : Nat} {z : α} (h : xs[i]? = some z) (f : α → β) : ((xs.take (i + 1)).map f) = (xs.take i).map f ++ [f z] := by
  rw [List.take_add_one, h, List.map_append]
  rfl
theorem yesT {σ : L2.St} {H : Hp} {A B : Bool → Hp → Prop} {s t : L2.St} (e : s = t) (h : A true H) : s = t ∧ tYes σ H fun b G => if b = true then A b G else B b G := ⟨e, h⟩
theorem ifT {A B : Prop} {c : Bool} (e : c = true) (h : A) : if c = true then A else B := by
  subst e
  exact h
theorem while3 {c : TT} {tb : TS} {D : Ends} {σ : L2.St} {H : Hp} (Pv : Nat → L2.St → Hp → Prop) (n : Nat) (h0 : Pv n σ H) (after : ∀ m σ H, Pv m σ H → D.nx σ H)
    (turn : (∀ m σ H, Pv m σ H → D.nx σ H) → ∀ m σ H, Pv m σ H → c σ H fun b H1 => if b = true then
      ∃ N : L2.St → Hp → Prop, (∀ σ' H', N σ' H' → ∃ m', m' < m ∧ Pv m' σ' H') ∧ tb { D with nx := N, ct := N, bk := D.nx } σ H1 else D.nx σ H1) : tWhile c tb D σ H :=
  ⟨Pv, ⟨n, h0⟩, turn after⟩
theorem src_get {H : Hp} {p : Addr} {kvs : List (Key × V)} {x : Str} {v : V} (h : H p = some (.dK kvs)) (e : valV kvs (.inr x) = some v) : DGet H p (.str x) (some v) := .inl ⟨kvs, .inr x, .inl h, rfl, e.symm⟩
theorem src_put {H H' : Hp} {p : Addr} {kvs kvs' : List (Key × V)} {x : Str} {v : V} (h : H p = some (.dK kvs)) (l : kvs.length = 4) (e : putK kvs (.inr x) v = kvs') (hH : H' = upd H p (.dK kvs')) : DPut H p (.str x) v H' :=
  .inl ⟨kvs, .inr x, h, rfl, by rw [l]; decide, by rw [e]; exact hH⟩
theorem fmod_bounds {a b : Int} (h : 0 < b) : 0 ≤ a.fmod b ∧ a.fmod b < b := by
  rw [Int.fmod_eq_emod_of_nonneg a (by omega)]
  exact ⟨Int.emod_nonneg _ (by omega), Int.emod_lt_of_pos _ h⟩
end WK
set_option Elab.async false
set_option linter.all false
set_option maxRecDepth 100000
namespace WK
open PySem PySem.Spec PyProof.Rows L2

/-! ### data that repr shows, and how long that is -/
mutual
def Lil : PyData → Prop
  | .none => True
  | .bool _ => True
  | .int i => i.natAbs < 10 ^ 150
  | .str x => ∀ c ∈ x.cps.toList, c < 16 ^ 8
  | .list xs => LilAll xs
  | .tuple xs => LilAll xs
  | .dict _ => False
def LilAll : List PyData → Prop
  | [] => True
  | x :: xs => Lil x ∧ LilAll xs
end
mutual
def cost : PyData → Nat
  | .none => 5
  | .bool _ => 5
  | .int _ => 151
  | .str x => 10 * x.length + 4
  | .list xs => costAll xs + 3
  | .tuple xs => costAll xs + 3
  | .dict _ => 0
def costAll : List PyData → Nat
  | [] => 0
  | x :: xs => cost x + 2 + costAll xs
end
theorem lil_int {i : Int} (h : i.natAbs < 10 ^ 150) : i.natAbs.log2 < 1920 := by
  by_cases h0 : i.natAbs = 0
  · rw [h0]; decide
  · exact (Nat.log2_lt h0).mpr (Nat.lt_of_lt_of_le h (by decide +kernel))
theorem shown_int {i : Int} (h : i.natAbs < 10 ^ 150) : (PyData.shown (.int i)).length ≤ 151 := by
  have e : PyData.shown (.int i) = Str.ofString (toString i) := rfl
  rw [e, PySem.ofString_length]
  exact int_text_length_le10 (k := 150) (by decide) h
mutual
theorem lil_show : ∀ d : PyData, Lil d → d.showable = true ∧ d.shown.length ≤ cost d
  | .none, _ => ⟨rfl, by decide⟩
  | .bool b, _ => ⟨rfl, by cases b <;> decide⟩
  | .int i, h => ⟨by simpa only [PyData.showable, decide_eq_true_eq] using lil_int (by simpa only [Lil] using h), shown_int (by simpa only [Lil] using h)⟩
  | .str x, h => ⟨rfl, by
      have e := StrLaws.reprText_len x (by simpa only [Lil] using h)
      simp only [PyData.shown, cost]
      omega⟩
  | .list xs, h => by
    obtain ⟨a, b⟩ := lil_showAll xs (by simpa only [Lil] using h)
    have l := listText_len_le (PyData.shownAll xs)
    have n := PyData.shownAll_length xs
    refine ⟨by simpa only [PyData.showable] using a, ?_⟩
    simp only [PyData.shown, cost]
    omega
  | .tuple xs, h => by
    obtain ⟨a, b⟩ := lil_showAll xs (by simpa only [Lil] using h)
    have l := tupleText_len_le (PyData.shownAll xs)
    have n := PyData.shownAll_length xs
    refine ⟨by simpa only [PyData.showable] using a, ?_⟩
    simp only [PyData.shown, cost]
    omega
  | .dict _, h => by simp only [Lil] at h
theorem lil_showAll : ∀ xs : List PyData, LilAll xs → PyData.showableAll xs = true ∧ ((PyData.shownAll xs).map (·.length)).sum + 2 * xs.length ≤ costAll xs
  | [], _ => ⟨rfl, by simp [PyData.shownAll, costAll]⟩
  | x :: xs, h => by
    have h' : Lil x ∧ LilAll xs := by simpa only [LilAll] using h
    obtain ⟨a, b⟩ := lil_show x h'.1
    obtain ⟨c, d⟩ := lil_showAll xs h'.2
    refine ⟨by simp only [PyData.showableAll, a, c, Bool.and_self], ?_⟩
    simp only [PyData.shownAll, costAll, List.map_cons, List.sum_cons, List.length_cons]
    omega
end
theorem shows_of {d : PyData} (h : Lil d) (hd : d.depth ≤ 20) (hc : cost d ≤ sizeLine) : Shows d :=
  ⟨(lil_show d h).1, hd, Nat.le_trans (lil_show d h).2 hc⟩
theorem lilAll_iff : ∀ {xs : List PyData}, LilAll xs ↔ ∀ x ∈ xs, Lil x
  | [] => by simp [LilAll]
  | x :: xs => by simp [LilAll, lilAll_iff (xs := xs)]
theorem costAll_le {c : Nat} : ∀ {xs : List PyData}, (∀ x ∈ xs, cost x ≤ c) → costAll xs ≤ xs.length * (c + 2)
  | [], _ => by simp [costAll]
  | x :: xs, h => by
    have h1 := h x (List.mem_cons_self ..)
    have h2 := costAll_le (xs := xs) fun y hy => h y (List.mem_cons_of_mem _ hy)
    simp only [costAll, List.length_cons, Nat.add_mul]
    omega
theorem depthAll_le {c : Nat} : ∀ {xs : List PyData}, (∀ x ∈ xs, x.depth ≤ c) → PyData.depthAll xs ≤ c
  | [], _ => by simp [PyData.depthAll]
  | x :: xs, h => by
    have h1 := h x (List.mem_cons_self ..)
    have h2 := depthAll_le (xs := xs) fun y hy => h y (List.mem_cons_of_mem _ hy)
    simp only [PyData.depthAll]
    omega
theorem canLayAll_iff : ∀ {xs : List PyData}, PyData.canLayAll0 xs = true ↔ ∀ x ∈ xs, x.canLay0 = true
  | [] => by simp [PyData.canLayAll0]
  | x :: xs => by simp [PyData.canLayAll0, canLayAll_iff (xs := xs)]
/-- a row of ints as data -/
abbrev intsD (ns : List Int) : List PyData := ns.map PyData.int
theorem lil_ints {ns : List Int} (h : ∀ n ∈ ns, n.natAbs < 10 ^ 150) : LilAll (intsD ns) := by
  rw [lilAll_iff]
  intro x hx
  obtain ⟨n, hn, rfl⟩ := List.mem_map.mp hx
  simpa only [Lil] using h n hn
theorem cost_ints {ns : List Int} : costAll (intsD ns) ≤ ns.length * 153 := by
  have := costAll_le (c := 151) (xs := intsD ns) (fun x hx => by
    obtain ⟨n, hn, rfl⟩ := List.mem_map.mp hx
    simp only [cost]
    omega)
  rw [List.length_map] at this
  exact this
theorem depth_ints {ns : List Int} : PyData.depthAll (intsD ns) = 0 := by
  have := depthAll_le (c := 0) (xs := intsD ns) (fun x hx => by
    obtain ⟨n, hn, rfl⟩ := List.mem_map.mp hx
    simp only [PyData.depth]
    omega)
  omega
theorem lay_ints {ns : List Int} : PyData.canLayAll0 (intsD ns) = true := by
  rw [canLayAll_iff]
  intro x hx
  obtain ⟨n, hn, rfl⟩ := List.mem_map.mp hx
  rfl
theorem shaped_list_ints {ns : List Int} : SeqAt.shaped (.list (intsD ns)) = true := by
  simp only [SeqAt.shaped, PyData.canLay0, lay_ints, PyData.depth, depth_ints]
  decide
theorem shaped_tup_ints {ns : List Int} : SeqAt.shaped (.tuple (intsD ns)) = true := by
  simp only [SeqAt.shaped, PyData.canLay0, lay_ints, PyData.depth, depth_ints]
  decide
theorem eqv_nil {ns : List Int} : PyData.eqv (.list (intsD ns)) (.list []) = decide (ns = []) := by
  cases ns with
  | nil => simp [PyData.eqv, PyData.eqvAll]
  | cons n ns => simp [PyData.eqv, PyData.eqvAll]
theorem nul_ints {K : PySem.W.Frag} {H : Hp} {a : Addr} {ns : List Int} (h : H a = some (.lst (ns.map V.int))) : Dp K H (.ref a) (.list (intsD ns)) := .lst (.inl (.inl h)) (dp_ints ns)

/-! ### slices -/
theorem cut_take {xs : List V} {k : Nat} : cutV xs none (some (k : Int)) = xs.take k := by
  unfold cutV
  rw [HT.sIx_nat, HT.sIx_none, List.drop_zero, Nat.sub_zero, List.take_eq_take_iff]
  omega
theorem cut_drop1 {xs : List V} : cutV xs (some 1) none = xs.drop 1 := by
  unfold cutV
  rw [show HT.sIx xs.length 0 (some 1) = min 1 xs.length from HT.sIx_nat xs.length 0 1, HT.sIx_none]
  cases xs with
  | nil => rfl
  | cons x r =>
    have e : min 1 (x :: r).length = 1 := by simp only [List.length_cons]; omega
    rw [e, List.drop_one, List.tail_cons, List.length_cons, Nat.add_sub_cancel, List.take_length]
theorem Off.new {p c a : Addr} {H H1 : Hp} {o : HO} (s : Off p c H H1) (n : H a = none) : Off p c H (upd H1 a o) := fun b x h1 h2 e => by
  rw [upd_ne (ne_of_none e n)]
  exact s b x h1 h2 e
theorem Off.free {p c a : Addr} {H H1 : Hp} (s : Off p c H H1) (n : H1 a = none) (h1 : a ≠ p) (h2 : a ≠ c) : H a = none := by
  match q : H a with
  | none => rfl
  | some o =>
    have := s a o h1 h2 q
    rw [n] at this
    exact nomatch this
theorem Src.free {p c a : Addr} {H H1 : Hp} (s : Off p c H H1) (S : Src H1 p c) (n : H1 a = none) : H a = none := s.free n (S.ne_p n) (S.ne_c n)
theorem Src.upd_new {p c a : Addr} {H : Hp} {o : HO} (S : Src H p c) (h1 : a ≠ p) (h2 : a ≠ c) : Src (upd H a o) p c := by
  obtain ⟨cells, l, m, t, e1, e2⟩ := S.ex
  exact ⟨cells, l, m, t, by rw [upd_ne h1.symm]; exact e1, by rw [upd_ne h2.symm]; exact e2⟩
def spDraw : Sp := fun vs H Q _ => ∃ (p c : Addr) (ticks : Nat) (most : Int), vs = [.ref p, .int ticks, .int most] ∧ Src H p c ∧ ticks ≤ 1000 ∧ 1 ≤ most ∧ most < 1000000000 ∧
  ∀ (H' : Hp) (t : Addr) (ns : List Int), Src H' p c → Off p c H H' → H' t = some (.tup (ns.map V.int)) → H t = none → ns.length = ticks → (∀ z ∈ ns, 0 ≤ z ∧ z ≤ most) → Q (.ref t) H'
theorem while4 {c : TT} {tb : TS} {D : Ends} {σ : L2.St} {H : Hp} (Pv : Nat → L2.St → Hp → Prop) (Pa : L2.St → Hp → Prop) (n : Nat) (h0 : Pv n σ H) (after : ∀ σ H, Pa σ H → D.nx σ H)
    (turn : (∀ σ H, Pa σ H → D.nx σ H) → ∀ m σ H, Pv m σ H → c σ H fun b H1 => if b = true then
      ∃ N : L2.St → Hp → Prop, (∀ σ' H', N σ' H' → ∃ m', m' < m ∧ Pv m' σ' H') ∧ tb { D with nx := N, ct := N, bk := D.nx } σ H1 else D.nx σ H1) : tWhile c tb D σ H :=
  ⟨Pv, ⟨n, h0⟩, turn after⟩
theorem rep1 {z : Int} : ∀ {k : Nat}, (List.replicate k [V.int z]).flatten = (List.replicate k z).map V.int
  | 0 => rfl
  | k + 1 => by
    rw [List.replicate_succ, List.flatten_cons, rep1, List.replicate_succ, List.map_cons]
    rfl
theorem many_small {n : Nat} (h : n ≤ 100000) : n < sizeLine := Nat.lt_of_le_of_lt h (by decide)
theorem tif_R {t : TT} {ta tb : TE} {σ : L2.St} {H : Hp} {Q : VK} (R : V → Hp → Prop) (key : ∀ v H, R v H → Q v H) (h : ∀ Q' : VK, (∀ v H, R v H → Q' v H) → tIf t ta tb σ H Q') : tIf t ta tb σ H Q := h Q key
end WK
set_option Elab.async false
set_option linter.all false
set_option maxRecDepth 100000
namespace WK
open PySem PySem.Spec PyProof.Rows L2
open AutoSeq1 (wpAny_loadPart')

/-! ### enumerate of a tuple -/
def it_obj (t : Addr) : Obj := { cls := .type "tuple_iterator", data := .fields #[.ref t, .int 0 0] }
def en_obj (i : Addr) : Obj := { cls := .type "enumerate", data := .fields #[.none, .bool false, .ref i, rawInt 0, .none, .none] }
def enum_heap (h : Heap) (t : Addr) : Heap := (h.push (it_obj t)).push (en_obj h.objs.size)
theorem enum_make (t : Addr) (its : Array Value) (n : Nat) (dct : Option Addr) (sl : Array (Option Value)) :
    Meets (Builtin.«enumerate.__new__» ⟨[.type "enumerate", .ref t], []⟩)
      (fun _ R s => s.heap.get? t = some { cls := .type "tuple", dict := dct, data := .seq its n, slots := sl } ∧
        R (.ok (.ret (.ref (s.heap.push (it_obj t)).objs.size)))
          { s with heap := enum_heap s.heap t }) :=
  .of_wp fun prog w A R s h => by
    obtain ⟨hp, g, d, tk, os⟩ := s
    obtain ⟨ht, h⟩ := h
    have hsub := sub_enumerate
    have tup : Heap.IsTuple (Shared.heap ⟨hp, g, d, tk, os⟩) t its := ⟨_, ht, rfl, n, rfl⟩
    wp_walk using wpAny_loadPart' ht
    refine wpAny_stack_any fun st => wpAny_pure ?_
    split
    · rename_i c _ _ _ _ _
      cases (c == Value.type "enumerate")
      · wp_walk using wpAny_loadPart' ht, wpAny_pyIter_tuple tup
        exact ⟨_, rfl, h⟩
      · wp_walk using wpAny_loadPart' ht, wpAny_pyIter_tuple tup
        exact ⟨_, rfl, h⟩
    · wp_walk using wpAny_loadPart' ht, wpAny_pyIter_tuple tup
      exact ⟨_, rfl, h⟩
section
variable {prog : Program} {w : World} {A : Around} {E : Value → Shared → Prop} {s : Shared}
theorem call_enumT {t : Addr} {its : Array Value} {Q : Value → Shared → Prop} (tup : s.heap.IsTuple t its)
    (h : ∀ h', IsEnum h' (s.heap.objs.size + 1) s.heap.objs.size 0 .none → h'.IsTupleIter s.heap.objs.size t 0 →
      (∀ b o, s.heap.get? b = some o → h'.get? b = some o) → Q (.ref (s.heap.objs.size + 1)) { s with heap := h' }) :
    wpAny (model prog w) A (call (.type "enumerate") [.ref t]) Q E s := by
  obtain ⟨⟨c, dct, dt, sl⟩, ht, hc, n, hd⟩ := tup
  have hc : c = .type "tuple" := hc
  have hd : dt = .seq its n := hd
  subst hc
  subst hd
  have size1 : (s.heap.push (it_obj t)).objs.size = s.heap.objs.size + 1 := Heap.size_push ..
  have en : (enum_heap s.heap t).get? (s.heap.objs.size + 1) = some (en_obj s.heap.objs.size) := by
    have := Heap.get?_push_size (s.heap.push (it_obj t)) (o := en_obj s.heap.objs.size) rfl
    rw [size1] at this
    exact this
  refine callType_new F.called_enumerate (by decide) (F.typeCall_enumerate_1 _) (F.newCall_enumerate_1 _)
    (fun obj => F.args_object_init_2 obj _) F.entry_enumerate_new (enum_make t its n dct sl) ⟨ht, ?_⟩
  show _ ∧ _
  rw [size1]
  refine ⟨⟨_, en, rfl⟩, h _ en ?_ ?_⟩
  · exact ⟨_, Heap.get?_push_of_some _ (Heap.get?_push_size _ rfl), rfl, rfl⟩
  · intro b o x
    exact Heap.get?_push_of_some _ (Heap.get?_push_of_some _ x)
end

/-- the tuple at a as it stands, each item with its number in a new pair -/
def IteT (K : PySem.W.Frag) (a : Addr) : It :=
  ⟨fun i H => ∃ (xs : List V) (x : V), SqT K H a xs ∧ xs[i]? = some x,
   fun i H v H' => ∃ T x, v = .ref T ∧ H T = none ∧ H' = upd H T (.tup [.int (i : Nat), x]) ∧ ∀ xs, SqT K H a xs → xs[i]? = some x,
   fun i H => ∃ xs : List V, SqT K H a xs ∧ xs.length ≤ i⟩
theorem turn_enumT {P : Program} {w : World} {K : PySem.W.Frag} {elts : List Expr} {kk : Nat} {tpos : Pos} (a e it : Addr) :
    Turn P w K (.Tuple elts kk tpos) (IteT K a) [e, it] e
      (fun i h => (∃ old, IsEnum h e it ((i : Nat) : Int) old) ∧ h.IsTupleIter it a i ∧ e ≠ it) where
  mem := by simp
  obj := by
    rintro i h ⟨⟨old, he⟩, ⟨o, ho, hc, hd⟩, _⟩ b hb
    rcases List.mem_cons.mp hb with z | z
    · rw [z]
      exact ⟨_, he, fun v q => nomatch q⟩
    · rw [List.mem_singleton.mp z]
      exact ⟨o, ho, fun v q => by rw [hd] at q; exact nomatch q⟩
  keep := by
    rintro i h h' ⟨⟨old, he⟩, hi, hne⟩ k
    exact ⟨⟨old, k e (by simp) _ he⟩, hi.at (fun o q => k it (by simp) o q), hne⟩
  item := by
    intro X hP hw hK hc i pins s σ H E I hf st hg
    subst hP hw hK
    obtain ⟨⟨old, he⟩, hit, hne⟩ := st
    obtain ⟨xs, x, hq, hx⟩ := hg
    obtain ⟨its, rv, tp, _⟩ := I.tuple hq
    obtain ⟨u, hu, ru⟩ := rv.get hx
    have le : e < s.heap.objs.size := Heap.lt_size he
    have li : it < s.heap.objs.size := by
      obtain ⟨_, q, _⟩ := hit
      exact Heap.lt_size q
    have ait : a ≠ it := by
      rintro rfl
      obtain ⟨o1, q1, c1, _⟩ := tp
      obtain ⟨o2, q2, c2, _⟩ := hit
      rw [q1] at q2
      injection q2 with q2
      subst q2
      rw [c1] at c2
      injection c2 with c2
      exact absurd c2 (by decide)
    have ae : e ≠ a := by
      rintro rfl
      obtain ⟨o1, q1, c1, _⟩ := tp
      have he' : s.heap.get? e = some _ := he
      rw [he'] at q1
      injection q1 with q1
      subst q1
      injection c1 with c1
      exact absurd c1 (by decide)
    have szI : i < its.toArray.size := by
      rw [List.size_toArray]
      exact (List.getElem?_eq_some_iff.mp hu).1
    refine wpAny_pyNext_enum_itemD (Draws.tuple (A := X.A.in1) (I.ok.hd hc) it a ait its.toArray) he ⟨hit, tp⟩ szI hne (by simp [hne, ae]) ?_
    intro x' h' tk px out st' hT hsz hk
    have hxx : its.toArray[i]? = some x' := px
    have exu : x' = u := by
      rw [List.getElem?_toArray, hu] at hxx
      injection hxx with z
      exact z.symm
    subst exu
    refine ⟨_, rfl, wpAny_letOwnedTupleGo_enum (s := { s with heap := h', toks := tk + 1 }) out ?_⟩
    intro h'' he' sb
    have T2 : h''.get? s.heap.objs.size = some { cls := .type "tuple", data := .seq #[.int i tk, x'] } := (sb.2 _ (Nat.ne_of_gt le)).trans hT
    have new : ObjOk X.prog X.w (upd H s.heap.objs.size (.tup [.int (i : Nat), x])) h'' s.heap.objs.size (.tup [.int (i : Nat), x]) := by
      refine ⟨by show 2 ≤ sizeLine; decide, [.int i tk, x'], .cons ⟨_, rfl⟩ (.cons ru .nil), ⟨_, T2, rfl, _, rfl⟩⟩
    have I1 : Inv X pins σ (upd H s.heap.objs.size (.tup [.int (i : Nat), x])) { s with heap := h'', toks := tk + 1 } := by
      refine I.turnedNew (ch := [e, it]) ?_ hf (Nat.le_refl _) new
      intro b o hb q
      have b1 : b ≠ e := fun z => hb (by simp [z])
      have b2 : b ≠ it := fun z => hb (by simp [z])
      exact (sb.2 b b1).trans (hk b o b1 b2 q)
    refine ⟨.ref s.heap.objs.size, _, I1, rfl, ?_, ⟨⟨x', ?_⟩, ?_, hne⟩, ?_⟩
    · refine ⟨_, x, rfl, I.hok.fresh (Nat.le_refl _), rfl, ?_⟩
      intro ys hy
      rw [I.tuple_inj hy hq]
      exact hx
    · have e1 : ((i + 1 : Nat) : Int) = (i : Int) + 1 := by omega
      rw [e1]
      exact he'
    · exact st'.1.at fun o q => (sb.2 it (Ne.symm hne)).trans q
    · intro b hb
      have lb : b < s.heap.objs.size := by
        rcases List.mem_cons.mp hb with z | z
        · rw [z]; exact le
        · rw [List.mem_singleton.mp z]; exact li
      rw [upd_ne (Nat.ne_of_lt lb)]
      exact (hf b hb).1
  done := by
    intro X hP hw hK hc i pins s σ H E I hf st hg
    subst hP hw hK
    obtain ⟨⟨old, he⟩, hit, hne⟩ := st
    obtain ⟨xs, hq, hx⟩ := hg
    obtain ⟨its, rv, tp, _⟩ := I.tuple hq
    have hl := rv.length
    have over : its.toArray[i + 0]? = none := by
      rw [List.getElem?_toArray]
      exact List.getElem?_eq_none_iff.mpr (by omega)
    have D0 : Draws X.prog X.w X.A.in1 it [it, a] 0 (fun _ _ => False) (fun j h => h.IsTupleIter it a (i + j) ∧ h.IsTuple a its.toArray) :=
      { live := fun _ _ z => by
          obtain ⟨o, ho, _⟩ := z.1
          exact ⟨o, ho⟩
        frame := fun _ _ _ z hk => ⟨z.1.at (fun o e => hk it (by simp) o e), z.2.at (fun o e => hk a (by simp) o e)⟩
        item := fun _ _ _ _ z => absurd z (Nat.not_lt_zero _)
        done := fun s Q E z hE => wpAny_nextOf_tuple_end (I.ok.hd hc) z.1 z.2 over hE }
    obtain ⟨f0, f1, f2, f3, f4, f5⟩ := hf it (by simp)
    refine wpAny_pyNext_enum_endD D0 he ⟨hit, tp⟩ ?_
    intro h' eb
    exact ⟨rfl, I.turned (t' := s.toks) (fun b o hb q => eb b o hb q) f0 f1 f3 f4 f5⟩
  self := fun A i s Q E st h => by
    obtain ⟨⟨_, he⟩, _⟩ := st
    exact wpAny_pyIter_enum he h
def iEnumT (K : PySem.W.Frag) (ta : TA) : TI := fun σ H R => ta σ H fun vs H1 => ∃ a xs, vs = [.ref a] ∧ SqT K H1 a xs ∧ R (IteT K a) H1
theorem pi_enumT {X : Cx} {e : Expr} {ta : TA} {p pos tpos : Pos} {elts : List Expr} {kk : Nat} (hg : Gl X "enumerate") (hm : X.mg "enumerate" = none) (ha : PA X [e] ta)
    (hs : starEach [e] X.env = [(false, eval e X.env)] := by rfl) :
    PI X (.Tuple elts kk tpos) (.Call (.Name "enumerate" p) [e] [] pos) (iEnumT X.K ta) := by
  constructor
  intro pins s σ H R I h
  have go := ha.run pos pins s σ H _ I h
  refine Call_ (ld_blt I hg hm boot_enumerate (PyProof.Rows.callWith_type1 (thn go ?_) hs rfl))
  rintro us s1 ⟨vs, H1, I1, r1, a, xs, rfl, hq, q⟩
  obtain ⟨u, rfl, r⟩ := vals1 r1
  cases r
  obtain ⟨its, rv, tp, _⟩ := I1.tuple hq
  refine call_enumT tp ?_
  intro h' en hit hk
  refine wpAny_pyIter_enum en ?_
  have I2 : Inv X pins σ H1 { s1 with heap := h' } := I1.kept (t' := s1.toks) hk
  refine ⟨s1.heap.objs.size + 1, [s1.heap.objs.size + 1, s1.heap.objs.size], _, _, H1, rfl, I2,
    turn_enumT a (s1.heap.objs.size + 1) s1.heap.objs.size, ⟨⟨.none, en⟩, hit, Nat.succ_ne_self _⟩, ?_, q⟩
  intro b hb
  have le : s1.heap.objs.size ≤ b := by
    rcases List.mem_cons.mp hb with z | z
    · rw [z]; exact Nat.le_add_right _ _
    · rw [List.mem_singleton.mp z]; exact Nat.le_refl _
  exact I1.fpOk le (I1.hok.fresh le)
theorem walk_enumT {K : PySem.W.Frag} {a : Addr} {xs : List V} : Walk (IteT K a) xs.length (fun H => SqT K H a xs) (YPair (fun i => some (.int (i : Nat))) (fun i => xs[i]?)) := by
  constructor
  · intro i H hi q
    exact ⟨xs, xs[i], q, by simp [hi]⟩
  · intro H q
    exact ⟨xs, q, Nat.le_refl _⟩
  · rintro i H v H' _ q ⟨T, x, h1, h2, h3, h4⟩
    exact ⟨T, .int (i : Nat), x, h1, h2, h3, rfl, h4 xs q⟩
end WK
set_option Elab.async false
set_option linter.all false
set_option maxRecDepth 100000
namespace WK
open PySem PySem.Spec PyProof.Rows L2
/-! ### layers and gaps -/
def layerL (ns : List Int) (k : Int) : List Int := ns.map fun x => if k ≤ x then 1 else 0
def onL (ns : List Int) (k : Int) (i : Nat) : List Int := ((List.range i).filter fun t => decide (k ≤ ns.getD t 0)).map fun (t : Nat) => (t : Int)
def pairsL (os : List Int) (i : Nat) : List (Int × Int) := ((List.range i).filter fun j => decide (1 < os.getD (j + 1) 0 - os.getD j 0)).map fun j => (os.getD j 0 + 1, os.getD (j + 1) 0 - os.getD j 0 - 1)
def prD (p : Int × Int) : PyData := .tuple [.int p.1, .int p.2]
def gapsL (ns : List Int) (k : Int) : List (Int × Int) := pairsL (onL ns k ns.length) ((onL ns k ns.length).length - 1)
theorem getD_of {ns : List Int} {i : Nat} {x : Int} (h : ns[i]? = some x) : ns.getD i 0 = x := by
  rw [List.getD_eq_getElem?_getD, h]
  rfl
theorem onL_yes {ns : List Int} {k x : Int} {i : Nat} (h : ns[i]? = some x) (hk : k ≤ x) : onL ns k (i + 1) = onL ns k i ++ [(i : Int)] := by
  unfold onL
  rw [List.range_succ, List.filter_append, List.map_append, List.filter_cons, if_pos (by rw [getD_of h]; exact decide_eq_true hk)]
  rfl
theorem onL_no {ns : List Int} {k x : Int} {i : Nat} (h : ns[i]? = some x) (hk : ¬ k ≤ x) : onL ns k (i + 1) = onL ns k i := by
  unfold onL
  rw [List.range_succ, List.filter_append, List.map_append, List.filter_cons, if_neg (by rw [getD_of h]; simpa using hk)]
  simp
theorem onL_len {ns : List Int} {k : Int} {i : Nat} : (onL ns k i).length ≤ i := by
  unfold onL
  rw [List.length_map]
  refine Nat.le_trans (List.length_filter_le _ (List.range i)) ?_
  rw [List.length_range]
  exact Nat.le_refl _
theorem pairsL_yes {os : List Int} {a b : Int} {i : Nat} (h : os[i]? = some a) (h1 : os[i + 1]? = some b) (hk : 1 < b - a) : pairsL os (i + 1) = pairsL os i ++ [(a + 1, b - a - 1)] := by
  unfold pairsL
  rw [List.range_succ, List.filter_append, List.map_append, List.filter_cons, if_pos (by rw [getD_of h, getD_of h1]; exact decide_eq_true hk)]
  simp only [List.filter_nil, List.map_cons, List.map_nil, getD_of h, getD_of h1]
theorem pairsL_no {os : List Int} {a b : Int} {i : Nat} (h : os[i]? = some a) (h1 : os[i + 1]? = some b) (hk : ¬ 1 < b - a) : pairsL os (i + 1) = pairsL os i := by
  unfold pairsL
  rw [List.range_succ, List.filter_append, List.map_append, List.filter_cons, if_neg (by rw [getD_of h, getD_of h1]; simpa using hk)]
  simp
theorem pairsL_len {os : List Int} {i : Nat} : (pairsL os i).length ≤ i := by
  unfold pairsL
  rw [List.length_map]
  refine Nat.le_trans (List.length_filter_le _ (List.range i)) ?_
  rw [List.length_range]
  exact Nat.le_refl _
/-- pairs stand, whatever list is stored -/
theorem dp_pairs_upd {K : PySem.W.Frag} {H : Hp} {a : Addr} {xs ys : List V} : ∀ {ps : List (Int × Int)} {ws : List V}, DpAll K H ws (ps.map prD) → H a = some (.lst xs) → DpAll K (upd H a (.lst ys)) ws (ps.map prD)
  | [], _, h, _ => by
    cases h
    exact .nil
  | p :: ps, _, h, ha => by
    cases h with
    | cons h1 h2 =>
      refine .cons ?_ (dp_pairs_upd h2 ha)
      cases h1 with
      | @tup a' xs' ds' h3 h4 =>
        have h5 : DpAll K (upd H a (.lst ys)) xs' [PyData.int p.1, PyData.int p.2] := by
          cases h4 with
          | cons q1 q2 =>
            cases q1
            cases q2 with
            | cons q3 q4 =>
              cases q3
              cases q4
              exact .cons (.int _) (.cons (.int _) .nil)
        refine .tup ?_ h5
        rcases h3 with (h3 | ⟨o, h3⟩) | h3
        · exact .inl (.inl (by rw [upd_ne (ne_of h3 ha (by intro z; cases z))]; exact h3))
        · exact .inl (.inr ⟨o, by rw [upd_ne (ne_of h3 ha (by intro z; cases z))]; exact h3⟩)
        · exact .inr h3
def spLayer : Sp := fun vs H Q _ => ∃ (t : Addr) (k : Int) (ns : List Int), vs = [.ref t, .int k] ∧ H t = some (.tup (ns.map V.int)) ∧ ns.length ≤ 5000 ∧
  ∀ H' u, Same H H' → H u = none → H' u = some (.tup ((layerL ns k).map V.int)) → Q (.ref u) H'
def spGaps (K : PySem.W.Frag) : Sp := fun vs H Q _ => ∃ (t : Addr) (k : Int) (ns : List Int), vs = [.ref t, .int k] ∧ H t = some (.tup (ns.map V.int)) ∧ ns.length ≤ 5000 ∧
  ∀ H' g ws, Same H H' → H g = none → H' g = some (.lst ws) → DpAll K H' ws ((gapsL ns k).map prD) → Q (.ref g) H'
end WK
namespace WK
open PySem PySem.Spec PyProof.Rows L2
def lgD (ns : List Int) (k : Int) : PyData := .list [.tuple (intsD (layerL ns k)), .list ((gapsL ns k).map prD)]
theorem layerL_len {ns : List Int} {k : Int} : (layerL ns k).length = ns.length := List.length_map ..
theorem layerL_small {ns : List Int} {k : Int} : ∀ z ∈ layerL ns k, z.natAbs < 10 ^ 150 := by
  intro z hz
  obtain ⟨x, _, rfl⟩ := List.mem_map.mp hz
  have e : (1 : Nat) < 10 ^ 150 := by decide +kernel
  split <;> omega
theorem onL_mem {ns : List Int} {k : Int} {i : Nat} : ∀ z ∈ onL ns k i, 0 ≤ z ∧ z < i := by
  intro z hz
  obtain ⟨t, ht, rfl⟩ := List.mem_map.mp hz
  have := List.mem_range.mp (List.mem_filter.mp ht).1
  omega
theorem getD_mem {os : List Int} {j : Nat} {n : Nat} (h : ∀ z ∈ os, 0 ≤ z ∧ z < (n : Int)) : 0 ≤ os.getD j 0 ∧ os.getD j 0 ≤ n := by
  rw [List.getD_eq_getElem?_getD]
  match e : os[j]? with
  | none => exact ⟨Int.le_refl _, Int.natCast_nonneg _⟩
  | some z =>
    have := h z (List.mem_of_getElem? e)
    exact ⟨this.1, Int.le_of_lt this.2⟩
theorem gapsL_small {ns : List Int} {k : Int} (hl : ns.length ≤ 5000) : ∀ p ∈ gapsL ns k, p.1.natAbs < 10 ^ 150 ∧ p.2.natAbs < 10 ^ 150 := by
  intro p hp
  obtain ⟨j, _, rfl⟩ := List.mem_map.mp hp
  have a := getD_mem (j := j) (onL_mem (ns := ns) (k := k) (i := ns.length))
  have b := getD_mem (j := j + 1) (onL_mem (ns := ns) (k := k) (i := ns.length))
  have e : (20000 : Nat) < 10 ^ 150 := by decide +kernel
  constructor <;> (show Int.natAbs _ < _) <;> omega
theorem gapsL_len {ns : List Int} {k : Int} : (gapsL ns k).length ≤ ns.length := by
  refine Nat.le_trans pairsL_len ?_
  have := onL_len (ns := ns) (k := k) (i := ns.length)
  omega
theorem lil_pairs {ps : List (Int × Int)} (h : ∀ p ∈ ps, p.1.natAbs < 10 ^ 150 ∧ p.2.natAbs < 10 ^ 150) : LilAll (ps.map prD) := by
  rw [lilAll_iff]
  intro x hx
  obtain ⟨p, hp, rfl⟩ := List.mem_map.mp hx
  simpa only [prD, Lil, LilAll, and_true] using h p hp
theorem cost_pairs {ps : List (Int × Int)} : costAll (ps.map prD) ≤ ps.length * 311 := by
  have := costAll_le (c := 309) (xs := ps.map prD) (fun x hx => by
    obtain ⟨p, hp, rfl⟩ := List.mem_map.mp hx
    simp only [prD, cost, costAll]
    omega)
  rw [List.length_map] at this
  exact this
theorem depth_pairs {ps : List (Int × Int)} : PyData.depthAll (ps.map prD) ≤ 1 :=
  depthAll_le fun x hx => by
    obtain ⟨p, hp, rfl⟩ := List.mem_map.mp hx
    simp only [prD, PyData.depth, PyData.depthAll]
    omega
theorem lg_shows {ns : List Int} {k : Int} (hl : ns.length ≤ 1000) : Shows (lgD ns k) := by
  have dp := depth_pairs (ps := gapsL ns k)
  have ci := cost_ints (ns := layerL ns k)
  have cp := cost_pairs (ps := gapsL ns k)
  have l1 := layerL_len (ns := ns) (k := k)
  have l2 := gapsL_len (ns := ns) (k := k)
  refine shows_of ?_ ?_ ?_
  · simp only [lgD, Lil, LilAll, and_true]
    exact ⟨lil_ints layerL_small, lil_pairs (gapsL_small (by omega))⟩
  · simp only [lgD, PyData.depth, PyData.depthAll, depth_ints]
    omega
  · simp only [lgD, cost, costAll]
    rw [l1] at ci
    refine Nat.le_trans (show _ ≤ 500000 by omega) (by decide)
theorem lg_dp {K : PySem.W.Frag} {H : Hp} {l u g : Addr} {ns : List Int} {k : Int} {ws : List V} (hl : H l = some (.lst [.ref u, .ref g])) (hu : H u = some (.tup ((layerL ns k).map V.int)))
    (hg : H g = some (.lst ws)) (hw : DpAll K H ws ((gapsL ns k).map prD)) : Dp K H (.ref l) (lgD ns k) :=
  .lst (.inl (.inl hl)) (.cons (.tup (.inl (.inl hu)) (dp_ints _)) (.cons (.lst (.inl (.inl hg)) hw) .nil))
theorem shows_row {ns : List Int} (h : ∀ z ∈ ns, z.natAbs < 10 ^ 150) (hl : ns.length ≤ 5000) : Shows (.tuple (intsD ns)) := by
  have ci := cost_ints (ns := ns)
  refine shows_of (by simpa only [Lil] using lil_ints h) ?_ ?_
  · simp only [PyData.depth, depth_ints]
    omega
  · simp only [cost]
    refine Nat.le_trans (show _ ≤ 1000000 by omega) (by decide)
theorem row_dp {K : PySem.W.Frag} {H : Hp} {t : Addr} {ns : List Int} (h : H t = some (.tup (ns.map V.int))) : Dp K H (.ref t) (.tuple (intsD ns)) := .tup (.inl (.inl h)) (dp_ints _)
end WK
namespace WK
open PySem PySem.Spec PyProof.Rows L2
/-- the heap without what stands at D -/
def era (H : Hp) (D : Addr) : Hp := fun b => if b = D then none else H b
theorem era_ne {H : Hp} {D b : Addr} (h : b ≠ D) : era H D b = H b := if_neg h
theorem era_some {H : Hp} {D b : Addr} {o : HO} (h : era H D b = some o) : H b = some o := by
  by_cases e : b = D
  · have : era H D b = none := if_pos e
    rw [this] at h
    exact nomatch h
  · exact (era_ne (H := H) e).symm.trans h
theorem era_same (H : Hp) (D : Addr) : Same (era H D) H := fun _ _ h => era_some h
theorem era_upd {H : Hp} {D : Addr} {o : HO} : era (upd H D o) D = era H D := by
  funext b
  by_cases e : b = D
  · rw [e]; exact (if_pos rfl).trans (if_pos rfl).symm
  · rw [era_ne e, era_ne e, upd_ne e]
theorem era_mono {H H' : Hp} {D : Addr} (s : Same H H') : Same (era H D) (era H' D) := fun b o h => by
  by_cases e : b = D
  · have : era H D b = none := if_pos e
    rw [this] at h
    exact nomatch h
  · rw [era_ne e] at h ⊢
    exact s _ _ h
theorem dp_pairs_era {K : PySem.W.Frag} {H : Hp} {a : Addr} {xs : List V} : ∀ {ps : List (Int × Int)} {ws : List V}, DpAll K H ws (ps.map prD) → H a = some (.lst xs) → DpAll K (era H a) ws (ps.map prD)
  | [], _, h, _ => by
    cases h
    exact .nil
  | p :: ps, _, h, ha => by
    cases h with
    | cons h1 h2 =>
      refine .cons ?_ (dp_pairs_era h2 ha)
      cases h1 with
      | @tup a' xs' ds' h3 h4 =>
        have h5 : DpAll K (era H a) xs' [PyData.int p.1, PyData.int p.2] := by
          cases h4 with
          | cons q1 q2 =>
            cases q1
            cases q2 with
            | cons q3 q4 =>
              cases q3
              cases q4
              exact .cons (.int _) (.cons (.int _) .nil)
        refine .tup ?_ h5
        rcases h3 with (h3 | ⟨o, h3⟩) | h3
        · exact .inl (.inl ((era_ne (ne_of h3 ha (by intro z; cases z))).trans h3))
        · exact .inl (.inr ⟨o, (era_ne (ne_of h3 ha (by intro z; cases z))).trans h3⟩)
        · exact .inr h3
end WK
set_option Elab.async false
set_option linter.all false
set_option maxRecDepth 100000
namespace WK
open PySem PySem.Spec PyProof.Rows L2

/-! ### sum of a tuple -/
def rSumT (K : PySem.W.Frag) : List V → Hp → VK → Prop := fun vs H Q => ∃ (a : Addr) (ns : List Int), vs = [V.ref a] ∧ SqT K H a (ns.map V.int) ∧ Q (.int ns.sum) H
theorem cr_sumT {X : Cx} (hc : X.calm = true) : CallR X (.builtin "sum") (rSumT X.K) := by
  rintro pins s σ H vs us Q I r ⟨a, ns, rfl, hs, q⟩
  obtain ⟨its, rv, tp, _⟩ := I.tuple hs
  rw [Vals.ref1 r]
  have hi := rv.ints
  obtain ⟨xs, e⟩ := hi.allInts.items
  have hn : numsOf (intItems xs).toList = ns := by
    rw [← e]
    exact hi.numsOf
  rw [nums_intItems] at hn
  rw [e] at tp
  have tp' : s.heap.IsTuple a (intItems xs) := tp
  have lt : a < s.heap.objs.size := by
    obtain ⟨_, g, _⟩ := tp
    exact Heap.lt_size g
  refine call_sum_walkG (wpAny_pyIter_tuple tp' ?_)
  refine ⟨s.heap.objs.size, [s.heap.objs.size, a], [s.heap.objs.size], _, _, _, numAt xs, rfl,
    Walks.tuple (A := X.A.in1) (I.ok.hd hc) s.heap.objs.size a (Nat.ne_of_lt lt) (intItems xs),
    ⟨⟨_, Heap.get?_push_size _ rfl, rfl, rfl⟩, tp'.push _⟩, ?_, fun _ _ => intItems_at, ?_⟩
  · intro b hb
    show b < (s.heap.push _).objs.size
    rw [Heap.size_push]
    rcases List.mem_cons.mp hb with z | z
    · rw [z]; exact Nat.lt_succ_self _
    · rw [List.mem_singleton.mp z]; exact Nat.lt_succ_of_lt lt
  · intro h' tk t' hk
    have k : ∀ b o, s.heap.get? b = some o → h'.get? b = some o := by
      intro b o x
      refine hk b o (fun z => ?_) (Heap.get?_push_of_some _ x)
      rw [List.mem_singleton.mp z] at x
      exact absurd (Heap.lt_size x) (Nat.lt_irrefl _)
    have ev : preSum (numAt xs) (intItems xs).size = ns.sum := by
      rw [preSum_eq, List.take_of_length_le (by simp [intItems]), hn]
    rw [ev]
    exact ⟨.int ns.sum, H, I.kept k, ⟨t', rfl⟩, q⟩

/-! ### zip of a list and a tuple -/
def z1 (h : Heap) (l : Addr) : Heap := h.push { cls := .type "list_iterator", data := .fields #[.ref l, .int 0 0] }
def z2 (h : Heap) (l t : Addr) : Heap := (z1 h l).push { cls := .type "tuple_iterator", data := .fields #[.ref t, .int 0 0] }
def z3 (h : Heap) (l t : Addr) : Heap := (z2 h l t).push { cls := .type "tuple", data := .seq #[.ref h.objs.size, .ref (z1 h l).objs.size] }
def z4 (h : Heap) (l t : Addr) : Heap := (z3 h l t).push { cls := .type "tuple", data := .seq #[.none, .none] }
def z5 (h : Heap) (l t : Addr) : Heap := (z4 h l t).push { cls := .type "zip", data := .fields #[.none, .bool false, .bool false, .ref (z2 h l t).objs.size, .ref (z3 h l t).objs.size] }
theorem zipM_make (l t : Addr) (xs ys : Array Value) :
    Meets (Builtin.«zip.__new__» ⟨[.type "zip", .ref l, .ref t], []⟩)
      (fun _ R s => s.heap.IsList l xs ∧ s.heap.IsTuple t ys ∧ R (.ok (.ret (.ref (z4 s.heap l t).objs.size))) { s with heap := z5 s.heap l t }) :=
  .of_wp fun prog w A R s h => by
    obtain ⟨hp, g, d, tk, os⟩ := s
    obtain ⟨hl, ht, h⟩ := h
    have hsub := sub_zip
    have a1 : Heap.IsList (Shared.heap ⟨hp, g, d, tk, os⟩) l xs := hl
    have a2 : Heap.IsTuple (Shared.heap ⟨hp.push { cls := .type "list_iterator", data := .fields #[.ref l, .int 0 0] }, g, d, tk, os⟩) t ys := Heap.IsTuple.push ht _
    wp_walk using wpAny_pyIter_list a1, wpAny_pyIter_tuple a2
    exact ⟨_, rfl, h⟩
section
variable {prog : Program} {w : World} {A : Around} {E : Value → Shared → Prop} {s : Shared}
theorem call_zipM {l t : Addr} {xs ys : Array Value} {Q : Value → Shared → Prop} (hl : s.heap.IsList l xs) (ht : s.heap.IsTuple t ys)
    (h : ∀ h', IsZip h' (s.heap.objs.size + 4) (s.heap.objs.size + 2) (s.heap.objs.size + 3) .none →
      PySem.IsPair h' (s.heap.objs.size + 2) (.ref s.heap.objs.size) (.ref (s.heap.objs.size + 1)) → PySem.IsPair h' (s.heap.objs.size + 3) .none .none →
      h'.IsListIter s.heap.objs.size l 0 → h'.IsTupleIter (s.heap.objs.size + 1) t 0 →
      (∀ c o, s.heap.get? c = some o → h'.get? c = some o) → Q (.ref (s.heap.objs.size + 4)) { s with heap := h' }) :
    wpAny (model prog w) A (call (.type "zip") [.ref l, .ref t]) Q E s := by
  refine callType_new F.called_zip (by decide) (F.typeCall_zip_2 _ _) (F.newCall_zip_2 _ _)
    (fun obj => F.args_object_init_3 obj _ _) F.entry_zip_new (zipM_make l t xs ys) ⟨hl, ht, ?_⟩
  have n1 : (z1 s.heap l).objs.size = s.heap.objs.size + 1 := Heap.size_push ..
  have n2 : (z2 s.heap l t).objs.size = s.heap.objs.size + 2 := (Heap.size_push ..).trans (congrArg (· + 1) n1)
  have n3 : (z3 s.heap l t).objs.size = s.heap.objs.size + 3 := (Heap.size_push ..).trans (congrArg (· + 1) n2)
  have n4 : (z4 s.heap l t).objs.size = s.heap.objs.size + 4 := (Heap.size_push ..).trans (congrArg (· + 1) n3)
  have p5 : (z5 s.heap l t).get? (z4 s.heap l t).objs.size = some _ := Heap.get?_push_size _ rfl
  have p4 : (z5 s.heap l t).get? (z3 s.heap l t).objs.size = some _ := Heap.get?_push_of_some _ (Heap.get?_push_size _ rfl)
  have p3 : (z5 s.heap l t).get? (z2 s.heap l t).objs.size = some _ :=
    Heap.get?_push_of_some _ (Heap.get?_push_of_some _ (Heap.get?_push_size _ rfl))
  have p2 : (z5 s.heap l t).get? (z1 s.heap l).objs.size = some _ :=
    Heap.get?_push_of_some _ (Heap.get?_push_of_some _ (Heap.get?_push_of_some _ (Heap.get?_push_size _ rfl)))
  have p1 : (z5 s.heap l t).get? s.heap.objs.size = some _ :=
    Heap.get?_push_of_some _ (Heap.get?_push_of_some _ (Heap.get?_push_of_some _ (Heap.get?_push_of_some _ (Heap.get?_push_size _ rfl))))
  show _ ∧ _
  rw [n2, n3, n4] at p5
  rw [n1, n2] at p3
  rw [n3] at p4
  rw [n1] at p2
  rw [n4]
  refine ⟨⟨_, p5, rfl⟩, h _ p5 p3 p4 ⟨_, p1, rfl, rfl⟩ ⟨_, p2, rfl, rfl⟩ ?_⟩
  intro c o x
  exact Heap.get?_push_of_some _ (Heap.get?_push_of_some _ (Heap.get?_push_of_some _ (Heap.get?_push_of_some _ (Heap.get?_push_of_some _ x))))
end
/-- the list at a and the tuple at b as they stand, the items in new pairs -/
def ItzM (K : PySem.W.Frag) (a b : Addr) : It :=
  ⟨fun i H => ∃ (xs ys : List V) (x y : V), SqL K H a xs ∧ SqT K H b ys ∧ xs[i]? = some x ∧ ys[i]? = some y,
   fun i H v H' => ∃ T x y, v = .ref T ∧ H T = none ∧ H' = upd H T (.tup [x, y]) ∧ (∀ xs, SqL K H a xs → xs[i]? = some x) ∧ ∀ ys, SqT K H b ys → ys[i]? = some y,
   fun i H => ∃ xs ys : List V, SqL K H a xs ∧ SqT K H b ys ∧ (i = xs.length ∧ i ≤ ys.length ∨ i = ys.length ∧ i ≤ xs.length)⟩
theorem sep_of {z TI TO i1 i2 a b : Addr} (D : ZipApart z TI TO i1 i2 a b) : ZipSep2 z TI TO i1 i2 [i1, a] [i2, b] := by
  refine ⟨D.TIz, D.TOz, D.TITO, D.TIi1, by simp, ?_, ?_, D.TIi2, by simp, ?_, ?_, ?_, ?_⟩
  · simp [D.i1z.symm, D.l1z.symm]
  · simp [D.TOi1, D.l1TO.symm]
  · simp [D.i2z.symm, D.l2z.symm]
  · simp [D.TOi2, D.l2TO.symm]
  · simp [D.i12, D.l2i1.symm]
  · simp [D.i12.symm, D.l1i2.symm]
theorem turn_zipM {P : Program} {w : World} {K : PySem.W.Frag} {elts : List Expr} {kk : Nat} {tpos : Pos} {a b z TI TO i1 i2 : Addr} (D : ZipApart z TI TO i1 i2 a b) :
    Turn P w K (.Tuple elts kk tpos) (ItzM K a b) [z, TI, TO, i1, i2] z
      (fun i h => IsZip h z TI TO .none ∧ PySem.IsPair h TI (.ref i1) (.ref i2) ∧ (∃ x y, PySem.IsPair h TO x y) ∧ h.IsListIter i1 a i ∧ h.IsTupleIter i2 b i) where
  mem := by simp
  obj := by
    rintro i h ⟨hz, hTI, ⟨x, y, hTO⟩, ⟨o1, e1, _, d1⟩, ⟨o2, e2, _, d2⟩⟩ c hc
    have e' : c = z ∨ c = TI ∨ c = TO ∨ c = i1 ∨ c = i2 := by simpa using hc
    rcases e' with rfl | rfl | rfl | rfl | rfl
    · exact ⟨_, hz, fun v q => nomatch q⟩
    · exact ⟨_, hTI, fun v q => nomatch q⟩
    · exact ⟨_, hTO, fun v q => nomatch q⟩
    · exact ⟨o1, e1, fun v q => by rw [d1] at q; exact nomatch q⟩
    · exact ⟨o2, e2, fun v q => by rw [d2] at q; exact nomatch q⟩
  keep := by
    rintro i h h' ⟨hz, hTI, ⟨x, y, hTO⟩, q1, q2⟩ k
    exact ⟨k z (by simp) _ hz, k TI (by simp) _ hTI, ⟨x, y, k TO (by simp) _ hTO⟩, q1.at (fun o q => k i1 (by simp) o q), q2.at (fun o q => k i2 (by simp) o q)⟩
  item := by
    intro X hP hw hK hc i pins s σ H E I hf st hg
    subst hP hw hK
    obtain ⟨hz, hTI, ⟨x0, y0, hTO⟩, q1, q2⟩ := st
    obtain ⟨xs, ys, x, y, hqx, hqy, hx, hy⟩ := hg
    obtain ⟨its, rv, pl, _⟩ := I.list hqx
    obtain ⟨jts, rv2, tp, _⟩ := I.tuple hqy
    obtain ⟨u, hu, ru⟩ := rv.get hx
    obtain ⟨u2, hu2, ru2⟩ := rv2.get hy
    have hzl : z < s.heap.objs.size := Heap.lt_size hz
    have s1 : i < its.toArray.size := by
      rw [List.size_toArray]
      exact (List.getElem?_eq_some_iff.mp hu).1
    have s2 : i < jts.toArray.size := by
      rw [List.size_toArray]
      exact (List.getElem?_eq_some_iff.mp hu2).1
    have tp' : s.heap.IsTuple b jts.toArray := tp
    refine wpAny_pyNext_zipD2_item (sep_of D) (Draws.list (A := X.A.in1) (I.ok.hd hc) i1 a D.l1i1 its.toArray) (Draws.tuple (A := X.A.in1) (I.ok.hd hc) i2 b D.l2i2 jts.toArray)
      hz hTI hTO ⟨q1, pl.isList⟩ ⟨q2, tp'⟩ s1 s2 ?_
    intro v1 v2 h' tk e1 e2 hz' hTO' st1 st2 hT hsz hk
    have e1 : its.toArray[i]? = some v1 := e1
    have e2 : jts.toArray[i]? = some v2 := e2
    rw [List.getElem?_toArray, hu] at e1
    rw [List.getElem?_toArray, hu2] at e2
    injection e1 with e1
    injection e2 with e2
    subst e1
    subst e2
    refine ⟨_, rfl, wpAny_letOwnedTupleGo_zip (s := { s with heap := h', toks := tk }) hz' ?_⟩
    intro h'' hz'' sb
    have T2 : h''.get? s.heap.objs.size = some { cls := .type "tuple", data := .seq #[u, u2] } := (sb.2 _ (Nat.ne_of_gt hzl)).trans hT
    have new : ObjOk X.prog X.w (upd H s.heap.objs.size (.tup [x, y])) h'' s.heap.objs.size (.tup [x, y]) :=
      ⟨by show 2 ≤ sizeLine; decide, [u, u2], .cons ru (.cons ru2 .nil), ⟨_, T2, rfl, _, rfl⟩⟩
    have I1 : Inv X pins σ (upd H s.heap.objs.size (.tup [x, y])) { s with heap := h'', toks := tk } := by
      refine I.turnedNew (ch := [z, TI, TO, i1, i2]) ?_ hf (Nat.le_refl _) new
      intro c o hb q
      have c1 : c ≠ z := fun e => hb (by simp [e])
      have c2 : c ≠ TO := fun e => hb (by simp [e])
      have c3 : c ≠ i1 := fun e => hb (by simp [e])
      have c4 : c ≠ i2 := fun e => hb (by simp [e])
      exact (sb.2 c c1).trans (hk c o c1 c2 c3 c4 q)
    refine ⟨.ref s.heap.objs.size, _, I1, rfl, ⟨_, x, y, rfl, I.hok.fresh (Nat.le_refl _), rfl, ?_, ?_⟩, ⟨hz'', ?_, ⟨u, u2, ?_⟩, ?_, ?_⟩, ?_⟩
    · intro l hl
      rw [I.list_inj hl hqx]
      exact hx
    · intro l hl
      rw [I.tuple_inj hl hqy]
      exact hy
    · exact (sb.2 _ D.TIz).trans (hk _ _ D.TIz D.TITO D.TIi1 D.TIi2 hTI)
    · exact (sb.2 _ D.TOz).trans hTO'
    · exact st1.1.at fun o q => (sb.2 _ D.i1z).trans q
    · exact st2.1.at fun o q => (sb.2 _ D.i2z).trans q
    · intro c hcm
      obtain ⟨o1, g1, _⟩ := q1
      obtain ⟨o2, g2, _⟩ := q2
      have lt : c < s.heap.objs.size := by
        have e' : c = z ∨ c = TI ∨ c = TO ∨ c = i1 ∨ c = i2 := by simpa using hcm
        rcases e' with rfl | rfl | rfl | rfl | rfl
        · exact hzl
        · exact Heap.lt_size hTI
        · exact Heap.lt_size hTO
        · exact Heap.lt_size g1
        · exact Heap.lt_size g2
      rw [upd_ne (Nat.ne_of_lt lt)]
      exact (hf c hcm).1
  done := by
    intro X hP hw hK hc i pins s σ H E I hf st hg
    subst hP hw hK
    obtain ⟨hz, hTI, ⟨x0, y0, hTO⟩, q1, q2⟩ := st
    obtain ⟨xs, ys, hqx, hqy, hend⟩ := hg
    obtain ⟨its, rv, pl, _⟩ := I.list hqx
    obtain ⟨jts, rv2, tp, _⟩ := I.tuple hqy
    have l1 := rv.length
    have l2 := rv2.length
    have tp' : s.heap.IsTuple b jts.toArray := tp
    refine wpAny_pyNext_zipD2_end (i := i) (sep_of D) (Draws.list (A := X.A.in1) (I.ok.hd hc) i1 a D.l1i1 its.toArray) (Draws.tuple (A := X.A.in1) (I.ok.hd hc) i2 b D.l2i2 jts.toArray)
      hz hTI hTO ⟨q1, pl.isList⟩ ⟨q2, tp'⟩ ?_ ?_ ?_ ?_
    · rw [List.size_toArray]; omega
    · rw [List.size_toArray]; omega
    · rw [List.size_toArray, List.size_toArray]; omega
    · intro h' tk hk
      refine ⟨rfl, I.turnedL (t' := tk) (ch := [z, TI, TO, i1, i2]) ?_ hf⟩
      intro c o hb q
      exact hk c o (fun e => hb (by simp [e])) (fun e => hb (by simp [e])) (fun e => hb (by simp [e])) (fun e => hb (by simp [e])) q
  self := fun A i s Q E st h => wpAny_pyIter_zip st.1 h
def iZipM (K : PySem.W.Frag) (ta : TA) : TI := fun σ H R => ta σ H fun vs H1 => ∃ a b xs ys, vs = [.ref a, .ref b] ∧ SqL K H1 a xs ∧ SqT K H1 b ys ∧ R (ItzM K a b) H1
theorem pi_zipM {X : Cx} {e e2 : Expr} {ta : TA} {p pos tpos : Pos} {elts : List Expr} {kk : Nat} (hg : Gl X "zip") (hm : X.mg "zip" = none) (ha : PA X [e, e2] ta)
    (hs : starEach [e, e2] X.env = (false, eval e X.env) :: starEach [e2] X.env := by rfl) (hpl : (backTo pos (starEach [e2] X.env)).any (·.1) = false := by rfl) :
    PI X (.Tuple elts kk tpos) (.Call (.Name "zip" p) [e, e2] [] pos) (iZipM X.K ta) := by
  constructor
  intro pins s σ H R I h
  have go := ha.run pos pins s σ H _ I h
  refine Call_ (ld_blt I hg hm PyProof.Rows.boot_zip (PyProof.Rows.callWith_type1 (thn go ?_) hs hpl))
  rintro us s1 ⟨vs, H1, I1, r1, a, b, xs, ys, rfl, hqx, hqy, q⟩
  obtain ⟨u1, u2, rfl, r, r'⟩ := vals2 r1
  cases r
  cases r'
  obtain ⟨its, rv, pl, _⟩ := I1.list hqx
  obtain ⟨jts, rv2, tp, _⟩ := I1.tuple hqy
  have tp' : s1.heap.IsTuple b jts.toArray := tp
  have la : a < s1.heap.objs.size := pl.lt
  have lb : b < s1.heap.objs.size := by
    obtain ⟨_, g, _⟩ := tp
    exact Heap.lt_size g
  refine call_zipM pl.isList tp' ?_
  intro h' hz hTI hTO q1 q2 hk
  refine wpAny_pyIter_zip hz ?_
  have I2 : Inv X pins σ H1 { s1 with heap := h' } := I1.kept (t' := s1.toks) hk
  refine ⟨s1.heap.objs.size + 4, [s1.heap.objs.size + 4, s1.heap.objs.size + 2, s1.heap.objs.size + 3, s1.heap.objs.size, s1.heap.objs.size + 1], _, _, H1, rfl, I2,
    turn_zipM (PySem.W.ktu_apart s1.heap.objs.size a b la lb), ⟨hz, hTI, ⟨_, _, hTO⟩, q1, q2⟩, ?_, q⟩
  intro c hcm
  have hle : s1.heap.objs.size ≤ c := by
    have e' : c = s1.heap.objs.size + 4 ∨ c = s1.heap.objs.size + 2 ∨ c = s1.heap.objs.size + 3 ∨ c = s1.heap.objs.size ∨ c = s1.heap.objs.size + 1 := by simpa using hcm
    rcases e' with e | e | e | e | e <;> rw [e]
    · exact Nat.le_add_right _ 4
    · exact Nat.le_add_right _ 2
    · exact Nat.le_add_right _ 3
    · exact Nat.le_refl _
    · exact Nat.le_add_right _ 1
  exact I1.fpOk hle (I1.hok.fresh hle)
theorem walk_zipM {K : PySem.W.Frag} {a b : Addr} {xs ys : List V} {n : Nat} (hn : n = min xs.length ys.length) :
    Walk (ItzM K a b) n (fun H => SqL K H a xs ∧ SqT K H b ys) (YPair (fun i => xs[i]?) (fun i => ys[i]?)) := by
  subst hn
  constructor
  · rintro i H hi ⟨q1, q2⟩
    have h1 : i < xs.length := by omega
    have h2 : i < ys.length := by omega
    exact ⟨xs, ys, xs[i], ys[i], q1, q2, by simp [h1], by simp [h2]⟩
  · rintro H ⟨q1, q2⟩
    exact ⟨xs, ys, q1, q2, by omega⟩
  · rintro i H v H' _ ⟨q1, q2⟩ ⟨T, x, y, h1, h2, h3, h4, h5⟩
    exact ⟨T, x, y, h1, h2, h3, h4 xs q1, h5 ys q2⟩
/-- zip of two tuples -/
theorem walk_zipT {K : PySem.W.Frag} {a b : Addr} {xs ys : List V} {n : Nat} (hn : n = min xs.length ys.length) :
    Walk (RZ.ItzT K a b) n (fun H => SqT K H a xs ∧ SqT K H b ys) (YPair (fun i => xs[i]?) (fun i => ys[i]?)) := by
  subst hn
  constructor
  · rintro i H hi ⟨q1, q2⟩
    have h1 : i < xs.length := by omega
    have h2 : i < ys.length := by omega
    exact ⟨xs, ys, xs[i], ys[i], q1, q2, by simp [h1], by simp [h2]⟩
  · rintro H ⟨q1, q2⟩
    exact ⟨xs, ys, q1, q2, by omega⟩
  · rintro i H v H' _ ⟨q1, q2⟩ ⟨T, x, y, h1, h2, h3, h4, h5⟩
    exact ⟨T, x, y, h1, h2, h3, h4 xs q1, h5 ys q2⟩
end WK
set_option Elab.async false
set_option linter.all false
set_option maxRecDepth 100000
namespace WK
open PySem PySem.Spec PyProof.Rows L2
structure Blt (mg : Str → Option Value) : Prop where
  int : mg "int" = none
  abs : mg "abs" = none
  len : mg "len" = none
  max : mg "max" = none
  min : mg "min" = none
  tuple : mg "tuple" = none
  range : mg "range" = none
  zip : mg "zip" = none
  enumerate : mg "enumerate" = none
  repr : mg "repr" = none
  sum : mg "sum" = none
  all : mg "all" = none
  any : mg "any" = none
  sorted : mg "sorted" = none
  list : mg "list" = none
/-! ### tuples stay -/
def Tups (H H' : Hp) : Prop := ∀ b xs, H b = some (.tup xs) → H' b = some (.tup xs)
theorem Tups.refl (H : Hp) : Tups H H := fun _ _ h => h
theorem Tups.trans {H H1 H2 : Hp} (a : Tups H H1) (b : Tups H1 H2) : Tups H H2 := fun x xs h => b x xs (a x xs h)
theorem Same.tups {H H' : Hp} (s : Same H H') : Tups H H' := fun b xs h => s b _ h
theorem Off.tups {H H' : Hp} {p c : Addr} (o : Off p c H H') (S : Src H p c) : Tups H H' := fun b xs h => o.tup S h
theorem tups_upd {H : Hp} {a : Addr} {xs : List V} {o : HO} (h : H a = some (.lst xs)) : Tups H (upd H a o) := fun b ys e => by
  rw [upd_ne (ne_of e h (by intro z; cases z))]
  exact e
/-! ### slots -/
structure Slt where
  need : Int
  most : Int
  first : Int
  slopes : List Int
def SltAt (H : Hp) (v : V) (s : Slt) : Prop := ∃ t u, v = .ref t ∧ H t = some (.tup [.int s.need, .int s.most, .int s.first, .ref u]) ∧ H u = some (.tup (s.slopes.map V.int))
theorem SltAt.mono {H H' : Hp} {v : V} {s : Slt} (k : Tups H H') (h : SltAt H v s) : SltAt H' v s := by
  obtain ⟨t, u, e, a, b⟩ := h
  exact ⟨t, u, e, k _ _ a, k _ _ b⟩
abbrev SltsAt (H : Hp) : List V → List Slt → Prop := Paired (SltAt H)
theorem SltsAt.mono {H H' : Hp} (k : Tups H H') : ∀ {vs : List V} {ss : List Slt}, SltsAt H vs ss → SltsAt H' vs ss
  | _, _, .nil => .nil
  | _, _, .cons a b => .cons (a.mono k) (SltsAt.mono k b)
theorem SltsAt.len {H : Hp} : ∀ {vs : List V} {ss : List Slt}, SltsAt H vs ss → vs.length = ss.length
  | _, _, .nil => rfl
  | _, _, .cons _ b => congrArg (· + 1) (SltsAt.len b)
theorem SltsAt.snoc {H : Hp} : ∀ {vs : List V} {ss : List Slt} {v : V} {s : Slt}, SltsAt H vs ss → SltAt H v s → SltsAt H (vs ++ [v]) (ss ++ [s])
  | _, _, _, _, .nil, h => .cons h .nil
  | _, _, _, _, .cons a b, h => .cons a (SltsAt.snoc b h)
theorem SltsAt.get {H : Hp} : ∀ {vs : List V} {ss : List Slt} {i : Nat} {v : V}, SltsAt H vs ss → vs[i]? = some v → ∃ s, ss[i]? = some s ∧ SltAt H v s
  | _, _, _, _, .nil, e => by simp at e
  | _, _, 0, v, .cons a _, e => by
    have e : _ = v := Option.some.inj e
    subst e
    exact ⟨_, rfl, a⟩
  | _, _, i + 1, v, .cons _ b, e => SltsAt.get (i := i) b e
/-- a slot of the document, within bounds: m its greatest number, b how steep, f its first cost's bound -/
structure Slt.Ok (s : Slt) (m b f : Int) : Prop where
  lo : 0 ≤ s.need
  mid : s.need ≤ s.most
  hi : s.most ≤ m
  len : (s.slopes.length : Int) = s.most - s.need
  steep : ∀ z ∈ s.slopes, -b ≤ z ∧ z ≤ b
  asc : s.slopes.Pairwise (· ≤ ·)
  pos : ∀ k, 0 ≤ s.first + (s.slopes.take k).sum
  fst : s.first ≤ f
def costAt (s : Slt) (x : Int) : Int := s.first + (s.slopes.take (x - s.need).toNat).sum
theorem sum_bounds {b : Int} : ∀ {l : List Int}, (∀ z ∈ l, -b ≤ z ∧ z ≤ b) → -(b * l.length) ≤ l.sum ∧ l.sum ≤ b * l.length
  | [], _ => by simp
  | z :: l, h => by
    have h1 := h z (List.mem_cons_self ..)
    have h2 := sum_bounds (l := l) fun y hy => h y (List.mem_cons_of_mem _ hy)
    rw [List.sum_cons, List.length_cons, Int.natCast_add, Int.mul_add]
    omega
/-- the sums of the first ones -/
def sumsL (l : List Int) (i : Nat) : List Int := (List.range i).map fun k => (l.take (k + 1)).sum
theorem sumsL_succ {l : List Int} {i : Nat} : sumsL l (i + 1) = sumsL l i ++ [(l.take (i + 1)).sum] := by
  unfold sumsL
  rw [List.range_succ, List.map_append]
  rfl
theorem sumsL_len {l : List Int} {i : Nat} : (sumsL l i).length = i := by
  unfold sumsL
  rw [List.length_map, List.length_range]
theorem low_le {l : List Int} {m : Int} (h : ∀ y ∈ (0 :: sumsL l l.length), m ≤ y) (k : Nat) : m ≤ (l.take k).sum := by
  have h0 : m ≤ 0 := h 0 (List.mem_cons_self ..)
  have step : ∀ j, j < l.length → m ≤ (l.take (j + 1)).sum := fun j hj =>
    h _ (List.mem_cons_of_mem _ (List.mem_map.mpr ⟨j, List.mem_range.mpr hj, rfl⟩))
  by_cases hk : k ≤ l.length
  · cases k with
    | zero => simpa using h0
    | succ j => exact step j (by omega)
  · rw [List.take_of_length_le (by omega)]
    by_cases hz : l.length = 0
    · have : l = [] := List.length_eq_zero_iff.mp hz
      subst this
      simpa using h0
    · have := step (l.length - 1) (by omega)
      rw [show l.length - 1 + 1 = l.length by omega, List.take_length] at this
      exact this
theorem low_ge {l : List Int} {m b : Int} (hb : 0 ≤ b) (hl : ∀ z ∈ l, -b ≤ z ∧ z ≤ b) (h : m ∈ (0 :: sumsL l l.length)) : -(b * l.length) ≤ m := by
  rcases List.mem_cons.mp h with e | e
  · subst e
    have : 0 ≤ b * (l.length : Int) := Int.mul_nonneg hb (Int.natCast_nonneg _)
    omega
  · obtain ⟨k, hk, rfl⟩ := List.mem_map.mp e
    have hk := List.mem_range.mp hk
    have s := sum_bounds (l := l.take (k + 1)) (b := b) fun z hz => hl z (List.mem_of_mem_take hz)
    rw [List.length_take, Nat.min_eq_left (by omega)] at s
    have le : b * ((k + 1 : Nat) : Int) ≤ b * (l.length : Int) := Int.mul_le_mul_of_nonneg_left (by omega) hb
    omega
def spSlots : Sp := fun vs H Q _ => ∃ (p c : Addr) (ticks : Nat) (most : Int), vs = [.ref p, .int ticks, .int most] ∧ Src H p c ∧ ticks ≤ 1000 ∧ 0 ≤ most ∧ most ≤ 1000 ∧
  ∀ (H' : Hp) (t : Addr) (ws : List V) (ss : List Slt), Src H' p c → Off p c H H' → H' t = some (.tup ws) → H t = none → SltsAt H' ws ss → ss.length = ticks → (∀ s ∈ ss, s.Ok most 8 (3 + 8 * most)) → Q (.ref t) H'
def spGreat : Sp := fun vs H Q _ => ∃ (p c : Addr) (ticks : Nat) (most : Int), vs = [.ref p, .int ticks, .int most] ∧ Src H p c ∧ ticks ≤ 1000 ∧ 0 ≤ most ∧ most ≤ 1000 ∧
  ∀ (H' : Hp) (t : Addr) (ws : List V) (ss : List Slt), Src H' p c → Off p c H H' → H' t = some (.tup ws) → H t = none → SltsAt H' ws ss → ss.length = ticks →
    (∀ s ∈ ss, s.Ok 1000000 80000000000 (10000000000 * (3 + 8 * most)) ∧ s.most - s.need ≤ most) → Q (.ref t) H'
theorem mul_sum {b : Int} : ∀ {l : List Int}, (l.map (· * b)).sum = l.sum * b
  | [] => by simp
  | z :: l => by
    rw [List.map_cons, List.sum_cons, List.sum_cons, mul_sum, Int.add_mul]
theorem Slt.Ok.great {s : Slt} {m f far by1 : Int} (h : s.Ok m 8 f) (h0 : 0 ≤ far) (hf : far + m ≤ 1000000) (b1 : 1 ≤ by1) (b2 : by1 ≤ 10000000000) (f0 : 0 ≤ f) :
    Slt.Ok ⟨s.need + far, s.most + far, s.first * by1, s.slopes.map (· * by1)⟩ 1000000 80000000000 (10000000000 * f) := by
  constructor
  · show 0 ≤ s.need + far
    have := h.lo
    omega
  · show s.need + far ≤ s.most + far
    have := h.mid
    omega
  · show s.most + far ≤ 1000000
    have := h.hi
    omega
  · show ((s.slopes.map (· * by1)).length : Int) = s.most + far - (s.need + far)
    rw [List.length_map, h.len]
    omega
  · intro z hz
    obtain ⟨y, hy, rfl⟩ := List.mem_map.mp hz
    obtain ⟨a, b⟩ := h.steep y hy
    show -80000000000 ≤ y * by1 ∧ y * by1 ≤ 80000000000
    have u : y * by1 ≤ 8 * by1 := Int.mul_le_mul_of_nonneg_right b (by omega)
    have l : -8 * by1 ≤ y * by1 := Int.mul_le_mul_of_nonneg_right a (by omega)
    omega
  · show (s.slopes.map (· * by1)).Pairwise (· ≤ ·)
    rw [List.pairwise_map]
    exact h.asc.imp fun {a b} z => Int.mul_le_mul_of_nonneg_right z (by omega)
  · intro k
    show 0 ≤ s.first * by1 + ((s.slopes.map (· * by1)).take k).sum
    rw [← List.map_take, mul_sum, ← Int.add_mul]
    exact Int.mul_nonneg (h.pos k) (by omega)
  · show s.first * by1 ≤ 10000000000 * f
    have p0 : 0 ≤ s.first := by simpa using h.pos 0
    have a : s.first * by1 ≤ f * by1 := Int.mul_le_mul_of_nonneg_right h.fst (by omega)
    have b : f * by1 ≤ f * 10000000000 := Int.mul_le_mul_of_nonneg_left b2 f0
    omega
end WK
set_option Elab.async false
set_option linter.all false
set_option maxRecDepth 100000
namespace WK
open PySem PySem.Spec PyProof.Rows L2
theorem slA {K : PySem.W.Frag} {lo hi : Option Int} {H : Hp} {Q : VK} {a : Addr} {xs : List V} (ht : H a = some (.tup xs))
    (k : ∀ p H', Same H H' → H' p = some (.tup (cutV xs lo hi)) → Q (.ref p) H') : rSlA K (.ref a) lo hi H Q := by
  refine ⟨a, xs, rfl, .inl (.inl ht), fun w => k a H (Same.refl _) ?_, fun _ p np => k p _ (same_new np) upd_same⟩
  rw [ht]
  unfold cutV
  rw [w.1, w.2, List.drop_zero, Nat.sub_zero, List.take_length]
theorem cut_int {xs : List V} {z : Int} (h : 0 ≤ z) : cutV xs none (some z) = xs.take z.toNat := by
  obtain ⟨n, rfl⟩ := Int.eq_ofNat_of_zero_le h
  rw [Int.toNat_natCast]
  exact cut_take
theorem cut_drop {xs : List V} {n : Nat} : cutV xs (some (n : Int)) none = xs.drop n := by
  unfold cutV
  rw [HT.sIx_nat, HT.sIx_none]
  by_cases h : n ≤ xs.length
  · rw [Nat.min_eq_left h, List.take_of_length_le (by rw [List.length_drop]; exact Nat.le_refl _)]
  · rw [Nat.min_eq_right (by omega), List.drop_of_length_le (by omega), List.drop_of_length_le (by omega), List.take_nil]
/-! ### rows of slots -/
def fitB (s : Slt) (x : Int) : Bool := decide (s.need ≤ x) && decide (x ≤ s.most)
def costV (s : Slt) (x : Int) : V := if fitB s x = true then .int (costAt s x) else .non
def s0 : Slt := ⟨0, 0, 0, []⟩
def servesB (ss : List Slt) (xs : List Int) (i : Nat) : List Bool := (List.range i).map fun t => fitB (ss.getD t s0) (xs.getD t 0)
def up (d : Int) : Int := if d > 0 then d else 0
def startsT (xs : List Int) (i : Nat) : List Int := (List.range i).map fun t => up (xs.getD t 0 - (0 :: xs).getD t 0)
def stopsT (xs : List Int) (i : Nat) : List Int := (List.range i).map fun t => up ((0 :: xs).getD t 0 - xs.getD t 0)
def runT (ss : List Slt) (xs : List Int) (i : Nat) : List Int := (List.range i).map fun t => costAt (ss.getD t s0) (xs.getD t 0)
def servesL (ss : List Slt) (xs : List Int) : Bool := (servesB ss xs xs.length).all id
def startsL (xs : List Int) : Int := (startsT xs xs.length).sum
def stopsL (xs : List Int) : Int := (stopsT xs xs.length).sum
def runL (ss : List Slt) (xs : List Int) : Int := (runT ss xs xs.length).sum
theorem mapr_succ {α : Type} {f : Nat → α} {i : Nat} : (List.range (i + 1)).map f = (List.range i).map f ++ [f i] := by
  rw [List.range_succ, List.map_append]
  rfl
theorem getD_at {α : Type} {l : List α} {i : Nat} {x d : α} (h : l[i]? = some x) : l.getD i d = x := by
  rw [List.getD_eq_getElem?_getD, h]
  rfl
theorem mapr_len {α : Type} {f : Nat → α} {i : Nat} : ((List.range i).map f).length = i := by
  rw [List.length_map, List.length_range]
def spCost : Sp := fun vs H Q _ => ∃ (t : V) (x : Int) (s : Slt), vs = [t, .int x] ∧ SltAt H t s ∧ ∀ H', Same H H' → Q (costV s x) H'
def spServes : Sp := fun vs H Q _ => ∃ (a b : Addr) (ws : List V) (ss : List Slt) (xs : List Int), vs = [.ref a, .ref b] ∧ H a = some (.tup ws) ∧ SltsAt H ws ss ∧ H b = some (.tup (xs.map V.int)) ∧ xs.length = ss.length ∧ xs.length ≤ 5000 ∧
  ∀ H', Same H H' → Q (.bl (servesL ss xs)) H'
def spStarts : Sp := fun vs H Q _ => ∃ (b : Addr) (xs : List Int), vs = [.ref b] ∧ H b = some (.tup (xs.map V.int)) ∧ xs.length ≤ 5000 ∧ ∀ H', Same H H' → Q (.int (startsL xs)) H'
def spStops : Sp := fun vs H Q _ => ∃ (b : Addr) (xs : List Int), vs = [.ref b] ∧ H b = some (.tup (xs.map V.int)) ∧ xs.length ≤ 5000 ∧ ∀ H', Same H H' → Q (.int (stopsL xs)) H'
def spRunning : Sp := fun vs H Q _ => ∃ (a b : Addr) (ws : List V) (ss : List Slt) (xs : List Int), vs = [.ref a, .ref b] ∧ H a = some (.tup ws) ∧ SltsAt H ws ss ∧ H b = some (.tup (xs.map V.int)) ∧ xs.length = ss.length ∧ xs.length ≤ 5000 ∧
  ∀ H', Same H H' → Q (if servesL ss xs = true then .int (runL ss xs) else .non) H'
def spRowCost : Sp := fun vs H Q _ => ∃ (a b : Addr) (B : Int) (ws : List V) (ss : List Slt) (xs : List Int), vs = [.ref a, .int B, .ref b] ∧ -(2 ^ 64) < B ∧ B < 2 ^ 64 ∧ H a = some (.tup ws) ∧ SltsAt H ws ss ∧ H b = some (.tup (xs.map V.int)) ∧ xs.length = ss.length ∧ xs.length ≤ 5000 ∧
  ∀ H', Same H H' → Q (if servesL ss xs = true then .int (runL ss xs + B * startsL xs) else .non) H'
/-- what is served is served at each tick -/
theorem serves_at {ss : List Slt} {xs : List Int} (h : servesL ss xs = true) {i : Nat} {s : Slt} {x : Int} (hs : ss[i]? = some s) (hx : xs[i]? = some x) : fitB s x = true := by
  have hi : i < xs.length := (List.getElem?_eq_some_iff.mp hx).1
  have hm : fitB s x ∈ servesB ss xs xs.length := by
    refine List.mem_map.mpr ⟨i, List.mem_range.mpr hi, ?_⟩
    rw [getD_at hs, getD_at hx]
  exact List.all_eq_true.mp h _ hm
end WK
set_option Elab.async false
set_option linter.all false
set_option maxRecDepth 100000
namespace WK
open PySem PySem.Spec PyProof.Rows L2
/-! ### the costs of slots, told in dicts -/
def costK (s : Slt) (n : Nat) : List (Key × V) := (List.range n).map fun (k : Nat) => (Sum.inl (s.need + k), V.int (s.first + (s.slopes.take k).sum))
theorem costK_succ {s : Slt} {n : Nat} : costK s (n + 1) = costK s n ++ [(Sum.inl (s.need + n), V.int (s.first + (s.slopes.take n).sum))] := by
  unfold costK
  rw [mapr_succ]
theorem costK_val {s : Slt} : ∀ {n : Nat} {z : Int}, valV (costK s n) (.inl z) = if s.need ≤ z ∧ z < s.need + n then some (.int (s.first + (s.slopes.take (z - s.need).toNat).sum)) else none
  | 0, z => by
    rw [if_neg (by omega)]
    rfl
  | n + 1, z => by
    have h0 : valV (costK s n) (Sum.inl (s.need + n) : Key) = none := by
      rw [costK_val, if_neg (by omega)]
    rw [costK_succ, valV_snoc _ _ _ _ h0, costK_val]
    by_cases e : z = s.need + n
    · subst e
      rw [if_pos rfl, if_pos (by omega), show (s.need + (n : Int) - s.need).toNat = n by omega]
    · rw [if_neg (fun q => e (Sum.inl.inj q))]
      by_cases h : s.need ≤ z ∧ z < s.need + n
      · rw [if_pos h, if_pos (by omega)]
      · rw [if_neg h, if_neg (by omega)]
theorem costK_put {s : Slt} {n : Nat} : putK (costK s n) (.inl (s.need + n)) (.int (s.first + (s.slopes.take n).sum)) = costK s (n + 1) := by
  rw [putK_new _ (by rw [costK_val, if_neg (by omega)]), costK_succ]
theorem costK_len {s : Slt} {n : Nat} : (costK s n).length = n := mapr_len
def CostAt (H : Hp) (v : V) (s : Slt) : Prop := ∃ d, v = .ref d ∧ H d = some (.dK (costK s (s.slopes.length + 1)))
abbrev CostsAt (H : Hp) : List V → List Slt → Prop := Paired (CostAt H)
theorem CostsAt.mono {H H' : Hp} (k : ∀ b kvs, H b = some (.dK kvs) → H' b = some (.dK kvs)) : ∀ {vs : List V} {ss : List Slt}, CostsAt H vs ss → CostsAt H' vs ss
  | _, _, .nil => .nil
  | _, _, .cons a b => by
    obtain ⟨d, e, h⟩ := a
    exact .cons ⟨d, e, k _ _ h⟩ (CostsAt.mono k b)
theorem CostsAt.len {H : Hp} : ∀ {vs : List V} {ss : List Slt}, CostsAt H vs ss → vs.length = ss.length
  | _, _, .nil => rfl
  | _, _, .cons _ b => congrArg (· + 1) (CostsAt.len b)
theorem CostsAt.snoc {H : Hp} : ∀ {vs : List V} {ss : List Slt} {v : V} {s : Slt}, CostsAt H vs ss → CostAt H v s → CostsAt H (vs ++ [v]) (ss ++ [s])
  | _, _, _, _, .nil, h => .cons h .nil
  | _, _, _, _, .cons a b, h => .cons a (CostsAt.snoc b h)
theorem CostsAt.get {H : Hp} : ∀ {vs : List V} {ss : List Slt} {i : Nat} {v : V}, CostsAt H vs ss → vs[i]? = some v → ∃ s, ss[i]? = some s ∧ CostAt H v s
  | _, _, _, _, .nil, e => by simp at e
  | _, _, 0, v, .cons a _, e => by
    have e : _ = v := Option.some.inj e
    subst e
    exact ⟨_, rfl, a⟩
  | _, _, i + 1, v, .cons _ b, e => CostsAt.get (i := i) b e
theorem dks_upd {H : Hp} {a : Addr} {xs : List V} {o : HO} (h : H a = some (.lst xs)) : ∀ b kvs, H b = some (.dK kvs) → upd H a o b = some (.dK kvs) := fun b ys e => by
  rw [upd_ne (ne_of e h (by intro z; cases z))]
  exact e
theorem take_sum {l : List Int} {i : Nat} {z : Int} (h : l[i]? = some z) : (l.take (i + 1)).sum = (l.take i).sum + z := by
  rw [List.take_add_one, h, List.sum_append]
  simp
def spSlotCosts : Sp := fun vs H Q _ => ∃ (a : Addr) (ws : List V) (ss : List Slt), vs = [.ref a] ∧ H a = some (.tup ws) ∧ SltsAt H ws ss ∧ ss.length ≤ 5000 ∧ (∀ s ∈ ss, s.slopes.length ≤ 5000) ∧
  ∀ (H' : Hp) (l : Addr) (vs' : List V), Same H H' → H l = none → H' l = some (.lst vs') → CostsAt H' vs' ss → (∀ v ∈ vs', ∃ d, v = .ref d ∧ H d = none) → Q (.ref l) H'
theorem CostsAt.off {H H' : Hp} {p c : Addr} (o : Off p c H H') : ∀ {vs : List V} {ss : List Slt}, CostsAt H vs ss → (∀ v ∈ vs, ∃ d, v = .ref d ∧ d ≠ p ∧ d ≠ c) → CostsAt H' vs ss
  | _, _, .nil, _ => .nil
  | _, _, .cons a b, h => by
    obtain ⟨d, e, hd⟩ := a
    obtain ⟨d', e', n1, n2⟩ := h _ (List.mem_cons_self ..)
    rw [e] at e'
    injection e' with e'
    subst e'
    exact .cons ⟨d, e, o _ _ n1 n2 hd⟩ (CostsAt.off o b fun v hv => h v (List.mem_cons_of_mem _ hv))
def spSomeRow : Sp := fun vs H Q _ => ∃ (p c a : Addr) (ws : List V) (ss : List Slt), vs = [.ref p, .ref a] ∧ Src H p c ∧ H a = some (.tup ws) ∧ SltsAt H ws ss ∧ ss.length ≤ 5000 ∧ (∀ s ∈ ss, s.need ≤ s.most ∧ s.most - s.need ≤ 1000) ∧
  ∀ (H' : Hp) (t : Addr) (xs : List Int), Src H' p c → Off p c H H' → H t = none → H' t = some (.tup (xs.map V.int)) → xs.length = ss.length → (∀ (i : Nat) (s : Slt) (x : Int), ss[i]? = some s → xs[i]? = some x → s.need ≤ x ∧ x ≤ s.most) → Q (.ref t) H'
/-- what a price is -/
def priceD (ss : List Slt) (xs : List Int) (B : Int) : List Int := if servesL ss xs = true then [runL ss xs + B * startsL xs] else []
def spPrice : Sp := fun vs H Q _ => ∃ (l b : Addr) (B : Int) (us : List V) (ss : List Slt) (xs : List Int), vs = [.ref l, .ref b, .int B] ∧ -(2 ^ 64) < B ∧ B < 2 ^ 64 ∧ H l = some (.lst us) ∧ CostsAt H us ss ∧ (∀ s ∈ ss, (s.slopes.length : Int) = s.most - s.need ∧ s.need ≤ s.most) ∧ H b = some (.tup (xs.map V.int)) ∧ xs.length = ss.length ∧ xs.length ≤ 5000 ∧
  ∀ (H' : Hp) (t : Addr), Same H H' → H t = none → H' t = some (.lst ((priceD ss xs B).map V.int)) → Q (.ref t) H'
end WK
namespace WK
open PySem PySem.Spec PyProof.Rows L2
def badL (ss : List Slt) (xs : List Int) (i : Nat) : List Int := ((List.range i).filter fun t => !fitB (ss.getD t s0) (xs.getD t 0)).map fun (t : Nat) => (t : Int)
theorem badL_yes {ss : List Slt} {xs : List Int} {i : Nat} {s : Slt} {x : Int} (hs : ss[i]? = some s) (hx : xs[i]? = some x) (h : fitB s x = false) : badL ss xs (i + 1) = badL ss xs i ++ [(i : Int)] := by
  unfold badL
  rw [List.range_succ, List.filter_append, List.map_append, List.filter_cons, if_pos (by rw [getD_at hs, getD_at hx, h]; rfl)]
  rfl
theorem badL_no {ss : List Slt} {xs : List Int} {i : Nat} {s : Slt} {x : Int} (hs : ss[i]? = some s) (hx : xs[i]? = some x) (h : fitB s x = true) : badL ss xs (i + 1) = badL ss xs i := by
  unfold badL
  rw [List.range_succ, List.filter_append, List.map_append, List.filter_cons, if_neg (by rw [getD_at hs, getD_at hx, h]; simp)]
  simp
theorem badL_len {ss : List Slt} {xs : List Int} {i : Nat} : (badL ss xs i).length ≤ i := by
  unfold badL
  rw [List.length_map]
  refine Nat.le_trans (List.length_filter_le _ (List.range i)) ?_
  rw [List.length_range]
  exact Nat.le_refl _
theorem badL_iff {ss : List Slt} {xs : List Int} : badL ss xs xs.length = [] ↔ servesL ss xs = true := by
  unfold badL servesL servesB
  rw [List.map_eq_nil_iff, List.filter_eq_nil_iff, List.all_eq_true]
  constructor
  · intro h b hb
    obtain ⟨t, ht, rfl⟩ := List.mem_map.mp hb
    have := h t ht
    simpa using this
  · intro h t ht
    have := h _ (List.mem_map.mpr ⟨t, ht, rfl⟩)
    simpa using this
theorem cost_in {s : Slt} {x : Int} (hl : (s.slopes.length : Int) = s.most - s.need) : (valV (costK s (s.slopes.length + 1)) (.inl x)).isSome = fitB s x := by
  rw [costK_val]
  unfold fitB
  by_cases h : s.need ≤ x ∧ x ≤ s.most
  · rw [if_pos (by omega), decide_eq_true h.1, decide_eq_true h.2]
    rfl
  · rw [if_neg (by omega)]
    by_cases h1 : s.need ≤ x
    · rw [decide_eq_true h1, decide_eq_false (fun z => h ⟨h1, z⟩)]
      rfl
    · rw [decide_eq_false h1]
      rfl
theorem cost_of {s : Slt} {x : Int} (hl : (s.slopes.length : Int) = s.most - s.need) (h : fitB s x = true) : valV (costK s (s.slopes.length + 1)) (.inl x) = some (.int (costAt s x)) := by
  have h' : s.need ≤ x ∧ x ≤ s.most := by simpa [fitB] using h
  rw [costK_val, if_pos (by omega)]
  rfl
end WK
set_option Elab.async false
set_option linter.all false
set_option maxRecDepth 100000
namespace WK
open PySem PySem.Spec PyProof.Rows L2
theorem seq_R {t u : TS} {D : Ends} {σ : L2.St} {H : Hp} (R : L2.St → Hp → Prop) (key : ∀ σ H, R σ H → u D σ H) (h : ∀ D' : Ends, (∀ σ H, R σ H → D'.nx σ H) → t D' σ H) : tSeq t u D σ H := h _ key
theorem catA {K : PySem.W.Frag} {H : Hp} {Q : VK} {a b : Addr} {xs ys : List V} (ha : H a = some (.tup xs)) (hb : H b = some (.tup ys)) (hl : xs.length + ys.length ≤ sizeLine)
    (k : ∀ p H', Same H H' → H' p = some (.tup (xs ++ ys)) → Q (.ref p) H') : rCatA K (.ref a) (.ref b) H Q := by
  refine ⟨a, b, xs, ys, rfl, rfl, .inl (.inl ha), .inl (.inl hb), hl, fun e => ?_, fun _ e => ?_, fun _ _ p np => k p _ (same_new np) upd_same⟩
  · subst e
    exact k b H (Same.refl _) hb
  · subst e
    refine k a H (Same.refl _) ?_
    rw [List.append_nil]
    exact ha
def within (m : Int) (xs : List Int) : Prop := ∀ x ∈ xs, -m ≤ x ∧ x ≤ m
theorem within_getD {m : Int} {xs : List Int} (h : within m xs) (h0 : 0 ≤ m) (i : Nat) : -m ≤ xs.getD i 0 ∧ xs.getD i 0 ≤ m := by
  rw [List.getD_eq_getElem?_getD]
  match e : xs[i]? with
  | none =>
    show -m ≤ 0 ∧ 0 ≤ m
    omega
  | some z => exact h z (List.mem_of_getElem? e)
theorem up_within {d m : Int} (h : -m ≤ d ∧ d ≤ m) : -m ≤ up d ∧ up d ≤ m := by
  unfold up
  split <;> omega
theorem startsL_b {m : Int} {xs : List Int} (h : within m xs) (h0 : 0 ≤ m) : -(2 * m * xs.length) ≤ startsL xs ∧ startsL xs ≤ 2 * m * xs.length := by
  have := sum_bounds (b := 2 * m) (l := startsT xs xs.length) (fun z hz => by
    obtain ⟨t, _, rfl⟩ := List.mem_map.mp hz
    have a := within_getD h h0 t
    have b := within_getD (m := m) (xs := 0 :: xs) (fun x hx => by
      rcases List.mem_cons.mp hx with e | e
      · rw [e]; omega
      · exact h x e) h0 t
    exact up_within (by omega))
  rw [show (startsT xs xs.length).length = xs.length from mapr_len] at this
  exact this
theorem stopsL_b {m : Int} {xs : List Int} (h : within m xs) (h0 : 0 ≤ m) : -(2 * m * xs.length) ≤ stopsL xs ∧ stopsL xs ≤ 2 * m * xs.length := by
  have := sum_bounds (b := 2 * m) (l := stopsT xs xs.length) (fun z hz => by
    obtain ⟨t, _, rfl⟩ := List.mem_map.mp hz
    have a := within_getD h h0 t
    have b := within_getD (m := m) (xs := 0 :: xs) (fun x hx => by
      rcases List.mem_cons.mp hx with e | e
      · rw [e]; omega
      · exact h x e) h0 t
    exact up_within (by omega))
  rw [show (stopsT xs xs.length).length = xs.length from mapr_len] at this
  exact this
theorem runL_b {B : Int} {ss : List Slt} {xs : List Int} (h : ∀ s ∈ ss, ∀ x, -B ≤ costAt s x ∧ costAt s x ≤ B) (hl : xs.length = ss.length) : -(B * xs.length) ≤ runL ss xs ∧ runL ss xs ≤ B * xs.length := by
  have := sum_bounds (b := B) (l := runT ss xs xs.length) (fun z hz => by
    obtain ⟨t, ht, rfl⟩ := List.mem_map.mp hz
    have ht : t < ss.length := by rw [← hl]; exact List.mem_range.mp ht
    rw [getD_at (List.getElem?_eq_getElem ht)]
    exact h _ (List.getElem_mem ht) _)
  rw [show (runT ss xs xs.length).length = xs.length from mapr_len] at this
  exact this
theorem cost_b {s : Slt} {m b f : Int} (h : s.Ok m b f) (hw : s.most - s.need ≤ 1000) (b0 : 0 ≤ b) (x : Int) : -(f + b * 1000) ≤ costAt s x ∧ costAt s x ≤ f + b * 1000 := by
  have p := h.pos (x - s.need).toNat
  have f1 := h.fst
  have sb := sum_bounds (b := b) (l := s.slopes.take (x - s.need).toNat) fun z hz => h.steep z (List.mem_of_mem_take hz)
  have ll : ((s.slopes.take (x - s.need).toNat).length : Int) ≤ 1000 := by
    rw [List.length_take]
    have := h.len
    omega
  have u : b * ((s.slopes.take (x - s.need).toNat).length : Int) ≤ b * 1000 := Int.mul_le_mul_of_nonneg_left ll b0
  have f0 : 0 ≤ f := by
    have := h.pos 0
    simp only [List.take_zero, List.sum_nil] at this
    omega
  have u0 : 0 ≤ b * 1000 := Int.mul_nonneg b0 (by decide)
  show -(f + b * 1000) ≤ s.first + _ ∧ s.first + _ ≤ f + b * 1000
  omega
/-- what is told of a row -/
def rowD (sv : Bool) (st sp run cost : Int) : PyData := .list [.bool sv, .int st, .int sp, if sv = true then .int run else .none, if sv = true then .int cost else .none]
theorem rowD_shows {sv : Bool} {st sp run cst : Int} (h1 : st.natAbs < 10 ^ 150) (h2 : sp.natAbs < 10 ^ 150) (h3 : run.natAbs < 10 ^ 150) (h4 : cst.natAbs < 10 ^ 150) : Shows (rowD sv st sp run cst) := by
  cases sv with
  | true =>
    refine shows_of ?_ ?_ ?_
    · simp only [rowD, Lil, LilAll, and_true, true_and, if_true]
      exact ⟨h1, h2, h3, h4⟩
    · simp [rowD, PyData.depth, PyData.depthAll]
    · simp only [rowD, WK.cost, costAll, if_true]
      decide
  | false =>
    refine shows_of ?_ ?_ ?_
    · simp only [rowD, Lil, LilAll, and_true, true_and, Bool.false_eq_true, if_false]
      exact ⟨h1, h2⟩
    · simp [rowD, PyData.depth, PyData.depthAll]
    · simp only [rowD, WK.cost, costAll, Bool.false_eq_true, if_false]
      decide
theorem cutset {k : Nat} {xs : List Int} {z : Int} (hk : k < xs.length) : (xs.take k ++ [z] ++ xs.drop (k + 1)).length = xs.length := by
  rw [List.length_append, List.length_append, List.length_take, List.length_drop, List.length_singleton]
  omega
theorem cutset_within {k : Nat} {xs : List Int} {z m m' : Int} (h : within m xs) (hm : m ≤ m') (hz : -m' ≤ z ∧ z ≤ m') : within m' (xs.take k ++ [z] ++ xs.drop (k + 1)) := by
  intro x hx
  rcases List.mem_append.mp hx with hx | hx
  · rcases List.mem_append.mp hx with hx | hx
    · have := h x (List.mem_of_mem_take hx)
      omega
    · rw [List.mem_singleton.mp hx]
      exact hz
  · have := h x (List.mem_of_mem_drop hx)
    omega
end WK
set_option Elab.async false
set_option linter.all false
set_option maxRecDepth 100000
set_option maxHeartbeats 4000000
namespace WK
open PySem PySem.Spec PyProof.Rows L2
/-! ### tuple * int, any number -/
theorem tuple_mul1 (l : Addr) (items : Array Value) (n : Nat) (dd : Option Addr) (sl : Array (Option Value)) (x : Int) (u : Tok) (c0 : (decide (x < -(2 ^ 63)) || decide (x ≥ 2 ^ 63)) = false) (c1 : (items.isEmpty || x == 1) = true) :
    Meets (Builtin.«tuple.__mul__» ⟨[.ref l, .int x u], []⟩) (fun _ R s => s.heap.get? l = some { cls := .type "tuple", dict := dd, data := .seq items n, slots := sl } ∧
      R (.ok (.ret (Value.ref l))) { s with heap := s.heap, toks := s.toks }) :=
  .of_wp fun prog w A R s h => by
    obtain ⟨hp, g, d, tk, os⟩ := s
    obtain ⟨hl, h⟩ := h
    have f1 := AutoSeq1.idx_int
    wp_walk using wpAny_loadPart' hl
    repeat (first
      | (refine wpAny_ite_false (decide_eq_false (by rw [c0]; exact Bool.false_ne_true)) ?_; wp_walk using wpAny_loadPart' hl)
      | (refine wpAny_ite_true (decide_eq_true c1) ?_; wp_walk using wpAny_loadPart' hl))
    exact ⟨_, rfl, h⟩
theorem tuple_mul0 (l : Addr) (items : Array Value) (n : Nat) (dd : Option Addr) (sl : Array (Option Value)) (x : Int) (u : Tok) (c0 : (decide (x < -(2 ^ 63)) || decide (x ≥ 2 ^ 63)) = false) (c1 : (items.isEmpty || x == 1) = false) (c2 : (decide (x ≤ 0) || items.isEmpty) = true) :
    Meets (Builtin.«tuple.__mul__» ⟨[.ref l, .int x u], []⟩) (fun _ R s => s.heap.get? l = some { cls := .type "tuple", dict := dd, data := .seq items n, slots := sl } ∧
      R (.ok (.ret (Value.ref s.heap.objs.size))) { s with heap := s.heap.push { cls := Value.type "tuple", data := Data.seq #[] }, toks := s.toks }) :=
  .of_wp fun prog w A R s h => by
    obtain ⟨hp, g, d, tk, os⟩ := s
    obtain ⟨hl, h⟩ := h
    have f1 := AutoSeq1.idx_int
    wp_walk using wpAny_loadPart' hl
    repeat (first
      | (refine wpAny_ite_false (decide_eq_false (by rw [c0]; exact Bool.false_ne_true)) ?_; wp_walk using wpAny_loadPart' hl)
      | (refine wpAny_ite_false (decide_eq_false (by rw [c1]; exact Bool.false_ne_true)) ?_; wp_walk using wpAny_loadPart' hl)
      | (refine wpAny_ite_true (decide_eq_true c2) ?_; wp_walk using wpAny_loadPart' hl))
    exact ⟨_, rfl, h⟩
def rRepA (K : PySem.W.Frag) : R2 := fun x y H Q => ∃ l k xs, x = .ref l ∧ y = .int k ∧ SqT K H l xs ∧ -(2 ^ 62) ≤ k ∧ k ≤ 1000 ∧ xs.length ≤ 1000 ∧ ((k = 1 ∨ xs = []) → Q (.ref l) H) ∧
  (¬ (k = 1 ∨ xs = []) → ∀ p, H p = none → Q (.ref p) (upd H p (.tup (List.replicate k.toNat xs).flatten)))
section
variable {X : Cx}
theorem op_repA : OpR X (binaryOp .Mult) (rRepA X.K) := by
  intro pins s σ H x y v u Q I rx ry h
  obtain ⟨l, k, xs, rfl, rfl, hT, h1, h2, hz, q1, q2⟩ := h
  by_cases hk : 2 ≤ k ∧ xs ≠ []
  · exact op_repT pins s σ H _ _ v u Q I rx ry ⟨l, k, xs, rfl, rfl, hT, hk.2, hk.1, h2, hz, q2 (fun e => by
      rcases e with e | e
      · omega
      · exact hk.2 e)⟩
  cases rx
  obtain ⟨t, rfl⟩ := ry
  obtain ⟨its, r, ⟨⟨cls, dd, data, sl⟩, ho, hc, n, hd⟩, hs⟩ := I.tuple hT
  simp only at hc hd
  subst hc hd
  have hle : its.length = xs.length := r.length.symm
  have c0 : (decide (k < -(2 ^ 63)) || decide (k ≥ 2 ^ 63)) = false := by
    rw [decide_eq_false (by omega), decide_eq_false (by omega)] <;> rfl
  by_cases e : k = 1 ∨ xs = []
  · have c1 : (its.toArray.isEmpty || k == 1) = true := by
      rcases e with e | e
      · rw [e, beq_self_eq_true, Bool.or_true]
      · rw [e] at hle
        rw [List.eq_nil_of_length_eq_zero hle]
        rfl
    exact wpAny_binaryOp_repeat_ref (T := "tuple") (U := "int") (by decide) ⟨_, ho, rfl⟩ (fun s' => typeIs_int s' k t) noFill_tuple_mul F.fills_int_mul F.slot_int_rmul repeat_tuple F.slot_int_index.lookup
      (call_meets F.slot_int_rmul (typeIs_int s k t) F.entry_int_rmul (F.args_int_rmul_2 _ _) (int_rmul_tuple k t l its.toArray n dd sl)
        ⟨ho, rfl, ⟨_, ho, rfl⟩, call_meets F.slot_tuple_mul ⟨_, ho, rfl⟩ F.entry_tuple_mul (F.args_tuple_mul_2 _ _) (tuple_mul1 l its.toArray n dd sl k t c0 c1) ⟨ho, ⟨.ref l, H, I, rfl, q1 e⟩⟩⟩)
  · have hne : xs ≠ [] := fun z => e (.inr z)
    have hk1 : k ≠ 1 := fun z => e (.inl z)
    have hk0 : k ≤ 0 := by
      by_cases z : 2 ≤ k
      · exact absurd ⟨z, hne⟩ hk
      · omega
    have hi : its.toArray.isEmpty = false := by
      cases its with
      | nil =>
        cases xs with
        | nil => exact absurd rfl hne
        | cons a b => cases hle
      | cons a b => rfl
    have c1 : (its.toArray.isEmpty || k == 1) = false := by
      rw [hi, Bool.false_or]
      exact beq_eq_false_iff_ne.mpr hk1
    have c2 : (decide (k ≤ 0) || its.toArray.isEmpty) = true := by
      rw [hi, Bool.or_false]
      exact decide_eq_true hk0
    refine wpAny_binaryOp_repeat_ref (T := "tuple") (U := "int") (by decide) ⟨_, ho, rfl⟩ (fun s' => typeIs_int s' k t) noFill_tuple_mul F.fills_int_mul F.slot_int_rmul repeat_tuple F.slot_int_index.lookup
      (call_meets F.slot_int_rmul (typeIs_int s k t) F.entry_int_rmul (F.args_int_rmul_2 _ _) (int_rmul_tuple k t l its.toArray n dd sl)
        ⟨ho, rfl, ⟨_, ho, rfl⟩, call_meets F.slot_tuple_mul ⟨_, ho, rfl⟩ F.entry_tuple_mul (F.args_tuple_mul_2 _ _) (tuple_mul0 l its.toArray n dd sl k t c0 c1 c2) ⟨ho, ?_⟩⟩)
    have e0 : (List.replicate k.toNat xs).flatten = [] := by
      rw [Int.toNat_of_nonpos hk0]
      rfl
    refine ⟨.ref s.heap.objs.size, _, I.laid (t' := s.toks) (o := .tup (List.replicate k.toNat xs).flatten) (fun b ob q => Heap.get?_push_of_some _ q) (Nat.le_refl _) ?_, rfl, q2 e _ (I.hok.fresh (Nat.le_refl _))⟩
    rw [e0]
    exact ⟨by show 0 ≤ sizeLine; decide, [], .nil, IsTup.new _ _⟩
end
end WK
set_option Elab.async false
set_option linter.all false
set_option maxRecDepth 100000
namespace WK
open PySem PySem.Spec PyProof.Rows L2
theorem sq_same {K : PySem.W.Frag} {H H' : Hp} {a : Addr} {xs : List V} (e : Same H H') (h : SqT K H a xs) : SqT K H' a xs := by
  rcases h with (h | ⟨o, h⟩) | h
  · exact .inl (.inl (e _ _ h))
  · exact .inl (.inr ⟨o, e _ _ h⟩)
  · exact .inr h
theorem sq_of {K : PySem.W.Frag} {H : Hp} {a : Addr} {xs : List V} (h : H a = some (.tup xs)) : SqT K H a xs := .inl (.inl h)
theorem slB {K : PySem.W.Frag} {lo hi : Option Int} {H : Hp} {Q : VK} {a : Addr} {xs : List V} (ht : SqT K H a xs)
    (k : ∀ p H', Same H H' → SqT K H' p (cutV xs lo hi) → Q (.ref p) H') : rSlA K (.ref a) lo hi H Q := by
  refine ⟨a, xs, rfl, ht, fun w => k a H (Same.refl _) ?_, fun _ p np => k p _ (same_new np) (sq_of upd_same)⟩
  have e : cutV xs lo hi = xs := by
    unfold cutV
    rw [w.1, w.2, List.drop_zero, Nat.sub_zero, List.take_length]
  rw [e]
  exact ht
theorem catB {K : PySem.W.Frag} {H : Hp} {Q : VK} {a b : Addr} {xs ys : List V} (ha : SqT K H a xs) (hb : SqT K H b ys) (hl : xs.length + ys.length ≤ sizeLine)
    (k : ∀ p H', Same H H' → SqT K H' p (xs ++ ys) → Q (.ref p) H') : rCatA K (.ref a) (.ref b) H Q := by
  refine ⟨a, b, xs, ys, rfl, rfl, ha, hb, hl, fun e => ?_, fun _ e => ?_, fun _ _ p np => k p _ (same_new np) (sq_of upd_same)⟩
  · subst e
    exact k b H (Same.refl _) hb
  · subst e
    refine k a H (Same.refl _) ?_
    rw [List.append_nil]
    exact ha
theorem repB {K : PySem.W.Frag} {H : Hp} {Q : VK} {a : Addr} {z k : Int} (ha : SqT K H a [.int z]) (h1 : -(2 ^ 62) ≤ k) (h2 : k ≤ 1000)
    (q : ∀ p H', Same H H' → SqT K H' p ((List.replicate k.toNat z).map V.int) → Q (.ref p) H') : rRepA K (.ref a) (.int k) H Q := by
  refine ⟨a, k, [.int z], rfl, rfl, ha, h1, h2, by show 1 ≤ 1000; decide, fun e => ?_, fun _ p np => q p _ (same_new np) ?_⟩
  · rcases e with rfl | e
    · exact q a H (Same.refl _) ha
    · cases e
  · rw [rep1]
    exact sq_of upd_same
/-! ### slots and works, also where they stand in the module -/
def SltK (K : PySem.W.Frag) (H : Hp) (v : V) (s : Slt) : Prop := ∃ t u, v = .ref t ∧ SqT K H t [.int s.need, .int s.most, .int s.first, .ref u] ∧ SqT K H u (s.slopes.map V.int)
theorem SltK.same {K : PySem.W.Frag} {H H' : Hp} {v : V} {s : Slt} (e : Same H H') (h : SltK K H v s) : SltK K H' v s := by
  obtain ⟨t, u, rfl, a, b⟩ := h
  exact ⟨t, u, rfl, sq_same e a, sq_same e b⟩
theorem SltK.of {K : PySem.W.Frag} {H : Hp} {v : V} {s : Slt} (h : SltAt H v s) : SltK K H v s := by
  obtain ⟨t, u, rfl, a, b⟩ := h
  exact ⟨t, u, rfl, sq_of a, sq_of b⟩
inductive SltsK (K : PySem.W.Frag) (H : Hp) : List V → List Slt → Prop
  | nil : SltsK K H [] []
  | cons {v : V} {vs : List V} {s : Slt} {ss : List Slt} : SltK K H v s → SltsK K H vs ss → SltsK K H (v :: vs) (s :: ss)
theorem SltsK.same {K : PySem.W.Frag} {H H' : Hp} (e : Same H H') : ∀ {vs : List V} {ss : List Slt}, SltsK K H vs ss → SltsK K H' vs ss
  | _, _, .nil => .nil
  | _, _, .cons a b => .cons (a.same e) (SltsK.same e b)
theorem SltsK.len {K : PySem.W.Frag} {H : Hp} : ∀ {vs : List V} {ss : List Slt}, SltsK K H vs ss → vs.length = ss.length
  | _, _, .nil => rfl
  | _, _, .cons _ b => congrArg (· + 1) (SltsK.len b)
theorem SltsK.snoc {K : PySem.W.Frag} {H : Hp} : ∀ {vs : List V} {ss : List Slt} {v : V} {s : Slt}, SltsK K H vs ss → SltK K H v s → SltsK K H (vs ++ [v]) (ss ++ [s])
  | _, _, _, _, .nil, h => .cons h .nil
  | _, _, _, _, .cons a b, h => .cons a (SltsK.snoc b h)
theorem SltsK.app {K : PySem.W.Frag} {H : Hp} : ∀ {vs ws : List V} {ss ts : List Slt}, SltsK K H vs ss → SltsK K H ws ts → SltsK K H (vs ++ ws) (ss ++ ts)
  | _, _, _, _, .nil, h => h
  | _, _, _, _, .cons a b, h => .cons a (SltsK.app b h)
theorem SltsK.get {K : PySem.W.Frag} {H : Hp} : ∀ {vs : List V} {ss : List Slt} {i : Nat} {v : V}, SltsK K H vs ss → vs[i]? = some v → ∃ s, ss[i]? = some s ∧ SltK K H v s
  | _, _, _, _, .nil, e => by simp at e
  | _, _, 0, v, .cons a _, e => by
    have e : _ = v := Option.some.inj e
    subst e
    exact ⟨_, rfl, a⟩
  | _, _, i + 1, v, .cons _ b, e => by
    rw [List.getElem?_cons_succ] at e ⊢
    exact SltsK.get b e
def mx (i j : Int) : Int := if j > i then j else i
def mn (i j : Int) : Int := if j < i then j else i
theorem mx_eq (i j : Int) : mx i j = max i j := by
  unfold mx
  split <;> omega
theorem mn_eq (i j : Int) : mn i j = min i j := by
  unfold mn
  split <;> omega
structure Slt.Len (s : Slt) : Prop where
  len : (s.slopes.length : Int) = s.most - s.need
  mid : s.need ≤ s.most
  wide : s.most - s.need ≤ 1000
/-- slopes from low to high -/
def winL (s : Slt) (lo hi : Int) : List Int := (s.slopes.drop (lo - s.need).toNat).take ((hi - s.need).toNat - (lo - s.need).toNat)
theorem winL_len {s : Slt} {lo hi : Int} (h : s.Len) (h1 : s.need ≤ lo) (h2 : lo ≤ hi) (h3 : hi ≤ s.most) : ((winL s lo hi).length : Int) = hi - lo := by
  have := h.len
  unfold winL
  rw [List.length_take, List.length_drop]
  omega
theorem cut_win {s : Slt} {lo hi : Int} (h : s.Len) (h1 : s.need ≤ lo) (h2 : lo ≤ hi) (h3 : hi ≤ s.most) : cutV (s.slopes.map V.int) (some (lo - s.need)) (some (hi - s.need)) = (winL s lo hi).map V.int := by
  have hl := h.len
  obtain ⟨m, hm⟩ := Int.eq_ofNat_of_zero_le (show 0 ≤ lo - s.need by omega)
  obtain ⟨n, hn⟩ := Int.eq_ofNat_of_zero_le (show 0 ≤ hi - s.need by omega)
  unfold cutV winL
  rw [hm, hn, HT.sIx_nat, HT.sIx_nat, List.length_map, Int.toNat_natCast, Int.toNat_natCast, Nat.min_eq_left (by omega), Nat.min_eq_left (by omega), List.map_take, List.map_drop]
def addL (a b : List Int) : List Int := List.zipWith (· + ·) a b
/-- two works, added -/
def sumW (a b : Slt) : Option Slt :=
  if mx a.need b.need > mn a.most b.most then none
  else some ⟨mx a.need b.need, mn a.most b.most, costAt a (mx a.need b.need) + costAt b (mx a.need b.need), addL (winL a (mx a.need b.need) (mn a.most b.most)) (winL b (mx a.need b.need) (mn a.most b.most))⟩
def lowW (s : Slt) : Int := s.need + ((s.slopes.filter fun z => decide (z < 0)).length : Nat)
def highW (s : Slt) (b : Int) : Int := s.need + ((s.slopes.filter fun z => decide (z ≤ b)).length : Nat)
def leastW (s : Slt) : Int := costAt s (lowW s)
def clampL (l : List Int) (b : Int) : List Int := l.map fun z => mn (mx 0 z) b
def heldWorth (s : Slt) (b x : Int) : Int := leastW s + ((clampL s.slopes b).take (mx 0 (x - s.need)).toNat).sum + b * mx 0 (x - s.most)
def heldMid (s : Slt) (b lo hi : Int) : List Int := ((clampL s.slopes b).drop (mx 0 (lo - s.need)).toNat).take ((mx 0 (hi - s.need)).toNat - (mx 0 (lo - s.need)).toNat)
def heldSlopes (s : Slt) (b lo hi : Int) : List Int := List.replicate (mx 0 (mn hi s.need - lo)).toNat 0 ++ heldMid s b lo hi ++ List.replicate (mx 0 (hi - mx lo s.most)).toNat b
def heldW (s : Slt) (b lo hi : Int) : Slt := ⟨lo, hi, heldWorth s b lo, heldSlopes s b lo hi⟩
theorem heldW_len {s : Slt} {b lo hi : Int} (h : s.Len) (h1 : lo ≤ hi) (h2 : hi - lo ≤ 1000) : (heldW s b lo hi).Len := by
  refine ⟨?_, h1, h2⟩
  have hl := h.len
  have hm := h.mid
  show ((heldSlopes s b lo hi).length : Int) = hi - lo
  unfold heldSlopes heldMid clampL
  rw [List.length_append, List.length_append, List.length_replicate, List.length_replicate, List.length_take, List.length_drop, List.length_map]
  simp only [mx_eq, mn_eq]
  omega
theorem sumW_len {a b c : Slt} (ha : a.Len) (hb : b.Len) (h : sumW a b = some c) : c.Len := by
  unfold sumW at h
  split at h
  · cases h
  · rename_i hle
    have h := Option.some.inj h
    subst h
    have hle : mx a.need b.need ≤ mn a.most b.most := by omega
    have e1 : a.need ≤ mx a.need b.need ∧ b.need ≤ mx a.need b.need := by rw [mx_eq]; omega
    have e2 : mn a.most b.most ≤ a.most ∧ mn a.most b.most ≤ b.most := by rw [mn_eq]; omega
    refine ⟨?_, hle, by have := ha.wide; show mn a.most b.most - mx a.need b.need ≤ 1000; omega⟩
    show ((addL _ _).length : Int) = _
    unfold addL
    rw [List.length_zipWith]
    have l1 := winL_len ha e1.1 hle e2.1
    have l2 := winL_len hb e1.2 hle e2.2
    show ((min _ _ : Nat) : Int) = mn a.most b.most - mx a.need b.need
    omega
theorem low_in {s : Slt} (h : s.Len) : s.need ≤ lowW s ∧ lowW s ≤ s.most := by
  have hl := h.len
  have := List.length_filter_le (fun z => decide (z < 0)) s.slopes
  unfold lowW
  omega
end WK
namespace WK
open PySem PySem.Spec PyProof.Rows L2
def spCostK (K : PySem.W.Frag) : Sp := fun vs H Q _ => ∃ (t : V) (x : Int) (s : Slt), vs = [t, .int x] ∧ SltK K H t s ∧ ∀ H', Same H H' → Q (costV s x) H'
def spWithin (K : PySem.W.Frag) : Sp := fun vs H Q _ => ∃ (t : V) (lo hi : Int) (s : Slt), vs = [t, .int lo, .int hi] ∧ SltK K H t s ∧ s.Len ∧ s.need ≤ lo ∧ lo ≤ hi ∧ hi ≤ s.most ∧
  ∀ H' p, Same H H' → SqT K H' p ((winL s lo hi).map V.int) → Q (.ref p) H'
def spSum (K : PySem.W.Frag) : Sp := fun vs H Q _ => ∃ (t u : V) (a b : Slt), vs = [t, u] ∧ SltK K H t a ∧ SltK K H u b ∧ a.Len ∧ b.Len ∧ (sumW a b = none → ∀ H', Same H H' → Q .non H') ∧
  ∀ c, sumW a b = some c → ∀ H' v, Same H H' → SltK K H' v c → Q v H'
def spLow (K : PySem.W.Frag) : Sp := fun vs H Q _ => ∃ (t : V) (s : Slt), vs = [t] ∧ SltK K H t s ∧ s.slopes.length ≤ 1000 ∧ ∀ H', Same H H' → Q (.int (lowW s)) H'
def spHigh (K : PySem.W.Frag) : Sp := fun vs H Q _ => ∃ (t : V) (b : Int) (s : Slt), vs = [t, .int b] ∧ SltK K H t s ∧ s.slopes.length ≤ 1000 ∧ ∀ H', Same H H' → Q (.int (highW s b)) H'
def spLeast (K : PySem.W.Frag) : Sp := fun vs H Q _ => ∃ (t : V) (s : Slt), vs = [t] ∧ SltK K H t s ∧ s.Len ∧ ∀ H', Same H H' → Q (.int (leastW s)) H'
def spBounded (K : PySem.W.Frag) : Sp := fun vs H Q _ => ∃ (p : Addr) (b : Int) (l : List Int), vs = [.ref p, .int b] ∧ SqT K H p (l.map V.int) ∧ l.length ≤ 1000 ∧ ∀ H' q, Same H H' → SqT K H' q ((clampL l b).map V.int) → Q (.ref q) H'
def spHW (K : PySem.W.Frag) : Sp := fun vs H Q _ => ∃ (t : V) (b x : Int) (s : Slt), vs = [t, .int b, .int x] ∧ SltK K H t s ∧ s.Len ∧ -(2 ^ 64) < b ∧ b < 2 ^ 64 ∧ ∀ H', Same H H' → Q (.int (heldWorth s b x)) H'
def spHS (K : PySem.W.Frag) : Sp := fun vs H Q _ => ∃ (t : V) (b lo hi : Int) (s : Slt), vs = [t, .int b, .int lo, .int hi] ∧ SltK K H t s ∧ s.Len ∧ lo ≤ hi ∧ hi - lo ≤ 1000 ∧
  ∀ H' p, Same H H' → SqT K H' p ((heldSlopes s b lo hi).map V.int) → Q (.ref p) H'
def spHeld (K : PySem.W.Frag) : Sp := fun vs H Q _ => ∃ (t : V) (b lo hi : Int) (s : Slt), vs = [t, .int b, .int lo, .int hi] ∧ SltK K H t s ∧ s.Len ∧ -(2 ^ 64) < b ∧ b < 2 ^ 64 ∧ lo ≤ hi ∧ hi - lo ≤ 1000 ∧
  ∀ H' v, Same H H' → SltK K H' v (heldW s b lo hi) → Q v H'
def afterW (a s : Slt) (b : Int) : Slt := (sumW s (heldW a b s.need s.most)).getD s0
theorem after_some {a s : Slt} {b : Int} (h : s.Len) : sumW s (heldW a b s.need s.most) = some (afterW a s b) := by
  have e : ¬ mx s.need s.need > mn s.most s.most := by
    have := h.mid
    rw [mx_eq, mn_eq]
    omega
  unfold afterW sumW
  show (if mx s.need s.need > mn s.most s.most then none else _) = some ((if mx s.need s.need > mn s.most s.most then none else _).getD s0)
  rw [if_neg e]
  rfl
theorem after_len {a s : Slt} {b : Int} (ha : a.Len) (h : s.Len) : (afterW a s b).Len := sumW_len h (heldW_len ha h.mid h.wide) (after_some h)
def spAfter (K : PySem.W.Frag) : Sp := fun vs H Q _ => ∃ (t u : V) (b : Int) (a s : Slt), vs = [t, u, .int b] ∧ SltK K H t a ∧ SltK K H u s ∧ a.Len ∧ s.Len ∧ -(2 ^ 64) < b ∧ b < 2 ^ 64 ∧
  ∀ H' v, Same H H' → SltK K H' v (afterW a s b) → Q v H'
/-- nothing yet -/
def w0 : Slt := ⟨0, 0, 0, []⟩
theorem w0_len : w0.Len := ⟨rfl, by decide, by decide⟩
def worksW (a : Slt) (b : Int) : List Slt → List Slt
  | [] => []
  | s :: ss => afterW a s b :: worksW (afterW a s b) b ss
theorem worksW_len {a : Slt} {b : Int} : ∀ {ss : List Slt}, (worksW a b ss).length = ss.length
  | [] => rfl
  | _ :: _ => congrArg (· + 1) worksW_len
theorem worksW_Len {b : Int} : ∀ {ss : List Slt} {a : Slt}, a.Len → (∀ s ∈ ss, s.Len) → ∀ x ∈ worksW a b ss, x.Len
  | [], _, _, _, x, hx => by cases hx
  | s :: ss, a, ha, hs, x, hx => by
    have hl := after_len (b := b) ha (hs s (List.mem_cons_self ..))
    rcases List.mem_cons.mp hx with e | e
    · rw [e]; exact hl
    · exact worksW_Len hl (fun s' h => hs s' (List.mem_cons_of_mem _ h)) x e
/-- the last work -/
def lastW (a : Slt) (b : Int) (ss : List Slt) : Slt := ss.foldl (fun w s => afterW w s b) a
theorem worksW_snoc {b : Int} : ∀ {ss : List Slt} {a s : Slt}, worksW a b (ss ++ [s]) = worksW a b ss ++ [afterW (lastW a b ss) s b]
  | [], _, _ => rfl
  | t :: ts, a, s => by
    show afterW a t b :: worksW (afterW a t b) b (ts ++ [s]) = afterW a t b :: (worksW (afterW a t b) b ts ++ [afterW (lastW (afterW a t b) b ts) s b])
    rw [worksW_snoc]
theorem lastW_len {b : Int} : ∀ {ss : List Slt} {a : Slt}, a.Len → (∀ s ∈ ss, s.Len) → (lastW a b ss).Len
  | [], _, ha, _ => ha
  | s :: ss, a, ha, hs => lastW_len (ss := ss) (after_len ha (hs s (List.mem_cons_self ..))) (fun s' h => hs s' (List.mem_cons_of_mem _ h))
def spWorks (K : PySem.W.Frag) : Sp := fun vs H Q _ => ∃ (p : Addr) (b : Int) (us : List V) (ss : List Slt), vs = [.ref p, .int b] ∧ SqT K H p us ∧ SltsK K H us ss ∧ (∀ s ∈ ss, s.Len) ∧ ss.length ≤ 5000 ∧ -(2 ^ 64) < b ∧ b < 2 ^ 64 ∧
  ∀ H' l ws, Same H H' → H' l = some (.lst ws) → SltsK K H' ws (worksW w0 b ss) → Q (.ref l) H'
def spLeasts (K : PySem.W.Frag) : Sp := fun vs H Q _ => ∃ (p : Addr) (b : Int) (us : List V) (ss : List Slt), vs = [.ref p, .int b] ∧ SqT K H p us ∧ SltsK K H us ss ∧ (∀ s ∈ ss, s.Len) ∧ ss.length ≤ 5000 ∧ -(2 ^ 64) < b ∧ b < 2 ^ 64 ∧
  ∀ H' l, Same H H' → H' l = some (.lst (((worksW w0 b ss).map leastW).map V.int)) → Q (.ref l) H'
def spLeastC (K : PySem.W.Frag) : Sp := fun vs H Q _ => ∃ (p : Addr) (b : Int) (us : List V) (ss : List Slt), vs = [.ref p, .int b] ∧ SqT K H p us ∧ SltsK K H us ss ∧ (∀ s ∈ ss, s.Len) ∧ ss.length ≤ 5000 ∧ -(2 ^ 64) < b ∧ b < 2 ^ 64 ∧
  ∀ H', Same H H' → Q (.int (leastW (lastW w0 b ss))) H'
def plainW (need most price : Int) : Slt := ⟨need, most, need * price, List.replicate (most - need).toNat price⟩
theorem plainW_len {need most price : Int} (h : need ≤ most) (h2 : most - need ≤ 1000) : (plainW need most price).Len := by
  refine ⟨?_, h, h2⟩
  show ((List.replicate _ _).length : Int) = most - need
  rw [List.length_replicate]
  omega
def spPlain (K : PySem.W.Frag) : Sp := fun vs H Q _ => ∃ (need most price : Int), vs = [.int need, .int most, .int price] ∧ need ≤ most ∧ most - need ≤ 1000 ∧ -(2 ^ 64) < price ∧ price < 2 ^ 64 ∧
  ∀ H' v, Same H H' → SltK K H' v (plainW need most price) → Q v H'
theorem cut_mid {xs : List V} {m n : Nat} : cutV xs (some (m : Int)) (some (n : Int)) = (xs.drop m).take (n - m) := by
  unfold cutV
  rw [HT.sIx_nat, HT.sIx_nat]
  by_cases h : m ≤ xs.length
  · rw [Nat.min_eq_left h]
    by_cases h2 : n ≤ xs.length
    · rw [Nat.min_eq_left h2]
    · rw [Nat.min_eq_right (by omega), List.take_of_length_le (by rw [List.length_drop]; omega), List.take_of_length_le (by rw [List.length_drop]; omega)]
  · rw [Nat.min_eq_right (a := m) (by omega), List.drop_of_length_le (by omega), List.drop_of_length_le (by omega), List.take_nil, List.take_nil]
end WK
namespace WK
open PySem PySem.Spec PyProof.Rows L2
theorem filt_yes {p : Int → Bool} {l : List Int} {i : Nat} {z : Int} (h : l[i]? = some z) (c : p z = true) : ((l.take (i + 1)).filter p).map V.int = ((l.take i).filter p).map V.int ++ [.int z] := by
  obtain ⟨hi, e⟩ := List.getElem?_eq_some_iff.mp h
  rw [List.take_succ_eq_append_getElem hi, List.filter_append, e, List.filter_cons, if_pos c, List.map_append]
  rfl
theorem filt_no {p : Int → Bool} {l : List Int} {i : Nat} {z : Int} (h : l[i]? = some z) (c : ¬ p z = true) : ((l.take (i + 1)).filter p).map V.int = ((l.take i).filter p).map V.int := by
  obtain ⟨hi, e⟩ := List.getElem?_eq_some_iff.mp h
  rw [List.take_succ_eq_append_getElem hi, List.filter_append, e, List.filter_cons, if_neg c, List.filter_nil, List.append_nil]
theorem filt_len {p : Int → Bool} {l : List Int} {i : Nat} : ((l.take i).filter p).length ≤ l.length :=
  Nat.le_trans (List.length_filter_le _ _) (by rw [List.length_take]; exact Nat.min_le_right _ _)
end WK
namespace WK
open PySem PySem.Spec PyProof.Rows L2
theorem addL_snoc {xs ys : List Int} {i : Nat} {x y : Int} (hx : xs[i]? = some x) (hy : ys[i]? = some y) : addL (xs.take (i + 1)) (ys.take (i + 1)) = addL (xs.take i) (ys.take i) ++ [x + y] := by
  obtain ⟨h1, e1⟩ := List.getElem?_eq_some_iff.mp hx
  obtain ⟨h2, e2⟩ := List.getElem?_eq_some_iff.mp hy
  unfold addL
  rw [List.take_succ_eq_append_getElem h1, List.take_succ_eq_append_getElem h2, e1, e2, List.zipWith_append (by rw [List.length_take, List.length_take]; omega)]
  rfl
end WK
namespace WK
open PySem PySem.Spec PyProof.Rows L2
theorem sq_upd {K : PySem.W.Frag} {H : Hp} {l a : Addr} {xs ys : List V} {o : HO} (h : H l = some (.lst xs)) (e : SqT K H a ys) : SqT K (upd H l o) a ys := by
  rcases e with (e | ⟨o', e⟩) | e
  · refine .inl (.inl ?_)
    rw [upd_ne (fun z => by rw [z, h] at e; cases e)]
    exact e
  · refine .inl (.inr ⟨o', ?_⟩)
    rw [upd_ne (fun z => by rw [z, h] at e; cases e)]
    exact e
  · exact .inr e
theorem SltK.upd {K : PySem.W.Frag} {H : Hp} {l : Addr} {xs : List V} {o : HO} {v : V} {s : Slt} (h : H l = some (.lst xs)) (e : SltK K H v s) : SltK K (L2.upd H l o) v s := by
  obtain ⟨t, u, rfl, a, b⟩ := e
  exact ⟨t, u, rfl, sq_upd h a, sq_upd h b⟩
theorem SltsK.upd {K : PySem.W.Frag} {H : Hp} {l : Addr} {xs : List V} {o : HO} (h : H l = some (.lst xs)) : ∀ {vs : List V} {ss : List Slt}, SltsK K H vs ss → SltsK K (L2.upd H l o) vs ss
  | _, _, .nil => .nil
  | _, _, .cons a b => .cons (a.upd h) (SltsK.upd h b)
theorem lastW_snoc {a s : Slt} {b : Int} {ss : List Slt} : lastW a b (ss ++ [s]) = afterW (lastW a b ss) s b := by
  unfold lastW
  rw [List.foldl_append]
  rfl
theorem take_snoc1 {α : Type} {l : List α} {i : Nat} {x : α} (h : l[i]? = some x) : l.take (i + 1) = l.take i ++ [x] := by
  obtain ⟨hi, e⟩ := List.getElem?_eq_some_iff.mp h
  rw [List.take_succ_eq_append_getElem hi, e]
end WK
set_option Elab.async false
set_option linter.all false
set_option maxRecDepth 100000
namespace WK
open PySem PySem.Spec PyProof.Rows L2
/-! ### zip of a list and a tuple -/
def y1 (h : Heap) (l : Addr) : Heap := h.push { cls := .type "tuple_iterator", data := .fields #[.ref l, .int 0 0] }
def y2 (h : Heap) (l t : Addr) : Heap := (y1 h l).push { cls := .type "list_iterator", data := .fields #[.ref t, .int 0 0] }
def y3 (h : Heap) (l t : Addr) : Heap := (y2 h l t).push { cls := .type "tuple", data := .seq #[.ref h.objs.size, .ref (y1 h l).objs.size] }
def y4 (h : Heap) (l t : Addr) : Heap := (y3 h l t).push { cls := .type "tuple", data := .seq #[.none, .none] }
def y5 (h : Heap) (l t : Addr) : Heap := (y4 h l t).push { cls := .type "zip", data := .fields #[.none, .bool false, .bool false, .ref (y2 h l t).objs.size, .ref (y3 h l t).objs.size] }
theorem zipN_make (l t : Addr) (xs ys : Array Value) :
    Meets (Builtin.«zip.__new__» ⟨[.type "zip", .ref l, .ref t], []⟩)
      (fun _ R s => s.heap.IsTuple l xs ∧ s.heap.IsList t ys ∧ R (.ok (.ret (.ref (y4 s.heap l t).objs.size))) { s with heap := y5 s.heap l t }) :=
  .of_wp fun prog w A R s h => by
    obtain ⟨hp, g, d, tk, os⟩ := s
    obtain ⟨hl, ht, h⟩ := h
    have hsub := sub_zip
    have a1 : Heap.IsTuple (Shared.heap ⟨hp, g, d, tk, os⟩) l xs := hl
    have a2 : Heap.IsList (Shared.heap ⟨hp.push { cls := .type "tuple_iterator", data := .fields #[.ref l, .int 0 0] }, g, d, tk, os⟩) t ys := Heap.IsList.push ht _
    wp_walk using wpAny_pyIter_tuple a1, wpAny_pyIter_list a2
    exact ⟨_, rfl, h⟩
section
variable {prog : Program} {w : World} {A : Around} {E : Value → Shared → Prop} {s : Shared}
theorem call_zipN {l t : Addr} {xs ys : Array Value} {Q : Value → Shared → Prop} (hl : s.heap.IsTuple l xs) (ht : s.heap.IsList t ys)
    (h : ∀ h', IsZip h' (s.heap.objs.size + 4) (s.heap.objs.size + 2) (s.heap.objs.size + 3) .none →
      PySem.IsPair h' (s.heap.objs.size + 2) (.ref s.heap.objs.size) (.ref (s.heap.objs.size + 1)) → PySem.IsPair h' (s.heap.objs.size + 3) .none .none →
      h'.IsTupleIter s.heap.objs.size l 0 → h'.IsListIter (s.heap.objs.size + 1) t 0 →
      (∀ c o, s.heap.get? c = some o → h'.get? c = some o) → Q (.ref (s.heap.objs.size + 4)) { s with heap := h' }) :
    wpAny (model prog w) A (call (.type "zip") [.ref l, .ref t]) Q E s := by
  refine callType_new F.called_zip (by decide) (F.typeCall_zip_2 _ _) (F.newCall_zip_2 _ _)
    (fun obj => F.args_object_init_3 obj _ _) F.entry_zip_new (zipN_make l t xs ys) ⟨hl, ht, ?_⟩
  have n1 : (y1 s.heap l).objs.size = s.heap.objs.size + 1 := Heap.size_push ..
  have n2 : (y2 s.heap l t).objs.size = s.heap.objs.size + 2 := (Heap.size_push ..).trans (congrArg (· + 1) n1)
  have n3 : (y3 s.heap l t).objs.size = s.heap.objs.size + 3 := (Heap.size_push ..).trans (congrArg (· + 1) n2)
  have n4 : (y4 s.heap l t).objs.size = s.heap.objs.size + 4 := (Heap.size_push ..).trans (congrArg (· + 1) n3)
  have p5 : (y5 s.heap l t).get? (y4 s.heap l t).objs.size = some _ := Heap.get?_push_size _ rfl
  have p4 : (y5 s.heap l t).get? (y3 s.heap l t).objs.size = some _ := Heap.get?_push_of_some _ (Heap.get?_push_size _ rfl)
  have p3 : (y5 s.heap l t).get? (y2 s.heap l t).objs.size = some _ :=
    Heap.get?_push_of_some _ (Heap.get?_push_of_some _ (Heap.get?_push_size _ rfl))
  have p2 : (y5 s.heap l t).get? (y1 s.heap l).objs.size = some _ :=
    Heap.get?_push_of_some _ (Heap.get?_push_of_some _ (Heap.get?_push_of_some _ (Heap.get?_push_size _ rfl)))
  have p1 : (y5 s.heap l t).get? s.heap.objs.size = some _ :=
    Heap.get?_push_of_some _ (Heap.get?_push_of_some _ (Heap.get?_push_of_some _ (Heap.get?_push_of_some _ (Heap.get?_push_size _ rfl))))
  show _ ∧ _
  rw [n2, n3, n4] at p5
  rw [n1, n2] at p3
  rw [n3] at p4
  rw [n1] at p2
  rw [n4]
  refine ⟨⟨_, p5, rfl⟩, h _ p5 p3 p4 ⟨_, p1, rfl, rfl⟩ ⟨_, p2, rfl, rfl⟩ ?_⟩
  intro c o x
  exact Heap.get?_push_of_some _ (Heap.get?_push_of_some _ (Heap.get?_push_of_some _ (Heap.get?_push_of_some _ (Heap.get?_push_of_some _ x))))
end
/-- the list at a and the tuple at b as they stand, the items in new pairs -/
def ItzN (K : PySem.W.Frag) (a b : Addr) : It :=
  ⟨fun i H => ∃ (xs ys : List V) (x y : V), SqT K H a xs ∧ SqL K H b ys ∧ xs[i]? = some x ∧ ys[i]? = some y,
   fun i H v H' => ∃ T x y, v = .ref T ∧ H T = none ∧ H' = upd H T (.tup [x, y]) ∧ (∀ xs, SqT K H a xs → xs[i]? = some x) ∧ ∀ ys, SqL K H b ys → ys[i]? = some y,
   fun i H => ∃ xs ys : List V, SqT K H a xs ∧ SqL K H b ys ∧ (i = xs.length ∧ i ≤ ys.length ∨ i = ys.length ∧ i ≤ xs.length)⟩
theorem turn_zipN {P : Program} {w : World} {K : PySem.W.Frag} {elts : List Expr} {kk : Nat} {tpos : Pos} {a b z TI TO i1 i2 : Addr} (D : ZipApart z TI TO i1 i2 a b) :
    Turn P w K (.Tuple elts kk tpos) (ItzN K a b) [z, TI, TO, i1, i2] z
      (fun i h => IsZip h z TI TO .none ∧ PySem.IsPair h TI (.ref i1) (.ref i2) ∧ (∃ x y, PySem.IsPair h TO x y) ∧ h.IsTupleIter i1 a i ∧ h.IsListIter i2 b i) where
  mem := by simp
  obj := by
    rintro i h ⟨hz, hTI, ⟨x, y, hTO⟩, ⟨o1, e1, _, d1⟩, ⟨o2, e2, _, d2⟩⟩ c hc
    have e' : c = z ∨ c = TI ∨ c = TO ∨ c = i1 ∨ c = i2 := by simpa using hc
    rcases e' with rfl | rfl | rfl | rfl | rfl
    · exact ⟨_, hz, fun v q => nomatch q⟩
    · exact ⟨_, hTI, fun v q => nomatch q⟩
    · exact ⟨_, hTO, fun v q => nomatch q⟩
    · exact ⟨o1, e1, fun v q => by rw [d1] at q; exact nomatch q⟩
    · exact ⟨o2, e2, fun v q => by rw [d2] at q; exact nomatch q⟩
  keep := by
    rintro i h h' ⟨hz, hTI, ⟨x, y, hTO⟩, q1, q2⟩ k
    exact ⟨k z (by simp) _ hz, k TI (by simp) _ hTI, ⟨x, y, k TO (by simp) _ hTO⟩, q1.at (fun o q => k i1 (by simp) o q), q2.at (fun o q => k i2 (by simp) o q)⟩
  item := by
    intro X hP hw hK hc i pins s σ H E I hf st hg
    subst hP hw hK
    obtain ⟨hz, hTI, ⟨x0, y0, hTO⟩, q1, q2⟩ := st
    obtain ⟨xs, ys, x, y, hqx, hqy, hx, hy⟩ := hg
    obtain ⟨its, rv, pl, _⟩ := I.tuple hqx
    obtain ⟨jts, rv2, tp, _⟩ := I.list hqy
    obtain ⟨u, hu, ru⟩ := rv.get hx
    obtain ⟨u2, hu2, ru2⟩ := rv2.get hy
    have hzl : z < s.heap.objs.size := Heap.lt_size hz
    have s1 : i < its.toArray.size := by
      rw [List.size_toArray]
      exact (List.getElem?_eq_some_iff.mp hu).1
    have s2 : i < jts.toArray.size := by
      rw [List.size_toArray]
      exact (List.getElem?_eq_some_iff.mp hu2).1
    have tp' : s.heap.IsList b jts.toArray := tp.isList
    refine wpAny_pyNext_zipD2_item (sep_of D) (Draws.tuple (A := X.A.in1) (I.ok.hd hc) i1 a D.l1i1 its.toArray) (Draws.list (A := X.A.in1) (I.ok.hd hc) i2 b D.l2i2 jts.toArray)
      hz hTI hTO ⟨q1, pl⟩ ⟨q2, tp'⟩ s1 s2 ?_
    intro v1 v2 h' tk e1 e2 hz' hTO' st1 st2 hT hsz hk
    have e1 : its.toArray[i]? = some v1 := e1
    have e2 : jts.toArray[i]? = some v2 := e2
    rw [List.getElem?_toArray, hu] at e1
    rw [List.getElem?_toArray, hu2] at e2
    injection e1 with e1
    injection e2 with e2
    subst e1
    subst e2
    refine ⟨_, rfl, wpAny_letOwnedTupleGo_zip (s := { s with heap := h', toks := tk }) hz' ?_⟩
    intro h'' hz'' sb
    have T2 : h''.get? s.heap.objs.size = some { cls := .type "tuple", data := .seq #[u, u2] } := (sb.2 _ (Nat.ne_of_gt hzl)).trans hT
    have new : ObjOk X.prog X.w (upd H s.heap.objs.size (.tup [x, y])) h'' s.heap.objs.size (.tup [x, y]) :=
      ⟨by show 2 ≤ sizeLine; decide, [u, u2], .cons ru (.cons ru2 .nil), ⟨_, T2, rfl, _, rfl⟩⟩
    have I1 : Inv X pins σ (upd H s.heap.objs.size (.tup [x, y])) { s with heap := h'', toks := tk } := by
      refine I.turnedNew (ch := [z, TI, TO, i1, i2]) ?_ hf (Nat.le_refl _) new
      intro c o hb q
      have c1 : c ≠ z := fun e => hb (by simp [e])
      have c2 : c ≠ TO := fun e => hb (by simp [e])
      have c3 : c ≠ i1 := fun e => hb (by simp [e])
      have c4 : c ≠ i2 := fun e => hb (by simp [e])
      exact (sb.2 c c1).trans (hk c o c1 c2 c3 c4 q)
    refine ⟨.ref s.heap.objs.size, _, I1, rfl, ⟨_, x, y, rfl, I.hok.fresh (Nat.le_refl _), rfl, ?_, ?_⟩, ⟨hz'', ?_, ⟨u, u2, ?_⟩, ?_, ?_⟩, ?_⟩
    · intro l hl
      rw [I.tuple_inj hl hqx]
      exact hx
    · intro l hl
      rw [I.list_inj hl hqy]
      exact hy
    · exact (sb.2 _ D.TIz).trans (hk _ _ D.TIz D.TITO D.TIi1 D.TIi2 hTI)
    · exact (sb.2 _ D.TOz).trans hTO'
    · exact st1.1.at fun o q => (sb.2 _ D.i1z).trans q
    · exact st2.1.at fun o q => (sb.2 _ D.i2z).trans q
    · intro c hcm
      obtain ⟨o1, g1, _⟩ := q1
      obtain ⟨o2, g2, _⟩ := q2
      have lt : c < s.heap.objs.size := by
        have e' : c = z ∨ c = TI ∨ c = TO ∨ c = i1 ∨ c = i2 := by simpa using hcm
        rcases e' with rfl | rfl | rfl | rfl | rfl
        · exact hzl
        · exact Heap.lt_size hTI
        · exact Heap.lt_size hTO
        · exact Heap.lt_size g1
        · exact Heap.lt_size g2
      rw [upd_ne (Nat.ne_of_lt lt)]
      exact (hf c hcm).1
  done := by
    intro X hP hw hK hc i pins s σ H E I hf st hg
    subst hP hw hK
    obtain ⟨hz, hTI, ⟨x0, y0, hTO⟩, q1, q2⟩ := st
    obtain ⟨xs, ys, hqx, hqy, hend⟩ := hg
    obtain ⟨its, rv, pl, _⟩ := I.tuple hqx
    obtain ⟨jts, rv2, tp, _⟩ := I.list hqy
    have l1 := rv.length
    have l2 := rv2.length
    have tp' : s.heap.IsList b jts.toArray := tp.isList
    refine wpAny_pyNext_zipD2_end (i := i) (sep_of D) (Draws.tuple (A := X.A.in1) (I.ok.hd hc) i1 a D.l1i1 its.toArray) (Draws.list (A := X.A.in1) (I.ok.hd hc) i2 b D.l2i2 jts.toArray)
      hz hTI hTO ⟨q1, pl⟩ ⟨q2, tp'⟩ ?_ ?_ ?_ ?_
    · rw [List.size_toArray]; omega
    · rw [List.size_toArray]; omega
    · rw [List.size_toArray, List.size_toArray]; omega
    · intro h' tk hk
      refine ⟨rfl, I.turnedL (t' := tk) (ch := [z, TI, TO, i1, i2]) ?_ hf⟩
      intro c o hb q
      exact hk c o (fun e => hb (by simp [e])) (fun e => hb (by simp [e])) (fun e => hb (by simp [e])) (fun e => hb (by simp [e])) q
  self := fun A i s Q E st h => wpAny_pyIter_zip st.1 h
def iZipN (K : PySem.W.Frag) (ta : TA) : TI := fun σ H R => ta σ H fun vs H1 => ∃ a b xs ys, vs = [.ref a, .ref b] ∧ SqT K H1 a xs ∧ SqL K H1 b ys ∧ R (ItzN K a b) H1
theorem pi_zipN {X : Cx} {e e2 : Expr} {ta : TA} {p pos tpos : Pos} {elts : List Expr} {kk : Nat} (hg : Gl X "zip") (hm : X.mg "zip" = none) (ha : PA X [e, e2] ta)
    (hs : starEach [e, e2] X.env = (false, eval e X.env) :: starEach [e2] X.env := by rfl) (hpl : (backTo pos (starEach [e2] X.env)).any (·.1) = false := by rfl) :
    PI X (.Tuple elts kk tpos) (.Call (.Name "zip" p) [e, e2] [] pos) (iZipN X.K ta) := by
  constructor
  intro pins s σ H R I h
  have go := ha.run pos pins s σ H _ I h
  refine Call_ (ld_blt I hg hm PyProof.Rows.boot_zip (PyProof.Rows.callWith_type1 (thn go ?_) hs hpl))
  rintro us s1 ⟨vs, H1, I1, r1, a, b, xs, ys, rfl, hqx, hqy, q⟩
  obtain ⟨u1, u2, rfl, r, r'⟩ := vals2 r1
  cases r
  cases r'
  obtain ⟨its, rv, pl, _⟩ := I1.tuple hqx
  obtain ⟨jts, rv2, tp, _⟩ := I1.list hqy
  have tp' : s1.heap.IsList b jts.toArray := tp.isList
  have la : a < s1.heap.objs.size := by
    obtain ⟨_, g, _⟩ := pl
    exact Heap.lt_size g
  have lb : b < s1.heap.objs.size := by
    obtain ⟨_, g, _⟩ := tp.isList
    exact Heap.lt_size g
  refine call_zipN pl tp' ?_
  intro h' hz hTI hTO q1 q2 hk
  refine wpAny_pyIter_zip hz ?_
  have I2 : Inv X pins σ H1 { s1 with heap := h' } := I1.kept (t' := s1.toks) hk
  refine ⟨s1.heap.objs.size + 4, [s1.heap.objs.size + 4, s1.heap.objs.size + 2, s1.heap.objs.size + 3, s1.heap.objs.size, s1.heap.objs.size + 1], _, _, H1, rfl, I2,
    turn_zipN (PySem.W.ktu_apart s1.heap.objs.size a b la lb), ⟨hz, hTI, ⟨_, _, hTO⟩, q1, q2⟩, ?_, q⟩
  intro c hcm
  have hle : s1.heap.objs.size ≤ c := by
    have e' : c = s1.heap.objs.size + 4 ∨ c = s1.heap.objs.size + 2 ∨ c = s1.heap.objs.size + 3 ∨ c = s1.heap.objs.size ∨ c = s1.heap.objs.size + 1 := by simpa using hcm
    rcases e' with e | e | e | e | e <;> rw [e]
    · exact Nat.le_add_right _ 4
    · exact Nat.le_add_right _ 2
    · exact Nat.le_add_right _ 3
    · exact Nat.le_refl _
    · exact Nat.le_add_right _ 1
  exact I1.fpOk hle (I1.hok.fresh hle)
theorem walk_zipN {K : PySem.W.Frag} {a b : Addr} {xs ys : List V} {n : Nat} (hn : n = min xs.length ys.length) :
    Walk (ItzN K a b) n (fun H => SqT K H a xs ∧ SqL K H b ys) (YPair (fun i => xs[i]?) (fun i => ys[i]?)) := by
  subst hn
  constructor
  · rintro i H hi ⟨q1, q2⟩
    have h1 : i < xs.length := by omega
    have h2 : i < ys.length := by omega
    exact ⟨xs, ys, xs[i], ys[i], q1, q2, by simp [h1], by simp [h2]⟩
  · rintro H ⟨q1, q2⟩
    exact ⟨xs, ys, q1, q2, by omega⟩
  · rintro i H v H' _ ⟨q1, q2⟩ ⟨T, x, y, h1, h2, h3, h4, h5⟩
    exact ⟨T, x, y, h1, h2, h3, h4 xs q1, h5 ys q2⟩
end WK
set_option Elab.async false
set_option linter.all false
set_option maxRecDepth 100000
namespace WK
/-! ### valleys by a stack -/
abbrev V4 := Int × Int × Int × Int
/-- the need of a tick -/
def nd (ns : List Int) (t : Nat) : Int := ns.getD t 0
def popV (ns : List Int) (n : Int) (t : Nat) : List Nat → List V4 → List Nat × List V4
  | [], f => ([], f)
  | s :: r, f => if nd ns s < n then
      (match r with
       | [] => popV ns n t [] f
       | a :: r' => popV ns n t (a :: r') (f ++ [((a : Int) + 1, (t : Int) - a - 1, nd ns s, min (nd ns a) n)]))
    else (s :: r, f)
/-- what stands on the stack behind a tick, the last tick first -/
def stkV (ns : List Int) : Nat → List Nat
  | 0 => []
  | t + 1 => t :: (let S := (popV ns (nd ns t) t (stkV ns t) []).1
                   match S with
                   | [] => []
                   | s :: r => if nd ns s = nd ns t then r else s :: r)
def newV (ns : List Int) (t : Nat) : List V4 := (popV ns (nd ns t) t (stkV ns t) []).2
def valV4 (ns : List Int) : Nat → List V4
  | 0 => []
  | t + 1 => valV4 ns t ++ newV ns t
theorem popV_app (ns : List Int) (n : Int) (t : Nat) : ∀ (S : List Nat) (f : List V4), popV ns n t S f = ((popV ns n t S []).1, f ++ (popV ns n t S []).2)
  | [], f => by simp [popV]
  | [s], f => by
    unfold popV
    split
    · simp [popV]
    · simp
  | s :: a :: r, f => by
    unfold popV
    split
    · dsimp only
      rw [popV_app ns n t (a :: r) (f ++ _), popV_app ns n t (a :: r) ([] ++ _)]
      simp
    · simp
def vcost (b : Int) (v : V4) : Int := (v.2.2.2 - v.2.2.1) * min v.2.1 b
def vsC (b : Int) (l : List V4) : Int := (l.map (vcost b)).sum
theorem vsC_app (b : Int) (l m : List V4) : vsC b (l ++ m) = vsC b l + vsC b m := by simp [vsC]
/-- what a layer pays at a tick by the last tick ahead at which it is on -/
def gS (ns : List Int) (b : Int) (t : Nat) (S : List Nat) (k : Int) : Int :=
  match S.find? (fun s => decide (k ≤ nd ns s)) with
  | some p => min ((t : Int) - p - 1) b
  | none => 0
def sumK (f : Int → Int) (lo : Int) : Nat → Int
  | 0 => 0
  | m + 1 => sumK f lo m + f (lo + 1 + m)
theorem sumK_congr {f g : Int → Int} {lo : Int} : ∀ {m : Nat}, (∀ k, lo < k → k ≤ lo + m → f k = g k) → sumK f lo m = sumK g lo m
  | 0, _ => rfl
  | m + 1, h => by
    unfold sumK
    rw [sumK_congr fun k h1 h2 => h k h1 (by omega), h _ (by omega) (by omega)]
theorem sumK_const {c lo : Int} : ∀ {m : Nat}, sumK (fun _ => c) lo m = c * m
  | 0 => by simp [sumK]
  | m + 1 => by
    unfold sumK
    rw [sumK_const]
    rw [Int.natCast_add, Int.mul_add]
    simp
theorem sumK_add {f : Int → Int} {lo : Int} {m : Nat} : ∀ {j : Nat}, sumK f lo (m + j) = sumK f lo m + sumK f (lo + m) j
  | 0 => by simp [sumK]
  | j + 1 => by
    show sumK f lo (m + j) + f (lo + 1 + ((m + j : Nat) : Int)) = sumK f lo m + (sumK f (lo + m) j + f (lo + m + 1 + j))
    rw [sumK_add (j := j), show lo + 1 + ((m + j : Nat) : Int) = lo + m + 1 + j by omega]
    omega
theorem sumK_zero {f : Int → Int} {lo : Int} {m : Nat} (h : ∀ k, lo < k → k ≤ lo + m → f k = 0) : sumK f lo m = 0 := by
  rw [sumK_congr (g := fun _ => 0) h, sumK_const]
  omega
def Inc (ns : List Int) (S : List Nat) : Prop := S.Pairwise fun s a => nd ns s < nd ns a
/-- what a tick pays for the valleys that end there: all layers above the last need, up to its own -/
theorem pop_cost (ns : List Int) (n b : Int) (t : Nat) : ∀ (s : Nat) (r : List Nat), Inc ns (s :: r) → nd ns s ≤ n →
    vsC b (popV ns n t (s :: r) []).2 = sumK (gS ns b t (s :: r)) (nd ns s) (n - nd ns s).toNat
  | s, [], _, h => by
    unfold popV
    rw [sumK_zero]
    · split <;> simp [popV, vsC]
    · intro k h1 h2
      unfold gS
      rw [List.find?_cons_of_neg (by simpa using h1)]
      rfl
  | s, a :: r, hi, h => by
    have hi2 : Inc ns (a :: r) := (List.pairwise_cons.mp hi).2
    have hsa : nd ns s < nd ns a := (List.pairwise_cons.mp hi).1 a (by simp)
    have hg : ∀ k, nd ns s < k → gS ns b t (s :: a :: r) k = gS ns b t (a :: r) k := by
      intro k hk
      unfold gS
      rw [List.find?_cons_of_neg (by simpa using hk)]
    by_cases hlt : nd ns s < n
    · unfold popV
      rw [if_pos hlt]
      dsimp only
      rw [popV_app, vsC_app]
      rw [sumK_congr (g := gS ns b t (a :: r)) fun k h1 _ => hg k h1]
      have hfst : ∀ k, k ≤ nd ns a → gS ns b t (a :: r) k = min ((t : Int) - a - 1) b := by
        intro k hk
        unfold gS
        rw [List.find?_cons_of_pos (by simpa using hk)]
      by_cases han : nd ns a ≤ n
      · rw [pop_cost ns n b t a r hi2 han, show (n - nd ns s).toNat = (nd ns a - nd ns s).toNat + (n - nd ns a).toNat by omega, sumK_add]
        rw [sumK_congr (g := fun _ => min ((t : Int) - a - 1) b) (lo := nd ns s) fun k _ h2 => hfst k (by omega), sumK_const, show nd ns s + ((nd ns a - nd ns s).toNat : Int) = nd ns a by omega]
        have e : min (nd ns a) n = nd ns a := by omega
        simp only [vsC, List.map_cons, List.map_nil, List.nil_append, List.sum_cons, List.sum_nil, vcost, e, Int.add_zero]
        rw [Int.mul_comm, show ((nd ns a - nd ns s).toNat : Int) = nd ns a - nd ns s by omega]
      · rw [sumK_congr (g := fun _ => min ((t : Int) - a - 1) b) (lo := nd ns s) fun k _ h2 => hfst k (by omega), sumK_const]
        have e : min (nd ns a) n = n := by omega
        have e2 : (popV ns n t (a :: r) []).2 = [] := by
          unfold popV
          rw [if_neg (by omega)]
        simp only [vsC, List.map_cons, List.map_nil, List.nil_append, List.sum_cons, List.sum_nil, vcost, e, e2, Int.add_zero]
        rw [Int.mul_comm, show ((n - nd ns s).toNat : Int) = n - nd ns s by omega]
    · have e : n = nd ns s := by omega
      unfold popV
      rw [if_neg hlt, e]
      simp [vsC, sumK]
def eqPop (ns : List Int) (n : Int) : List Nat → List Nat
  | [] => []
  | s :: r => if nd ns s = n then r else s :: r
theorem stk_eq (ns : List Int) (t : Nat) : stkV ns (t + 1) = t :: eqPop ns (nd ns t) (popV ns (nd ns t) t (stkV ns t) []).1 := by
  show t :: _ = _
  dsimp only
  congr 1
/-- the stack behind the pops -/
theorem pop_drop (ns : List Int) (n : Int) (t : Nat) : ∀ (S : List Nat) (f : List V4), (popV ns n t S f).1 = S.dropWhile fun s => decide (nd ns s < n)
  | [], f => by simp [popV]
  | [s], f => by
    unfold popV
    split
    · rename_i h
      simp [popV, h]
    · rename_i h
      simp [h]
  | s :: a :: r, f => by
    unfold popV
    split
    · rename_i h
      dsimp only
      rw [pop_drop ns n t (a :: r)]
      simp [List.dropWhile_cons, h]
    · rename_i h
      simp [List.dropWhile_cons, h]
def restV (ns : List Int) (n : Int) (S : List Nat) : List Nat := S.dropWhile fun s => decide (nd ns s ≤ n)
theorem rest_is {ns : List Int} {n : Int} : ∀ {S : List Nat}, Inc ns S → (match S.dropWhile (fun s => decide (nd ns s < n)) with
      | [] => []
      | s :: r => if nd ns s = n then r else s :: r) = restV ns n S
  | [], _ => rfl
  | s :: r, h => by
    unfold restV
    by_cases h1 : nd ns s < n
    · rw [List.dropWhile_cons_of_pos (by simpa using h1), List.dropWhile_cons_of_pos (by simp; omega)]
      exact rest_is (List.pairwise_cons.mp h).2
    · rw [List.dropWhile_cons_of_neg (by simpa using h1)]
      by_cases h2 : nd ns s = n
      · rw [List.dropWhile_cons_of_pos (by simp; omega)]
        simp only [h2, if_true]
        have h3 := (List.pairwise_cons.mp h).1
        cases r with
        | nil => rfl
        | cons a r' =>
          rw [List.dropWhile_cons_of_neg]
          have := h3 a (by simp)
          simp
          omega
      · rw [List.dropWhile_cons_of_neg (by simp; omega)]
        simp only [h2, if_false]
/-- the stack tells for each layer the last tick at which it is on -/
structure StkOk (ns : List Int) (t : Nat) (S : List Nat) : Prop where
  inc : Inc ns S
  last : ∀ k, (onL ns k t).getLast? = (S.find? fun s => decide (k ≤ nd ns s)).map fun (s : Nat) => (s : Int)
  head : ∀ s r, S = s :: r → s + 1 = t
  lt : ∀ s ∈ S, s < t
  some : 0 < t → S ≠ []
theorem find_rest {ns : List Int} {n k : Int} (hk : n < k) : ∀ {S : List Nat}, (restV ns n S).find? (fun s => decide (k ≤ nd ns s)) = S.find? fun s => decide (k ≤ nd ns s)
  | [] => rfl
  | s :: r => by
    unfold restV
    by_cases h1 : nd ns s ≤ n
    · rw [List.dropWhile_cons_of_pos (by simpa using h1), List.find?_cons_of_neg (by simp; omega)]
      exact find_rest hk
    · rw [List.dropWhile_cons_of_neg (by simpa using h1)]
theorem inc_rest {ns : List Int} {n : Int} : ∀ {S : List Nat}, Inc ns S → Inc ns (restV ns n S) ∧ ∀ s ∈ restV ns n S, n < nd ns s ∧ s ∈ S
  | [], _ => ⟨List.Pairwise.nil, fun _ h => by simp [restV] at h⟩
  | s :: r, h => by
    unfold restV
    by_cases h1 : nd ns s ≤ n
    · rw [List.dropWhile_cons_of_pos (by simpa using h1)]
      have := inc_rest (n := n) (List.pairwise_cons.mp h).2
      exact ⟨this.1, fun x hx => ⟨(this.2 x hx).1, List.mem_cons_of_mem _ (this.2 x hx).2⟩⟩
    · rw [List.dropWhile_cons_of_neg (by simpa using h1)]
      refine ⟨h, fun x hx => ⟨?_, hx⟩⟩
      rcases List.mem_cons.mp hx with rfl | hx
      · omega
      · have := (List.pairwise_cons.mp h).1 x hx
        omega
theorem stk_succ {ns : List Int} {t : Nat} (h : Inc ns (stkV ns t)) : stkV ns (t + 1) = t :: restV ns (nd ns t) (stkV ns t) := by
  show t :: _ = _
  dsimp only
  rw [pop_drop, rest_is h]
theorem stk_ok {ns : List Int} : ∀ t, t ≤ ns.length → StkOk ns t (stkV ns t)
  | 0, _ => ⟨List.Pairwise.nil, fun k => by simp [onL, stkV], fun _ _ e => by simp [stkV] at e, fun _ e => by simp [stkV] at e, fun e => by omega⟩
  | t + 1, hl => by
    have O := stk_ok (ns := ns) t (by omega)
    have hx : ns[t]? = some (nd ns t) := by
      unfold nd
      rw [List.getD_eq_getElem?_getD, List.getElem?_eq_getElem (by omega)]
      rfl
    have R := inc_rest (n := nd ns t) O.inc
    rw [stk_succ O.inc]
    refine ⟨List.pairwise_cons.mpr ⟨fun x hx => (R.2 x hx).1, R.1⟩, fun k => ?_, fun s r e => ?_, fun s hs => ?_, fun _ => by simp⟩
    · by_cases hk : k ≤ nd ns t
      · rw [onL_yes hx hk, List.find?_cons_of_pos (by simpa using hk)]
        simp
      · rw [onL_no hx hk, List.find?_cons_of_neg (by simpa using hk), find_rest (by omega)]
        exact O.last k
    · injection e with e _
      omega
    · rcases List.mem_cons.mp hs with rfl | hs
      · omega
      · have := O.lt s (R.2 s hs).2
        omega
/-! ### what the gaps of a layer cost -/
def gsum (b : Int) (l : List (Int × Int)) : Int := (l.map fun p => min p.2 b).sum
def gapC (ns : List Int) (b k : Int) (t : Nat) : Int := gsum b (pairsL (onL ns k t) ((onL ns k t).length - 1))
theorem pairs_snoc (b : Int) (hb : 0 ≤ b) (os : List Int) (x : Int) (hx : ∀ p, os.getLast? = some p → p < x) :
    gsum b (pairsL (os ++ [x]) (os.length)) = gsum b (pairsL os (os.length - 1)) + match os.getLast? with
      | some p => min (x - p - 1) b
      | none => 0 := by
  cases hos : os.length with
  | zero =>
    have : os = [] := List.length_eq_zero_iff.mp hos
    subst this
    simp [pairsL, gsum]
  | succ m =>
    have hl : os.getLast? = os[m]? := by rw [List.getLast?_eq_getElem?, hos]; rfl
    have hm : os[m]? = some (os.getD m 0) := by
      rw [List.getD_eq_getElem?_getD, List.getElem?_eq_getElem (by omega)]
      rfl
    rw [hl, hm]
    dsimp only
    have hp := hx _ (hl.trans hm)
    have e1 : (os ++ [x]).getD (m + 1) 0 = x := by
      rw [List.getD_eq_getElem?_getD, List.getElem?_append_right (by omega), hos]
      simp
    have e2 : ∀ j, j ≤ m → (os ++ [x]).getD j 0 = os.getD j 0 := by
      intro j hj
      rw [List.getD_eq_getElem?_getD, List.getElem?_append_left (by omega), List.getD_eq_getElem?_getD]
    have e3 : pairsL (os ++ [x]) m = pairsL os m := by
      unfold pairsL
      have hf : (List.range m).filter (fun j => decide (1 < (os ++ [x]).getD (j + 1) 0 - (os ++ [x]).getD j 0)) = (List.range m).filter fun j => decide (1 < os.getD (j + 1) 0 - os.getD j 0) := by
        refine List.filter_congr fun j hj => ?_
        have := List.mem_range.mp hj
        rw [e2 _ (by omega), e2 _ (by omega)]
      rw [hf]
      refine List.map_congr_left fun j hj => ?_
      have := List.mem_range.mp (List.mem_filter.mp hj).1
      rw [e2 _ (by omega), e2 _ (by omega)]
    have e4 : pairsL (os ++ [x]) (m + 1) = pairsL os m ++ if 1 < x - os.getD m 0 then [(os.getD m 0 + 1, x - os.getD m 0 - 1)] else [] := by
      rw [← e3]
      unfold pairsL
      rw [List.range_succ, List.filter_append, List.map_append, List.filter_cons, e1, e2 m (Nat.le_refl m)]
      congr 1
      by_cases h : 1 < x - os.getD m 0
      · rw [if_pos (decide_eq_true h), if_pos h]
        simp only [List.filter_nil, List.map_cons, List.map_nil, e1, e2 m (Nat.le_refl m)]
      · rw [if_neg (by simpa using h), if_neg h]
        rfl
    rw [e4, Nat.add_sub_cancel]
    by_cases h : 1 < x - os.getD m 0
    · rw [if_pos h]
      simp [gsum]
    · rw [if_neg h]
      have e0 : min (x - os.getD m 0 - 1) b = 0 := by omega
      rw [List.append_nil, e0, Int.add_zero]
theorem gap_step {ns : List Int} {b k : Int} (hb : 0 ≤ b) {t : Nat} (ht : t < ns.length) : gapC ns b k (t + 1) = gapC ns b k t + if k ≤ nd ns t then gS ns b t (stkV ns t) k else 0 := by
  have hx : ns[t]? = some (nd ns t) := by
    unfold nd
    rw [List.getD_eq_getElem?_getD, List.getElem?_eq_getElem ht]
    rfl
  have O := stk_ok (ns := ns) t (by omega)
  by_cases hk : k ≤ nd ns t
  · unfold gapC
    rw [onL_yes hx hk, if_pos hk]
    have hlen : ((onL ns k t ++ [(t : Int)]).length - 1) = (onL ns k t).length := by simp
    rw [hlen, pairs_snoc b hb]
    · rw [O.last k]
      unfold gS
      cases (stkV ns t).find? fun s => decide (k ≤ nd ns s) <;> rfl
    · intro p hp
      rw [O.last k] at hp
      cases h : (stkV ns t).find? fun s => decide (k ≤ nd ns s) with
      | none => rw [h] at hp; cases hp
      | some s =>
        rw [h] at hp
        have hp : (s : Int) = p := Option.some.inj hp
        have := O.lt s (List.mem_of_find?_eq_some h)
        omega
  · unfold gapC
    rw [onL_no hx hk, if_neg hk, Int.add_zero]
/-- the greatest need up to a tick, 0 if there is none -/
def topV (ns : List Int) : Nat → Int
  | 0 => 0
  | t + 1 => max (topV ns t) (nd ns t)
theorem top_nn {ns : List Int} : ∀ t, 0 ≤ topV ns t
  | 0 => Int.le_refl 0
  | t + 1 => by
    have := top_nn (ns := ns) t
    show 0 ≤ max _ _
    omega
theorem top_ge {ns : List Int} : ∀ t i, i < t → nd ns i ≤ topV ns t
  | t + 1, i, h => by
    show nd ns i ≤ max _ _
    by_cases e : i = t
    · subst e; omega
    · have := top_ge (ns := ns) t i (by omega)
      omega
theorem gap_above {ns : List Int} {b k : Int} : ∀ {t : Nat}, t ≤ ns.length → topV ns t < k → onL ns k t = [] ∧ gapC ns b k t = 0
  | 0, _, _ => by simp [onL, gapC, pairsL, gsum]
  | t + 1, hl, h => by
    have h : max (topV ns t) (nd ns t) < k := h
    have hx : ns[t]? = some (nd ns t) := by
      unfold nd
      rw [List.getD_eq_getElem?_getD, List.getElem?_eq_getElem (by omega)]
      rfl
    have := gap_above (ns := ns) (b := b) (k := k) (t := t) (by omega) (by omega)
    have e := onL_no hx (k := k) (by omega)
    refine ⟨e.trans this.1, ?_⟩
    unfold gapC at this ⊢
    rw [e]
    exact this.2
def gapsC (ns : List Int) (b : Int) (t : Nat) : Int := sumK (fun k => gapC ns b k t) 0 (topV ns t).toNat
theorem sumK_plus {f g : Int → Int} {lo : Int} : ∀ {m : Nat}, sumK (fun k => f k + g k) lo m = sumK f lo m + sumK g lo m
  | 0 => rfl
  | m + 1 => by
    unfold sumK
    rw [sumK_plus]
    omega
theorem new_cost {ns : List Int} {b : Int} (hb : 0 ≤ b) (hn : ∀ i, 0 ≤ nd ns i) {t : Nat} (ht : t < ns.length) :
    vsC b (newV ns t) = sumK (gS ns b t (stkV ns t)) 0 (nd ns t).toNat := by
  have O := stk_ok (ns := ns) t (by omega)
  unfold newV
  cases hS : stkV ns t with
  | nil =>
    rw [sumK_zero]
    · simp [popV, vsC]
    · intro k _ _
      simp [gS]
  | cons s r =>
    have hs : s + 1 = t := O.head s r hS
    have low : ∀ k, k ≤ nd ns s → gS ns b t (s :: r) k = 0 := by
      intro k hk
      unfold gS
      rw [List.find?_cons_of_pos (by simpa using hk)]
      dsimp only
      omega
    by_cases h : nd ns s ≤ nd ns t
    · rw [pop_cost ns _ b t s r (hS ▸ O.inc) h]
      have := hn s
      rw [show (nd ns t).toNat = (nd ns s).toNat + (nd ns t - nd ns s).toNat by omega, sumK_add, sumK_zero (lo := 0) fun k _ h2 => low k (by omega), Int.zero_add, show (0 : Int) + ((nd ns s).toNat : Int) = nd ns s by omega]
    · rw [sumK_zero fun k _ h2 => low k (by omega)]
      unfold popV
      rw [if_neg (by omega)]
      rfl
theorem gaps_step {ns : List Int} {b : Int} (hb : 0 ≤ b) (hn : ∀ i, 0 ≤ nd ns i) {t : Nat} (ht : t < ns.length) : gapsC ns b (t + 1) = gapsC ns b t + vsC b (newV ns t) := by
  have ht0 := top_nn (ns := ns) t
  have hN := hn t
  unfold gapsC
  rw [sumK_congr (g := fun k => gapC ns b k t + if k ≤ nd ns t then gS ns b t (stkV ns t) k else 0) fun k _ _ => gap_step hb ht, sumK_plus, new_cost hb hn ht]
  have e : topV ns (t + 1) = max (topV ns t) (nd ns t) := rfl
  congr 1
  · rw [show (topV ns (t + 1)).toNat = (topV ns t).toNat + ((topV ns (t + 1)).toNat - (topV ns t).toNat) by omega, sumK_add]
    rw [sumK_zero (lo := 0 + ((topV ns t).toNat : Int)) fun k h1 _ => (gap_above (ns := ns) (b := b) (k := k) (t := t) (by omega) (by omega)).2, Int.add_zero]
  · rw [show (topV ns (t + 1)).toNat = (nd ns t).toNat + ((topV ns (t + 1)).toNat - (nd ns t).toNat) by omega, sumK_add]
    rw [sumK_zero (lo := 0 + ((nd ns t).toNat : Int)) fun k h1 _ => by rw [if_neg (by omega)], Int.add_zero]
    exact sumK_congr fun k _ h2 => by rw [if_pos (by omega)]
/-- the sum of all valleys is what the gaps of all layers cost -/
theorem val_gaps {ns : List Int} {b : Int} (hb : 0 ≤ b) (hn : ∀ i, 0 ≤ nd ns i) : ∀ t, t ≤ ns.length → vsC b (valV4 ns t) = gapsC ns b t
  | 0, _ => by simp [vsC, valV4, gapsC, topV, sumK]
  | t + 1, h => by
    show vsC b (valV4 ns t ++ newV ns t) = _
    rw [vsC_app, val_gaps hb hn t (by omega), gaps_step hb hn (by omega)]
/-- the least cost by layers, up to a tick -/
def layC (ns : List Int) (b : Int) (t : Nat) : Int := (ns.take t).sum + b * topV ns t + gapsC ns b t
/-! ### where valleys lie -/
structure VOk (ns : List Int) (t : Nat) (v : V4) : Prop where
  beg : 0 ≤ v.1
  len : 0 ≤ v.2.1
  fin : v.1 + v.2.1 = t
  low : v.2.2.1 < v.2.2.2
  lows : ∃ i, i < t ∧ v.2.2.1 = nd ns i
  high : v.2.2.2 ≤ nd ns t
theorem pop_ok (ns : List Int) (n : Int) (t : Nat) (hn : n = nd ns t) : ∀ (S : List Nat), Inc ns S → (∀ s ∈ S, s < t) → (∀ v ∈ (popV ns n t S []).2, VOk ns t v) ∧ (popV ns n t S []).2.length + (popV ns n t S []).1.length ≤ S.length
  | [], _, _ => by simp [popV]
  | [s], _, _ => by
    unfold popV
    split <;> simp [popV]
  | s :: a :: r, h, hl => by
    have ih := pop_ok ns n t hn (a :: r) (List.pairwise_cons.mp h).2 (fun x hx => hl x (List.mem_cons_of_mem _ hx))
    have hsa : nd ns s < nd ns a := (List.pairwise_cons.mp h).1 a (by simp)
    have h1 := hl s (by simp)
    have h2 := hl a (by simp)
    unfold popV
    split
    · rename_i hlt
      dsimp only
      rw [popV_app]
      refine ⟨fun v hv => ?_, ?_⟩
      · rcases List.mem_append.mp hv with hv | hv
        · simp only [List.nil_append, List.mem_singleton] at hv
          subst hv
          refine ⟨?_, ?_, ?_, ?_, ⟨s, h1, rfl⟩, ?_⟩ <;> dsimp only <;> omega
        · exact ih.1 v hv
      · simp only [List.nil_append, List.length_append, List.length_cons, List.length_nil]
        have := ih.2
        simp only [List.length_cons] at this
        omega
    · simp
theorem new_ok {ns : List Int} {t : Nat} (ht : t ≤ ns.length) : ∀ v ∈ newV ns t, VOk ns t v :=
  (pop_ok ns _ t rfl _ (stk_ok t ht).inc (stk_ok t ht).lt).1
theorem val_ok {ns : List Int} : ∀ t, t ≤ ns.length → ∀ v ∈ valV4 ns t, ∃ i, i < t ∧ VOk ns i v
  | 0, _, v, hv => by simp [valV4] at hv
  | t + 1, h, v, hv => by
    rcases List.mem_append.mp (show v ∈ valV4 ns t ++ newV ns t from hv) with hv | hv
    · obtain ⟨i, hi, o⟩ := val_ok t (by omega) v hv
      exact ⟨i, by omega, o⟩
    · exact ⟨t, by omega, new_ok (by omega) v hv⟩
theorem rest_len {ns : List Int} {n : Int} {S : List Nat} : (restV ns n S).length ≤ (S.dropWhile fun s => decide (nd ns s < n)).length := by
  induction S with
  | nil => simp [restV]
  | cons s r ih =>
    unfold restV at ih ⊢
    by_cases h1 : nd ns s < n
    · rw [List.dropWhile_cons_of_pos (by simp; omega), List.dropWhile_cons_of_pos (by simpa using h1)]
      exact ih
    · rw [List.dropWhile_cons_of_neg (p := fun s => decide (nd ns s < n)) (by simpa using h1)]
      exact (List.dropWhile_sublist _).length_le
theorem val_len {ns : List Int} : ∀ t, t ≤ ns.length → (valV4 ns t).length + (stkV ns t).length ≤ t
  | 0, _ => by simp [valV4, stkV]
  | t + 1, h => by
    have O := stk_ok (ns := ns) t (by omega)
    have ih := val_len (ns := ns) t (by omega)
    have p := (pop_ok ns (nd ns t) t rfl _ O.inc O.lt).2
    rw [pop_drop] at p
    have r := rest_len (ns := ns) (n := nd ns t) (S := stkV ns t)
    rw [stk_succ O.inc]
    show (valV4 ns t ++ newV ns t).length + (t :: restV ns (nd ns t) (stkV ns t)).length ≤ t + 1
    rw [List.length_append, List.length_cons]
    unfold newV
    omega
end WK
set_option Elab.async false
set_option linter.all false
set_option maxRecDepth 100000
namespace WK
open PySem PySem.Spec PyProof.Rows L2
theorem get_listB {X : Cx} : PGet X (fun x y H Q => ∃ p xs i v, x = .ref p ∧ y = .int i ∧ SqL X.K H p xs ∧ 0 ≤ i ∧ xs[i.toNat]? = some v ∧ Q v H) := by
  intro pins s σ H x y v u Q I rx ry h
  obtain ⟨p, xs, i, z, rfl, rfl, hq, h0, he, q⟩ := h
  cases rx
  obtain ⟨t, rfl⟩ := ry
  obtain ⟨its, r, pl, hz⟩ := I.list hq
  obtain ⟨w, ew, rw'⟩ := r.get he
  have hn := line63
  have hi := (List.getElem?_eq_some_iff.mp he).1
  exact wpAny_getItem_list pl.isList h0 (by omega) (by simpa using ew) ⟨z, H, I, rw', q⟩
def v4L (v : V4) : List Int := [v.1, v.2.1, v.2.2.1, v.2.2.2]
/-- a row of tuples of numbers -/
inductive AllT (K : PySem.W.Frag) (H : Hp) : List V → List (List Int) → Prop
  | nil : AllT K H [] []
  | cons {v : V} {vs : List V} {s : List Int} {ss : List (List Int)} : TupI K H v s → AllT K H vs ss → AllT K H (v :: vs) (s :: ss)
theorem TupI.same {K : PySem.W.Frag} {H H' : Hp} {v : V} {s : List Int} (e : Same H H') (h : TupI K H v s) : TupI K H' v s := by
  obtain ⟨t, rfl, h⟩ := h
  exact ⟨t, rfl, sq_same e h⟩
theorem AllT.same {K : PySem.W.Frag} {H H' : Hp} (e : Same H H') : ∀ {vs : List V} {ss : List (List Int)}, AllT K H vs ss → AllT K H' vs ss
  | _, _, .nil => .nil
  | _, _, .cons a b => .cons (TupI.same e a) (AllT.same e b)
theorem sqt_upd {K : PySem.W.Frag} {H : Hp} {a t : Addr} {xs : List V} {o : HO} {l : List V} (h : SqT K H t l) (ha : H a = some (.lst xs)) : SqT K (upd H a o) t l := by
  rcases h with (h | ⟨q, h⟩) | h
  · exact .inl (.inl (by rw [upd_ne (ne_of h ha (by intro z; cases z))]; exact h))
  · exact .inl (.inr ⟨q, by rw [upd_ne (ne_of h ha (by intro z; cases z))]; exact h⟩)
  · exact .inr h
theorem AllT.upd {K : PySem.W.Frag} {H : Hp} {a : Addr} {xs : List V} {o : HO} (ha : H a = some (.lst xs)) : ∀ {vs : List V} {ss : List (List Int)}, AllT K H vs ss → AllT K (upd H a o) vs ss
  | _, _, .nil => .nil
  | _, _, .cons ⟨t, e, h⟩ b => .cons ⟨t, e, sqt_upd h ha⟩ (AllT.upd ha b)
theorem AllT.len {K : PySem.W.Frag} {H : Hp} : ∀ {vs : List V} {ss : List (List Int)}, AllT K H vs ss → vs.length = ss.length
  | _, _, .nil => rfl
  | _, _, .cons _ b => congrArg (· + 1) (AllT.len b)
theorem AllT.snoc {K : PySem.W.Frag} {H : Hp} : ∀ {vs : List V} {ss : List (List Int)} {v : V} {s : List Int}, AllT K H vs ss → TupI K H v s → AllT K H (vs ++ [v]) (ss ++ [s])
  | _, _, _, _, .nil, h => .cons h .nil
  | _, _, _, _, .cons a b, h => .cons a (AllT.snoc b h)
theorem AllT.get {K : PySem.W.Frag} {H : Hp} : ∀ {vs : List V} {ss : List (List Int)} {i : Nat} {v : V}, AllT K H vs ss → vs[i]? = some v → ∃ s, ss[i]? = some s ∧ TupI K H v s
  | _, _, _, _, .nil, e => by simp at e
  | _, _, 0, v, .cons a _, e => by
    have e : _ = v := Option.some.inj e
    subst e
    exact ⟨_, rfl, a⟩
  | _, _, i + 1, v, .cons _ b, e => AllT.get (i := i) b e
theorem AllT.mem {K : PySem.W.Frag} {H : Hp} : ∀ {vs : List V} {ss : List (List Int)} {v : V}, AllT K H vs ss → v ∈ vs → ∃ s, s ∈ ss ∧ TupI K H v s
  | _, _, _, .nil, e => by simp at e
  | _, _, v, .cons a b, e => by
    rcases List.mem_cons.mp e with rfl | e
    · exact ⟨_, by simp, a⟩
    · obtain ⟨s, h1, h2⟩ := AllT.mem b e
      exact ⟨s, List.mem_cons_of_mem _ h1, h2⟩
theorem AllT.perm {K : PySem.W.Frag} {H : Hp} {vs ws : List V} (p : ws.Perm vs) : ∀ {ss : List (List Int)}, AllT K H vs ss → ∃ ts, ts.Perm ss ∧ AllT K H ws ts := by
  have q := p.symm
  clear p
  induction q with
  | nil => exact fun h => ⟨_, .refl _, h⟩
  | cons x _ ih =>
    intro ss h
    cases h with
    | cons a b =>
      obtain ⟨ts, h1, h2⟩ := ih b
      exact ⟨_, h1.cons _, .cons a h2⟩
  | swap x y l =>
    intro ss h
    cases h with
    | cons a b =>
      cases b with
      | cons b c => exact ⟨_, .swap _ _ _, .cons b (.cons a c)⟩
  | trans _ _ i1 i2 =>
    intro ss h
    obtain ⟨t1, p1, h1⟩ := i1 h
    obtain ⟨t2, p2, h2⟩ := i2 h1
    exact ⟨t2, p2.trans p1, h2⟩
theorem perm_map_v4 : ∀ {ts : List (List Int)} {l : List V4}, ts.Perm (l.map v4L) → ∃ l' : List V4, l'.Perm l ∧ ts = l'.map v4L := by
  intro ts l p
  generalize e : l.map v4L = ss at p
  have q := p.symm
  clear p
  induction q generalizing l with
  | nil => cases l with | nil => exact ⟨[], .refl _, rfl⟩ | cons _ _ => cases e
  | cons x _ ih =>
    cases l with
    | nil => cases e
    | cons v r =>
      injection e with e1 e2
      obtain ⟨l', h1, h2⟩ := ih e2
      exact ⟨v :: l', h1.cons _, by rw [h2, ← e1]; rfl⟩
  | swap x y l0 =>
    cases l with
    | nil => cases e
    | cons v r =>
      cases r with
      | nil => injection e with _ e; cases e
      | cons v2 r =>
        injection e with e1 e2
        injection e2 with e2 e3
        exact ⟨v2 :: v :: r, .swap _ _ _, by rw [← e1, ← e2, ← e3]; rfl⟩
  | trans _ _ i1 i2 =>
    obtain ⟨l1, p1, h1⟩ := i1 e
    obtain ⟨l2, p2, h2⟩ := i2 h1.symm
    exact ⟨l2, p2.trans p1, h2⟩
/-! ### contracts of valleys -/
def BV : Int := 2000000000
/-- needs of the document, not too many -/
structure Nds (ns : List Int) : Prop where
  len : ns.length ≤ 63
  pos : ∀ z ∈ ns, 0 ≤ z ∧ z ≤ 1000000000
theorem Nds.nd {ns : List Int} (h : Nds ns) (i : Nat) : 0 ≤ nd ns i ∧ nd ns i ≤ 1000000000 := by
  unfold WK.nd
  rw [List.getD_eq_getElem?_getD]
  cases e : ns[i]? with
  | none => simp
  | some z => exact h.pos z (List.mem_of_getElem? e)
def CodeLe (l : List V4) : Prop := l.Pairwise fun v u => TS.code BV (v4L v) ≤ TS.code BV (v4L u)
def spValleys (K : PySem.W.Frag) : Sp := fun vs H Q _ => ∃ (t : Addr) (ns : List Int), vs = [.ref t] ∧ SqT K H t (ns.map V.int) ∧ Nds ns ∧
  ∀ H' g ws (l : List V4), Same H H' → H g = none → H' g = some (.lst ws) → AllT K H' ws (l.map v4L) → l.Perm (valV4 ns ns.length) → CodeLe l → Q (.ref g) H'
def spVCost (K : PySem.W.Frag) : Sp := fun vs H Q _ => ∃ (v : V) (x : V4) (b : Int), vs = [v, .int b] ∧ TupI K H v (v4L x) ∧ 0 ≤ x.2.1 ∧ x.2.1 ≤ 1000000 ∧ 0 ≤ b ∧ (∀ H', Same H H' → Q (.int (vcost b x)) H')
end WK
namespace WK
open PySem PySem.Spec PyProof.Rows L2
theorem ifF {A B : Prop} {c : Bool} (e : c = false) (h : B) : if c = true then A else B := by
  rw [if_neg (by rw [e]; exact Bool.false_ne_true)]
  exact h
theorem same_upd {H G : Hp} {a : Addr} {o : HO} (sm : Same H G) (ha : H a = none) : Same H (upd G a o) := fun b x e => by
  rw [upd_ne (ne_of_none e ha)]
  exact sm _ _ e
theorem revL (r : List Nat) (s : Nat) : ((s :: r).reverse.map fun (s : Nat) => V.int s) = (r.reverse.map fun (s : Nat) => V.int s) ++ [V.int s] := by
  rw [List.reverse_cons, List.map_append]
  rfl
theorem ndAt {ns : List Int} {s : Nat} (h : s < ns.length) : (ns.map V.int)[s]? = some (V.int (nd ns s)) := by
  rw [List.getElem?_map]
  unfold nd
  rw [List.getD_eq_getElem?_getD, List.getElem?_eq_getElem h]
  rfl
theorem lastAt {l : List V} {v : V} : (l ++ [v])[(l ++ [v]).length - 1]? = some v := by
  rw [List.getElem?_append_right (by simp)]
  simp
end WK
namespace WK
open PySem PySem.Spec PyProof.Rows L2
theorem AllT.memR {K : PySem.W.Frag} {H : Hp} : ∀ {vs : List V} {ss : List (List Int)} {s : List Int}, AllT K H vs ss → s ∈ ss → ∃ v, v ∈ vs ∧ TupI K H v s
  | _, _, _, .nil, e => by simp at e
  | _, _, s, .cons a b, e => by
    rcases List.mem_cons.mp e with rfl | e
    · exact ⟨_, by simp, a⟩
    · obtain ⟨v, h1, h2⟩ := AllT.memR b e
      exact ⟨v, List.mem_cons_of_mem _ h1, h2⟩
theorem val_bd {ns : List Int} (hN : Nds ns) : ∀ v ∈ valV4 ns ns.length, TS.Bd BV (v4L v) := by
  intro v hv
  obtain ⟨i, hi, o⟩ := val_ok ns.length (Nat.le_refl _) v hv
  obtain ⟨j, hj, hl⟩ := o.lows
  have h1 := hN.nd j
  have h2 := hN.nd i
  have := hN.len
  have := o.beg
  have := o.len
  have := o.fin
  have := o.low
  have := o.high
  intro m hm
  unfold BV
  simp only [v4L, List.mem_cons, List.not_mem_nil, or_false] at hm
  rcases hm with rfl | rfl | rfl | rfl <;> omega
theorem code_le {K : PySem.W.Frag} {H : Hp} : ∀ {ys : List V} {l : List V4}, AllT K H ys (l.map v4L) → ys.Pairwise (fun x y => ∀ n m, TupI K H x n → TupI K H y m → TS.code BV n ≤ TS.code BV m) → CodeLe l
  | [], [], _, _ => List.Pairwise.nil
  | y :: ys, v :: l, .cons a b, h => by
    have h' := List.pairwise_cons.mp h
    refine List.pairwise_cons.mpr ⟨fun u hu => ?_, code_le b h'.2⟩
    obtain ⟨x, hx, hxu⟩ := AllT.memR b (List.mem_map.mpr ⟨u, hu, rfl⟩)
    exact h'.1 x hx _ _ a hxu
end WK
namespace WK
open PySem PySem.Spec PyProof.Rows L2
/-! ### least costs so far, least costs by layers -/
def riseL (ns : List Int) (b : Int) (l : List V4) : List Int := (List.range ns.length).map fun j => nd ns j + vsC b (l.filter fun v => decide (v.1 + v.2.1 = (j : Int)))
theorem riseL_at {ns : List Int} {b : Int} {l : List V4} {j : Nat} (h : j < ns.length) : (riseL ns b l)[j]? = some (nd ns j + vsC b (l.filter fun v => decide (v.1 + v.2.1 = (j : Int)))) := by
  unfold riseL
  rw [List.getElem?_map, List.getElem?_range h]
  rfl
theorem riseL_len (ns : List Int) (b : Int) (l : List V4) : (riseL ns b l).length = ns.length := by simp [riseL]
theorem nd_at {ns : List Int} {i : Nat} (h : i < ns.length) : ns[i]? = some (nd ns i) := by
  unfold nd
  rw [List.getD_eq_getElem?_getD, List.getElem?_eq_getElem h]
  rfl
theorem riseL_nil (ns : List Int) (b : Int) : riseL ns b [] = ns := by
  refine List.ext_getElem? fun i => ?_
  by_cases h : i < ns.length
  · rw [riseL_at h, nd_at h]
    simp [vsC]
  · rw [List.getElem?_eq_none (by rw [riseL_len]; omega), List.getElem?_eq_none (by omega)]
theorem riseL_snoc {ns : List Int} {b : Int} {l : List V4} {v : V4} {j : Nat} (hj : v.1 + v.2.1 = (j : Int)) (h : j < ns.length) :
    (riseL ns b l).set j (nd ns j + vsC b (l.filter fun v => decide (v.1 + v.2.1 = (j : Int))) + vcost b v) = riseL ns b (l ++ [v]) := by
  refine List.ext_getElem? fun i => ?_
  rw [List.getElem?_set]
  have hlen := riseL_len ns b l
  by_cases hi : i < ns.length
  · rw [riseL_at hi (l := l ++ [v]), List.filter_append, vsC_app]
    by_cases e : j = i
    · subst e
      rw [if_pos rfl, if_pos (by omega)]
      simp [hj, vsC, Int.add_assoc]
    · rw [if_neg e, riseL_at hi]
      have : ¬ v.1 + v.2.1 = (i : Int) := by omega
      simp [this, vsC]
  · have h2 := riseL_len ns b (l ++ [v])
    rw [List.getElem?_eq_none (l := riseL ns b (l ++ [v])) (by omega)]
    split
    · omega
    · rw [List.getElem?_eq_none (by omega)]
theorem vsC_perm {b : Int} {l m : List V4} (p : l.Perm m) : vsC b l = vsC b m := by
  unfold vsC
  induction p with
  | nil => rfl
  | cons x _ ih => simp [ih]
  | swap x y l => simp; omega
  | trans _ _ a b => exact a.trans b
theorem filter_new {ns : List Int} {j : Nat} : ∀ t, t ≤ ns.length → (valV4 ns t).filter (fun v => decide (v.1 + v.2.1 = (j : Int))) = if j < t then newV ns j else []
  | 0, _ => by simp [valV4]
  | t + 1, h => by
    show (valV4 ns t ++ newV ns t).filter _ = _
    rw [List.filter_append, filter_new t (by omega)]
    by_cases e : j = t
    · subst e
      rw [if_neg (by omega), if_pos (by omega), List.nil_append]
      refine List.filter_eq_self.mpr fun v hv => ?_
      exact decide_eq_true (new_ok (by omega) v hv).fin
    · have : (newV ns t).filter (fun v => decide (v.1 + v.2.1 = (j : Int))) = [] := by
        refine List.filter_eq_nil_iff.mpr fun v hv => ?_
        have := (new_ok (by omega) v hv).fin
        simp
        omega
      rw [this, List.append_nil]
      by_cases h1 : j < t
      · rw [if_pos h1, if_pos (by omega)]
      · rw [if_neg h1, if_neg (by omega)]
theorem rise_new {ns : List Int} {b : Int} {l : List V4} (p : l.Perm (valV4 ns ns.length)) {j : Nat} (h : j < ns.length) : (riseL ns b l)[j]? = some (nd ns j + vsC b (newV ns j)) := by
  rw [riseL_at h, vsC_perm (p.filter _), filter_new _ (Nat.le_refl _), if_pos h]
/-- what has been paid for the ticks up to one, and the gaps that they close -/
def paidV (ns : List Int) (b : Int) : Nat → Int
  | 0 => 0
  | t + 1 => paidV ns b t + (nd ns t + vsC b (newV ns t))
theorem take_nd {ns : List Int} {t : Nat} (h : t < ns.length) : (ns.take (t + 1)).sum = (ns.take t).sum + nd ns t := by
  rw [List.take_add_one, nd_at h]
  simp
theorem paid_is {ns : List Int} {b : Int} : ∀ t, t ≤ ns.length → paidV ns b t = (ns.take t).sum + vsC b (valV4 ns t)
  | 0, _ => by simp [paidV, valV4, vsC]
  | t + 1, h => by
    show paidV ns b t + _ = _
    rw [paid_is t (by omega), take_nd (by omega)]
    show _ = _ + vsC b (valV4 ns t ++ newV ns t)
    rw [vsC_app]
    omega
def soFar (ns : List Int) (b : Int) (i : Nat) : List Int := (List.range i).map fun t => layC ns b (t + 1)
theorem paid_lay {ns : List Int} {b : Int} (hb : 0 ≤ b) (hn : ∀ i, 0 ≤ nd ns i) {t : Nat} (h : t ≤ ns.length) : paidV ns b t + b * topV ns t = layC ns b t := by
  unfold layC
  rw [paid_is t h, val_gaps hb hn t h]
  omega
theorem soFar_succ {ns : List Int} {b : Int} {i : Nat} : soFar ns b (i + 1) = soFar ns b i ++ [layC ns b (i + 1)] := by
  unfold soFar
  rw [List.range_succ, List.map_append]
  rfl
def spSoFar (K : PySem.W.Frag) : Sp := fun vs H Q _ => ∃ (t : Addr) (ns : List Int) (b : Int), vs = [.ref t, .int b] ∧ SqT K H t (ns.map V.int) ∧ Nds ns ∧ 0 ≤ b ∧
  ∀ H' g, Same H H' → H g = none → H' g = some (.lst ((soFar ns b ns.length).map V.int)) → Q (.ref g) H'
def spLayCost (K : PySem.W.Frag) : Sp := fun vs H Q _ => ∃ (t : Addr) (ns : List Int) (b : Int), vs = [.ref t, .int b] ∧ H t = some (.tup (ns.map V.int)) ∧ Nds ns ∧ 0 ≤ b ∧
  ∀ H', Same H H' → Q (.int (layC ns b ns.length)) H'
/-- the law's own sum, layer by layer -/
def lawLay (ns : List Int) (b : Int) : Nat → Int
  | 0 => ns.sum
  | m + 1 => lawLay ns b m + b + gsum b (gapsL ns (1 + m))
theorem lawLay_is {ns : List Int} {b : Int} : ∀ m, lawLay ns b m = ns.sum + b * m + sumK (fun k => gapC ns b k ns.length) 0 m
  | 0 => by simp [lawLay, sumK]
  | m + 1 => by
    show lawLay ns b m + b + gsum b (gapsL ns (1 + m)) = _
    rw [lawLay_is m]
    show _ = ns.sum + b * ((m + 1 : Nat) : Int) + (sumK (fun k => gapC ns b k ns.length) 0 m + gapC ns b (0 + 1 + m) ns.length)
    rw [Int.natCast_add, Int.mul_add, show (0 : Int) + 1 + m = 1 + m by omega]
    unfold gapsL gapC
    simp only [Int.natCast_one, Int.mul_one]
    omega
theorem lawLay_top {ns : List Int} {b : Int} : lawLay ns b (topV ns ns.length).toNat = layC ns b ns.length := by
  rw [lawLay_is]
  unfold layC gapsC
  rw [List.take_length, Int.toNat_of_nonneg (top_nn _)]
theorem top_max {ns : List Int} {m : Int} (h1 : m ∈ (0 : Int) :: ns) (h2 : ∀ y ∈ (0 : Int) :: ns, y ≤ m) : m = topV ns ns.length := by
  have h0 := top_nn (ns := ns) ns.length
  have key : ∀ t, t ≤ ns.length → topV ns t ≤ m := by
    intro t
    induction t with
    | zero =>
      intro _
      exact h2 0 (by simp)
    | succ t ih =>
      intro h
      have a := ih (by omega)
      have c : nd ns t ∈ ns := by
        unfold nd
        rw [List.getD_eq_getElem?_getD, List.getElem?_eq_getElem (by omega)]
        exact List.getElem_mem _
      have := h2 _ (List.mem_cons_of_mem _ c)
      show max _ _ ≤ _
      omega
  have k := key _ (Nat.le_refl _)
  rcases List.mem_cons.mp h1 with rfl | h1
  · omega
  · obtain ⟨i, hi, e⟩ := List.getElem_of_mem h1
    have := top_ge (ns := ns) ns.length i hi
    have e2 : nd ns i = m := by
      unfold nd
      rw [List.getD_eq_getElem?_getD, List.getElem?_eq_getElem hi, ← e]
      rfl
    omega
end WK
namespace WK
open PySem PySem.Spec PyProof.Rows L2
theorem ixN_nat {n k : Nat} {z : Int} (e : z = (k : Int)) (h : k < n) : ixN n z = some k := by
  subst e
  unfold ixN
  rw [if_pos (by omega), if_pos (by omega)]
  rfl
end WK
namespace WK
open PySem PySem.Spec PyProof.Rows L2
theorem top_le {ns : List Int} (hN : Nds ns) : ∀ t, topV ns t ≤ 1000000000
  | 0 => by show (0 : Int) ≤ _; decide
  | t + 1 => by
    have h1 := top_le hN t
    have h2 := (hN.nd t).2
    show max _ _ ≤ _
    omega
end WK
namespace WK
open PySem PySem.Spec PyProof.Rows L2
theorem gaps_get {K : PySem.W.Frag} {H : Hp} : ∀ {ps : List (Int × Int)} {ws : List V} {i : Nat} {x : V}, DpAll K H ws (ps.map prD) → ws[i]? = some x → ∃ p, ps[i]? = some p ∧ ∃ t, x = .ref t ∧ SqT K H t [.int p.1, .int p.2]
  | [], ws, i, x, h, e => by
    cases h
    simp at e
  | p :: ps, ws, i, x, h, e => by
    cases h with
    | cons h1 h2 =>
      cases i with
      | zero =>
        have e : some _ = some x := e
        injection e with e
        subst e
        cases h1 with
        | tup h3 h5 =>
          refine ⟨p, rfl, _, rfl, ?_⟩
          cases h5 with
          | cons q1 q2 =>
            cases q2 with
            | cons q3 q4 =>
              cases q4
              cases q1
              cases q3
              exact h3
      | succ i =>
        rw [List.getElem?_cons_succ] at e ⊢
        exact gaps_get h2 e
end WK
namespace WK
open PySem PySem.Spec PyProof.Rows L2
theorem shows_lst {ns : List Int} (h : ∀ z ∈ ns, z.natAbs < 10 ^ 150) (hl : ns.length ≤ 5000) : Shows (.list (intsD ns)) := by
  have ci := cost_ints (ns := ns)
  refine shows_of (by simpa only [Lil] using lil_ints h) ?_ ?_
  · simp only [PyData.depth, depth_ints]
    omega
  · simp only [cost]
    refine Nat.le_trans (show _ ≤ 1000000 by omega) (by decide)
theorem vcost_bd {ns : List Int} (hN : Nds ns) {b : Int} (hb : 0 ≤ b) {t : Nat} {v : V4} (ht : t ≤ 63) (o : VOk ns t v) : 0 ≤ vcost b v ∧ vcost b v ≤ 1000000000 * 63 := by
  obtain ⟨j, hj, hl⟩ := o.lows
  have h1 := hN.nd j
  have h2 := hN.nd t
  have h3 := o.high
  have h4 := o.low
  have h5 := o.len
  have h6 := o.beg
  have h7 := o.fin
  unfold vcost
  constructor
  · exact Int.mul_nonneg (by omega) (by omega)
  · exact Int.mul_le_mul (by omega) (by omega) (by omega) (by omega)
theorem vsC_bd {b M : Int} : ∀ {l : List V4}, (∀ v ∈ l, 0 ≤ vcost b v ∧ vcost b v ≤ M) → 0 ≤ vsC b l ∧ vsC b l ≤ M * l.length
  | [], _ => by simp [vsC]
  | v :: l, h => by
    have a := vsC_bd fun u hu => h u (List.mem_cons_of_mem _ hu)
    have c := h v (by simp)
    have e : vsC b (v :: l) = vcost b v + vsC b l := by simp [vsC]
    rw [e, List.length_cons, Int.natCast_add, Int.mul_add]
    simp only [Int.natCast_one, Int.mul_one]
    omega
theorem lay_rise {ns : List Int} (hN : Nds ns) {b : Int} (hb : 0 ≤ b) {t : Nat} (h : t < ns.length) : layC ns b t + nd ns t ≤ layC ns b (t + 1) := by
  have hn := fun i => (hN.nd i).1
  have hl := hN.len
  rw [← paid_lay hb hn (t := t) (by omega), ← paid_lay hb hn (t := t + 1) (by omega)]
  show _ ≤ paidV ns b t + (nd ns t + vsC b (newV ns t)) + b * max (topV ns t) (nd ns t)
  have a := (vsC_bd (M := 1000000000 * 63) fun v hv => vcost_bd hN hb (t := t) (by omega) (new_ok (by omega) v hv)).1
  have m : b * topV ns t ≤ b * max (topV ns t) (nd ns t) := Int.mul_le_mul_of_nonneg_left (by omega) hb
  omega
theorem lay_bd {ns : List Int} (hN : Nds ns) {b : Int} (hb : 0 ≤ b) (hb2 : b ≤ 1000000000) : ∀ t, t ≤ ns.length → 0 ≤ layC ns b t ∧ layC ns b t ≤ 10000000000000000000000
  | 0, _ => by simp [layC, topV, gapsC, sumK]
  | t + 1, h => by
    have a := lay_bd hN hb hb2 t (by omega)
    have r := lay_rise hN hb (t := t) (by omega)
    have n := (hN.nd t).1
    refine ⟨by omega, ?_⟩
    have hn := fun i => (hN.nd i).1
    have hl := hN.len
    rw [← paid_lay hb hn (t := t + 1) (by omega), paid_is _ h]
    have c := (vsC_bd (b := b) (M := 1000000000 * 63) (l := valV4 ns (t + 1)) fun v hv => by
      obtain ⟨i, hi, o⟩ := val_ok (t + 1) h v hv
      exact vcost_bd hN hb (by omega) o).2
    have d := val_len (ns := ns) (t + 1) h
    have e : ∀ i, i ≤ ns.length → (ns.take i).sum ≤ 1000000000 * i := by
      intro i
      induction i with
      | zero => intro _; simp
      | succ i ih =>
        intro hi
        rw [take_nd (by omega)]
        have := ih (by omega)
        have := (hN.nd i).2
        omega
    have e1 := e (t + 1) h
    have g1 := top_nn (ns := ns) (t + 1)
    have g2 := top_le hN (t + 1)
    have g3 : b * topV ns (t + 1) ≤ 1000000000 * 1000000000 := Int.mul_le_mul hb2 g2 g1 (by decide)
    have c2 : (1000000000 * 63 : Int) * (valV4 ns (t + 1)).length ≤ 1000000000 * 63 * 63 := Int.mul_le_mul_of_nonneg_left (by omega) (by decide)
    omega
theorem soFar_small {ns : List Int} (hN : Nds ns) {b : Int} (hb : 0 ≤ b) (hb2 : b ≤ 1000000000) : ∀ z ∈ soFar ns b ns.length, z.natAbs < 10 ^ 150 := by
  intro z hz
  obtain ⟨t, ht, rfl⟩ := List.mem_map.mp hz
  have := List.mem_range.mp ht
  have h := lay_bd hN hb hb2 (t + 1) (by omega)
  have e : (10000000000000000000000 : Nat) < 10 ^ 150 := by decide +kernel
  omega
theorem soFar_len {ns : List Int} {b : Int} {i : Nat} : (soFar ns b i).length = i := by simp [soFar]
theorem soFar_at {ns : List Int} {b : Int} {i n : Nat} (h : i < n) : (soFar ns b n)[i]? = some (layC ns b (i + 1)) := by
  unfold soFar
  rw [List.getElem?_map, List.getElem?_range h]
  rfl
/-- a row cut behind a tick has the same costs up to it -/
theorem nd_take {ns : List Int} {i t : Nat} (h : i < t) : nd (ns.take t) i = nd ns i := by
  unfold nd
  rw [List.getD_eq_getElem?_getD, List.getD_eq_getElem?_getD, List.getElem?_take, if_pos h]
theorem top_take {ns : List Int} {t : Nat} : ∀ i, i ≤ t → topV (ns.take t) i = topV ns i
  | 0, _ => rfl
  | i + 1, h => by
    show max _ _ = max _ _
    rw [top_take i (by omega), nd_take (by omega)]
theorem onL_take {ns : List Int} {k : Int} {i t : Nat} (h : i ≤ t) : onL (ns.take t) k i = onL ns k i := by
  unfold onL
  congr 1
  refine List.filter_congr fun j hj => ?_
  have := List.mem_range.mp hj
  have e := nd_take (ns := ns) (i := j) (t := t) (by omega)
  unfold nd at e
  rw [e]
theorem lay_take {ns : List Int} {b : Int} {t : Nat} (h : t ≤ ns.length) : layC (ns.take t) b (ns.take t).length = layC ns b t := by
  have e : (ns.take t).length = t := by rw [List.length_take]; omega
  rw [e]
  unfold layC gapsC gapC
  rw [List.take_take, Nat.min_self, top_take t (Nat.le_refl _)]
  simp only [onL_take (Nat.le_refl _)]
theorem nds_take {ns : List Int} (h : Nds ns) (t : Nat) : Nds (ns.take t) := ⟨by rw [List.length_take]; have := h.len; omega, fun z hz => h.pos z (List.mem_of_mem_take hz)⟩
end WK
namespace WK
open PySem PySem.Spec PyProof.Rows L2
theorem slR {K : PySem.W.Frag} {lo hi : Option Int} {H : Hp} {Q : VK} {a : Addr} {xs : List V} (ht : H a = some (.tup xs))
    (k : ∀ p H', Same H H' → H' p = some (.tup (cutV xs lo hi)) → Q (.ref p) H') : rSlA K (.ref a) lo hi H Q := by
  refine ⟨a, xs, rfl, .inl (.inl ht), fun w => k a H (Same.refl _) ?_, fun _ p np => k p _ (same_new np) upd_same⟩
  have e : cutV xs lo hi = xs := by
    unfold cutV
    rw [w.1, w.2, List.drop_zero, Nat.sub_zero, List.take_length]
  rw [e]
  exact ht
theorem st_eq {t : TS} {D : Ends} {σ σ' : L2.St} {H : Hp} (e : σ = σ') (h : t D σ' H) : t D σ H := by
  rw [e]
  exact h
end WK
set_option Elab.async false
set_option linter.all false
set_option maxRecDepth 100000
namespace WK
/-! ### valleys, all of them -/
theorem strict_eq {α : Type} (f : α → Int) : ∀ {l m : List α}, l.Perm m → l.Pairwise (fun a b => f a ≤ f b) → m.Pairwise (fun a b => f a < f b) → l = m
  | [], m, p, _, _ => by rw [List.nil_perm.mp p]
  | x :: l, [], p, _, _ => by cases List.perm_nil.mp p
  | x :: l, y :: m, p, h1, h2 => by
    have a := List.pairwise_cons.mp h1
    have b := List.pairwise_cons.mp h2
    have e : x = y := by
      have hy : y ∈ x :: l := p.symm.mem_iff.mp (by simp)
      have hx : x ∈ y :: m := p.mem_iff.mp (by simp)
      rcases List.mem_cons.mp hy with e | hy
      · exact e.symm
      · rcases List.mem_cons.mp hx with e | hx
        · exact e
        · have := a.1 y hy
          have := b.1 x hx
          omega
    subst e
    rw [strict_eq f ((List.perm_cons x).mp p) a.2 b.2]
theorem strict_nodup {α : Type} (f : α → Int) {m : List α} (h : m.Pairwise fun a b => f a < f b) : m.Nodup := h.imp fun {a b} h e => by
  subst e
  omega
theorem strict_ext {α : Type} (f : α → Int) {l m : List α} (h1 : l.Pairwise fun a b => f a < f b) (h2 : m.Pairwise fun a b => f a < f b) (h : ∀ x, x ∈ l ↔ x ∈ m) : l = m :=
  strict_eq f ((List.perm_ext_iff_of_nodup (strict_nodup f h1) (strict_nodup f h2)).mpr h) (h1.imp fun h => by omega) h2
/-- the greatest need of m ticks from b on, at least 0 -/
def lowF (ns : List Int) (b : Nat) : Nat → Int
  | 0 => 0
  | m + 1 => max (lowF ns b m) (nd ns (b + m))
theorem lowF_ge {ns : List Int} {b : Nat} : ∀ {m i : Nat}, i < m → nd ns (b + i) ≤ lowF ns b m
  | m + 1, i, h => by
    show _ ≤ max _ _
    by_cases e : i = m
    · subst e; omega
    · have := lowF_ge (ns := ns) (b := b) (m := m) (i := i) (by omega)
      omega
theorem lowF_nn {ns : List Int} {b : Nat} : ∀ m, 0 ≤ lowF ns b m
  | 0 => Int.le_refl 0
  | m + 1 => by
    have := lowF_nn (ns := ns) (b := b) m
    show 0 ≤ max _ _
    omega
theorem lowF_le {ns : List Int} {b : Nat} {M : Int} (h0 : 0 ≤ M) : ∀ {m : Nat}, (∀ i, i < m → nd ns (b + i) ≤ M) → lowF ns b m ≤ M
  | 0, _ => h0
  | m + 1, h => by
    have := lowF_le h0 (m := m) fun i hi => h i (by omega)
    have := h m (by omega)
    show max _ _ ≤ _
    omega
def highF (ns : List Int) (b m : Nat) : Int := min (nd ns (b - 1)) (nd ns (b + m))
def vOf (ns : List Int) (b m : Nat) : V4 := ((b : Int), (m : Int), lowF ns b m, highF ns b m)
def rowV (ns : List Int) (b : Nat) : Nat → List V4
  | 0 => []
  | m + 1 => rowV ns b m ++ if lowF ns b (m + 1) < highF ns b (m + 1) then [vOf ns b (m + 1)] else []
def lawV (ns : List Int) : Nat → List V4
  | 0 => []
  | j + 1 => lawV ns j ++ rowV ns (j + 1) (ns.length - 1 - (j + 1))
structure IsV (ns : List Int) (b m : Nat) : Prop where
  b1 : 1 ≤ b
  m1 : 1 ≤ m
  fin : b + m < ns.length
  lt : lowF ns b m < highF ns b m
theorem row_mem {ns : List Int} {b : Nat} {v : V4} : ∀ {n : Nat}, v ∈ rowV ns b n ↔ ∃ m, 1 ≤ m ∧ m ≤ n ∧ lowF ns b m < highF ns b m ∧ v = vOf ns b m
  | 0 => by simp [rowV]; intro m h1 h2; omega
  | n + 1 => by
    unfold rowV
    rw [List.mem_append, row_mem]
    constructor
    · rintro (⟨m, h1, h2, h3, h4⟩ | h)
      · exact ⟨m, h1, by omega, h3, h4⟩
      · split at h
        · rename_i hlt
          exact ⟨n + 1, by omega, by omega, hlt, by simpa using h⟩
        · simp at h
    · rintro ⟨m, h1, h2, h3, h4⟩
      by_cases e : m = n + 1
      · subst e
        exact .inr (by rw [if_pos h3]; simp [h4])
      · exact .inl ⟨m, h1, by omega, h3, h4⟩
theorem law_mem {ns : List Int} {v : V4} : ∀ {j : Nat}, v ∈ lawV ns j ↔ ∃ b m, b ≤ j ∧ IsV ns b m ∧ v = vOf ns b m
  | 0 => by
    constructor
    · intro h
      simp [lawV] at h
    · rintro ⟨b, m, h1, h2, _⟩
      have := h2.b1
      omega
  | j + 1 => by
    unfold lawV
    rw [List.mem_append, law_mem, row_mem]
    constructor
    · rintro (⟨b, m, h1, h2, h3⟩ | ⟨m, h1, h2, h3, h4⟩)
      · exact ⟨b, m, by omega, h2, h3⟩
      · exact ⟨j + 1, m, by omega, ⟨by omega, h1, by omega, h3⟩, h4⟩
    · rintro ⟨b, m, h1, h2, h3⟩
      by_cases e : b = j + 1
      · subst e
        exact .inr ⟨m, h2.m1, by have := h2.fin; omega, h2.lt, h3⟩
      · exact .inl ⟨b, m, by omega, h2, h3⟩
def allV (ns : List Int) : List V4 := lawV ns (ns.length - 1)
theorem all_mem {ns : List Int} {v : V4} : v ∈ allV ns ↔ ∃ b m, IsV ns b m ∧ v = vOf ns b m := by
  unfold allV
  rw [law_mem]
  constructor
  · rintro ⟨b, m, _, h, e⟩
    exact ⟨b, m, h, e⟩
  · rintro ⟨b, m, h, e⟩
    exact ⟨b, m, by have := h.fin; have := h.m1; omega, h, e⟩
/-- begin first, then length -/
def vkey (v : V4) : Int := v.1 * 1000000 + v.2.1
theorem row_key {ns : List Int} {b : Nat} : ∀ n, (rowV ns b n).Pairwise (fun v u => vkey v < vkey u) ∧ ∀ v ∈ rowV ns b n, v.1 = b ∧ v.2.1 ≤ n ∧ 0 ≤ v.2.1
  | 0 => by simp [rowV]
  | n + 1 => by
    have ih := row_key (ns := ns) (b := b) n
    unfold rowV
    split
    · refine ⟨List.pairwise_append.mpr ⟨ih.1, by simp, fun v hv u hu => ?_⟩, fun v hv => ?_⟩
      · have h1 := ih.2 v hv
        rw [List.mem_singleton] at hu
        subst hu
        unfold vkey vOf
        dsimp only
        omega
      · rcases List.mem_append.mp hv with hv | hv
        · have h1 := ih.2 v hv
          omega
        · rw [List.mem_singleton] at hv
          subst hv
          refine ⟨rfl, ?_, ?_⟩ <;> (unfold vOf; dsimp only; omega)
    · rw [List.append_nil]
      exact ⟨ih.1, fun v hv => by have := ih.2 v hv; omega⟩
theorem law_key {ns : List Int} (hl : ns.length ≤ 100000) : ∀ j, (lawV ns j).Pairwise (fun v u => vkey v < vkey u) ∧ ∀ v ∈ lawV ns j, v.1 ≤ j ∧ v.2.1 ≤ 100000 ∧ 0 ≤ v.2.1
  | 0 => by simp [lawV]
  | j + 1 => by
    have ih := law_key hl j
    have r := row_key (ns := ns) (b := j + 1) (ns.length - 1 - (j + 1))
    unfold lawV
    refine ⟨List.pairwise_append.mpr ⟨ih.1, r.1, fun v hv u hu => ?_⟩, fun v hv => ?_⟩
    · have h1 := ih.2 v hv
      have h2 := r.2 u hu
      unfold vkey
      omega
    · rcases List.mem_append.mp hv with hv | hv
      · have := ih.2 v hv; omega
      · have := r.2 v hv; omega
/-! #### what the stack finds is just this -/
def GoodS (ns : List Int) (t : Nat) : List Nat → Prop
  | [] => True
  | [_] => True
  | s :: a :: r => (∀ j, a < j → j < t → nd ns j ≤ nd ns s) ∧ GoodS ns t (a :: r)
theorem good_up {ns : List Int} {t : Nat} : ∀ {S : List Nat}, (∀ s ∈ S, nd ns t ≤ nd ns s) → GoodS ns t S → GoodS ns (t + 1) S
  | [], _, _ => trivial
  | [_], _, _ => trivial
  | s :: a :: r, h, g => ⟨fun j h1 h2 => by
      by_cases e : j = t
      · subst e; exact h s (by simp)
      · exact g.1 j h1 (by omega), good_up (fun x hx => h x (List.mem_cons_of_mem _ hx)) g.2⟩
theorem good_rest {ns : List Int} {t : Nat} {n : Int} : ∀ {S : List Nat}, GoodS ns t S → (∀ s r, S = s :: r → ∀ j, s < j → j < t → nd ns j ≤ n) →
    GoodS ns t (restV ns n S) ∧ ∀ s r, restV ns n S = s :: r → ∀ j, s < j → j < t → nd ns j ≤ n
  | [], _, _ => ⟨trivial, fun _ _ e => by cases e⟩
  | s :: r, g, h => by
    unfold restV
    by_cases h1 : nd ns s ≤ n
    · rw [List.dropWhile_cons_of_pos (by simpa using h1)]
      cases r with
      | nil => exact ⟨trivial, fun _ _ e => by cases e⟩
      | cons a r =>
        refine good_rest g.2 fun s' r' e j h2 h3 => ?_
        injection e with e _
        subst e
        have := g.1 j h2 h3
        omega
    · rw [List.dropWhile_cons_of_neg (by simpa using h1)]
      exact ⟨g, h⟩
theorem stk_good {ns : List Int} : ∀ t, t ≤ ns.length → GoodS ns t (stkV ns t)
  | 0, _ => trivial
  | t + 1, h => by
    have O := stk_ok (ns := ns) t (by omega)
    have ih := stk_good (ns := ns) t (by omega)
    have r := good_rest (n := nd ns t) ih fun s r e j h1 h2 => by
      have := O.head s r e
      omega
    have i := inc_rest (n := nd ns t) O.inc
    have u := good_up (t := t) (fun s hs => by have := (i.2 s hs).1; omega) r.1
    rw [stk_succ O.inc]
    cases hq : restV ns (nd ns t) (stkV ns t) with
    | nil => trivial
    | cons a q =>
      rw [hq] at u
      refine ⟨fun j h1 h2 => ?_, u⟩
      by_cases e : j = t
      · subst e; omega
      · exact r.2 a q hq j h1 (by omega)
theorem stk_dec {ns : List Int} : ∀ t, t ≤ ns.length → (stkV ns t).Pairwise fun s a => a < s
  | 0, _ => List.Pairwise.nil
  | t + 1, h => by
    have O := stk_ok (ns := ns) t (by omega)
    have ih := stk_dec (ns := ns) t (by omega)
    rw [stk_succ O.inc]
    refine List.pairwise_cons.mpr ⟨fun a ha => O.lt a ((List.dropWhile_sublist _).mem ha), ih.sublist (List.dropWhile_sublist _)⟩
theorem pop_sound {ns : List Int} {t : Nat} (hn0 : ∀ i, 0 ≤ nd ns i) : ∀ (S : List Nat), GoodS ns t S → (∀ s ∈ S, s < t) → S.Pairwise (fun s a => a < s) → Inc ns S → t < ns.length →
    ∀ v ∈ (popV ns (nd ns t) t S []).2, ∃ a m, a ∈ S ∧ v = vOf ns (a + 1) m ∧ IsV ns (a + 1) m ∧ a + 1 + m = t
  | [], _, _, _, _, _, v, hv => by simp [popV] at hv
  | [s], _, _, _, _, _, v, hv => by
    unfold popV at hv
    split at hv <;> simp [popV] at hv
  | s :: a :: r, g, hl, hd, hi, ht, v, hv => by
    unfold popV at hv
    split at hv
    · rename_i hlt
      dsimp only at hv
      rw [popV_app] at hv
      rcases List.mem_append.mp hv with hv | hv
      · simp only [List.nil_append, List.mem_singleton] at hv
        have h1 := hl s (by simp)
        have h2 : a < s := (List.pairwise_cons.mp hd).1 a (by simp)
        have h3 : nd ns s < nd ns a := (List.pairwise_cons.mp hi).1 a (by simp)
        have hs : lowF ns (a + 1) (t - a - 1) = nd ns s := by
          apply Int.le_antisymm
          · exact lowF_le (hn0 s) fun i hi2 => g.1 _ (by omega) (by omega)
          · have := lowF_ge (ns := ns) (b := a + 1) (m := t - a - 1) (i := s - a - 1) (by omega)
            rw [show a + 1 + (s - a - 1) = s by omega] at this
            exact this
        have hh : highF ns (a + 1) (t - a - 1) = min (nd ns a) (nd ns t) := by
          unfold highF
          rw [show a + 1 - 1 = a by omega, show a + 1 + (t - a - 1) = t by omega]
        refine ⟨a, t - a - 1, by simp, ?_, ⟨by omega, by omega, by omega, by rw [hs, hh]; omega⟩, by omega⟩
        rw [hv]
        unfold vOf
        rw [hs, hh]
        have e1 : (a : Int) + 1 = ((a + 1 : Nat) : Int) := by omega
        have e2 : (t : Int) - a - 1 = ((t - a - 1 : Nat) : Int) := by omega
        rw [e1, e2]
      · obtain ⟨a', m, h1, h2, h3, h4⟩ := pop_sound hn0 (a :: r) g.2 (fun x hx => hl x (List.mem_cons_of_mem _ hx)) (List.pairwise_cons.mp hd).2 (List.pairwise_cons.mp hi).2 ht v hv
        exact ⟨a', m, List.mem_cons_of_mem _ h1, h2, h3, h4⟩
    · simp at hv
theorem pop_desc {ns : List Int} {n : Int} {t : Nat} : ∀ (S : List Nat), S.Pairwise (fun s a => a < s) → (popV ns n t S []).2.Pairwise (fun v u => u.1 < v.1) ∧ ∀ v ∈ (popV ns n t S []).2, ∃ a ∈ S.tail, v.1 = (a : Int) + 1
  | [], _ => by simp [popV]
  | [s], _ => by
    unfold popV
    split <;> simp [popV]
  | s :: a :: r, hd => by
    have ih := pop_desc (ns := ns) (n := n) (t := t) (a :: r) (List.pairwise_cons.mp hd).2
    have hr := (List.pairwise_cons.mp (List.pairwise_cons.mp hd).2).1
    unfold popV
    split
    · dsimp only
      rw [popV_app]
      refine ⟨List.pairwise_append.mpr ⟨by simp, ih.1, fun v hv u hu => ?_⟩, fun v hv => ?_⟩
      · simp only [List.nil_append, List.mem_singleton] at hv
        subst hv
        obtain ⟨c, hc, e⟩ := ih.2 u hu
        have := hr c hc
        dsimp only
        omega
      · rcases List.mem_append.mp hv with hv | hv
        · simp only [List.nil_append, List.mem_singleton] at hv
          subst hv
          exact ⟨a, by simp, rfl⟩
        · obtain ⟨c, hc, e⟩ := ih.2 v hv
          exact ⟨c, List.mem_cons_of_mem _ hc, e⟩
    · simp
theorem val_nodup {ns : List Int} : ∀ t, t ≤ ns.length → (valV4 ns t).Nodup
  | 0, _ => List.nodup_nil
  | t + 1, h => by
    show (valV4 ns t ++ newV ns t).Nodup
    refine List.pairwise_append.mpr ⟨val_nodup t (by omega), ?_, fun v hv u hu e => ?_⟩
    · exact (pop_desc _ (stk_dec t (by omega))).1.imp fun {v u} h e => by
        subst e
        omega
    · subst e
      obtain ⟨i, hi, o⟩ := val_ok t (by omega) v hv
      have o2 := new_ok (ns := ns) (t := t) (by omega) v hu
      have := o.fin
      have := o2.fin
      omega
theorem val_sound {ns : List Int} (hn0 : ∀ i, 0 ≤ nd ns i) : ∀ t, t ≤ ns.length → ∀ v ∈ valV4 ns t, ∃ b m, IsV ns b m ∧ v = vOf ns b m
  | 0, _, v, hv => by simp [valV4] at hv
  | t + 1, h, v, hv => by
    rcases List.mem_append.mp (show v ∈ valV4 ns t ++ newV ns t from hv) with hv | hv
    · exact val_sound hn0 t (by omega) v hv
    · have O := stk_ok (ns := ns) t (by omega)
      obtain ⟨a, m, _, h2, h3, _⟩ := pop_sound hn0 _ (stk_good t (by omega)) O.lt (stk_dec t (by omega)) O.inc (by omega) v hv
      exact ⟨a + 1, m, h3, h2⟩
theorem pop_hit {ns : List Int} {n : Int} {t s a : Nat} {r : List Nat} : ∀ (p : List Nat), (∀ x ∈ p ++ [s], nd ns x < n) → ((a : Int) + 1, (t : Int) - a - 1, nd ns s, min (nd ns a) n) ∈ (popV ns n t (p ++ s :: a :: r) []).2
  | [], h => by
    show _ ∈ (popV ns n t (s :: a :: r) []).2
    unfold popV
    rw [if_pos (h s (by simp))]
    dsimp only
    rw [popV_app]
    simp
  | [x], h => by
    show _ ∈ (popV ns n t (x :: s :: a :: r) []).2
    unfold popV
    rw [if_pos (h x (by simp))]
    dsimp only
    rw [popV_app]
    exact List.mem_append_right _ (pop_hit [] fun y hy => h y (by simp at hy ⊢; exact .inr hy))
  | x :: y :: p, h => by
    show _ ∈ (popV ns n t (x :: y :: (p ++ s :: a :: r)) []).2
    unfold popV
    rw [if_pos (h x (by simp))]
    dsimp only
    rw [popV_app]
    exact List.mem_append_right _ (pop_hit (y :: p) fun z hz => h z (List.mem_cons_of_mem _ hz))
theorem onL_last {ns : List Int} {k : Int} {a : Nat} : ∀ {t : Nat}, t ≤ ns.length → a < t → k ≤ nd ns a → (∀ j, a < j → j < t → nd ns j < k) → (onL ns k t).getLast? = some (a : Int)
  | t + 1, hl, h1, h2, h3 => by
    have hx : ns[t]? = some (nd ns t) := by
      unfold nd
      rw [List.getD_eq_getElem?_getD, List.getElem?_eq_getElem (by omega)]
      rfl
    by_cases e : a = t
    · subst e
      rw [onL_yes hx h2]
      simp
    · have := h3 t (by omega) (by omega)
      rw [onL_no hx (by omega)]
      exact onL_last (by omega) (by omega) h2 fun j h4 h5 => h3 j h4 (by omega)
theorem new_complete {ns : List Int} (hn0 : ∀ i, 0 ≤ nd ns i) {b m : Nat} (h : IsV ns b m) : vOf ns b m ∈ newV ns (b + m) := by
  obtain ⟨a, rfl⟩ : ∃ a, b = a + 1 := ⟨b - 1, by have := h.b1; omega⟩
  have hm := h.m1
  have hf := h.fin
  have hlt := h.lt
  generalize ht : a + 1 + m = t at *
  have hh : highF ns (a + 1) m = min (nd ns a) (nd ns t) := by
    unfold highF
    rw [show a + 1 - 1 = a by omega, ht]
  rw [hh] at hlt
  have O := stk_ok (ns := ns) t (by omega)
  have all : ∀ j, a < j → j < t → nd ns j ≤ lowF ns (a + 1) m := by
    intro j h1 h2
    have := lowF_ge (ns := ns) (b := a + 1) (m := m) (i := j - a - 1) (by omega)
    rw [show a + 1 + (j - a - 1) = j by omega] at this
    exact this
  have la := onL_last (ns := ns) (k := nd ns a) (a := a) (t := t) (by omega) (by omega) (Int.le_refl _) fun j h1 h2 => by
    have := all j h1 h2
    omega
  rw [O.last] at la
  obtain ⟨x, hx, ex⟩ := Option.map_eq_some_iff.mp la
  have ex : x = a := by omega
  subst ex
  obtain ⟨_, p, r, eS, hp⟩ := List.find?_eq_some_iff_append.mp hx
  have dec := stk_dec (ns := ns) t (by omega)
  have good := stk_good (ns := ns) t (by omega)
  rw [eS] at dec good
  have inc := O.inc
  rw [eS] at inc
  -- the one above
  rcases List.eq_nil_or_concat p with rfl | ⟨q, s, rfl⟩
  · have := O.head x r eS
    omega
  · have eS' : q.concat s ++ x :: r = q ++ s :: x :: r := by simp
    rw [eS'] at dec good inc eS
    have hxs : x < s := (List.pairwise_cons.mp (List.pairwise_append.mp dec).2.1).1 x (by simp)
    have hst : s < t := O.lt s (by rw [eS]; simp)
    have g2 : ∀ j, x < j → j < t → nd ns j ≤ nd ns s := by
      have : ∀ q : List Nat, GoodS ns t (q ++ s :: x :: r) → GoodS ns t (s :: x :: r) := by
        intro q
        induction q with
        | nil => exact id
        | cons y q ih =>
          intro g
          refine ih ?_
          cases q with
          | nil => exact g.2
          | cons z q => exact g.2
      exact (this q good).1
    have low : lowF ns (x + 1) m = nd ns s := Int.le_antisymm (lowF_le (hn0 s) fun i hi => g2 _ (by omega) (by omega)) (all s hxs hst)
    have hs : nd ns s < nd ns t := by omega
    have hall : ∀ y ∈ q ++ [s], nd ns y < nd ns t := by
      intro y hy
      rcases List.mem_append.mp hy with hy | hy
      · have := (List.pairwise_append.mp inc).2.2 y hy s (by simp)
        omega
      · rw [List.mem_singleton.mp hy]
        exact hs
    have hit := pop_hit (ns := ns) (n := nd ns t) (t := t) (s := s) (a := x) (r := r) q hall
    unfold newV
    rw [eS]
    unfold vOf
    rw [low, hh]
    have e1 : ((x + 1 : Nat) : Int) = (x : Int) + 1 := by omega
    have e2 : ((m : Nat) : Int) = (t : Int) - x - 1 := by omega
    rw [e1, e2]
    exact hit
theorem new_in_val {ns : List Int} {t : Nat} : ∀ {T : Nat}, t < T → ∀ v ∈ newV ns t, v ∈ valV4 ns T
  | T + 1, h, v, hv => by
    show v ∈ valV4 ns T ++ newV ns T
    by_cases e : t = T
    · subst e
      exact List.mem_append_right _ hv
    · exact List.mem_append_left _ (new_in_val (by omega) v hv)
theorem val_perm {ns : List Int} (hl : ns.length ≤ 100000) (hn0 : ∀ i, 0 ≤ nd ns i) : (valV4 ns ns.length).Perm (allV ns) := by
  refine (List.perm_ext_iff_of_nodup (val_nodup _ (Nat.le_refl _)) (strict_nodup vkey (law_key hl _).1)).mpr fun v => ?_
  rw [show v ∈ lawV ns (ns.length - 1) ↔ _ from all_mem]
  constructor
  · exact val_sound hn0 _ (Nat.le_refl _) v
  · rintro ⟨b, m, h, rfl⟩
    exact new_in_val h.fin _ (new_complete hn0 h)
/-! #### the gaps of a layer are the valleys that have it -/
theorem onL_lt {ns : List Int} {k p : Int} : ∀ {t : Nat}, t ≤ ns.length → (onL ns k t).getLast? = some p → ∃ a : Nat, p = a ∧ a < t ∧ k ≤ nd ns a ∧ ∀ j, a < j → j < t → nd ns j < k
  | 0, _, h => by simp [onL] at h
  | t + 1, hl, h => by
    have hx : ns[t]? = some (nd ns t) := by
      unfold nd
      rw [List.getD_eq_getElem?_getD, List.getElem?_eq_getElem (by omega)]
      rfl
    by_cases hk : k ≤ nd ns t
    · rw [onL_yes hx hk] at h
      have h : p = t := by simpa using h.symm
      exact ⟨t, h, by omega, hk, fun j h1 h2 => by omega⟩
    · rw [onL_no hx hk] at h
      obtain ⟨a, h1, h2, h3, h4⟩ := onL_lt (by omega) h
      refine ⟨a, h1, by omega, h3, fun j h5 h6 => ?_⟩
      by_cases e : j = t
      · subst e; omega
      · exact h4 j h5 (by omega)
def gapR (ns : List Int) (k : Int) : Nat → List (Int × Int)
  | 0 => []
  | t + 1 => gapR ns k t ++ if k ≤ nd ns t then
      (match (onL ns k t).getLast? with
       | some p => if 1 < t - p then [(p + 1, t - p - 1)] else []
       | none => []) else []
theorem pairs_step (os : List Int) (x : Int) : pairsL (os ++ [x]) (os.length) = pairsL os (os.length - 1) ++ match os.getLast? with
      | some p => if 1 < x - p then [(p + 1, x - p - 1)] else []
      | none => [] := by
  cases hos : os.length with
  | zero =>
    have : os = [] := List.length_eq_zero_iff.mp hos
    subst this
    simp [pairsL]
  | succ m =>
    have hl : os.getLast? = os[m]? := by rw [List.getLast?_eq_getElem?, hos]; rfl
    have hm : os[m]? = some (os.getD m 0) := by
      rw [List.getD_eq_getElem?_getD, List.getElem?_eq_getElem (by omega)]
      rfl
    rw [hl, hm]
    dsimp only
    have e1 : (os ++ [x]).getD (m + 1) 0 = x := by
      rw [List.getD_eq_getElem?_getD, List.getElem?_append_right (by omega), hos]
      simp
    have e2 : ∀ j, j ≤ m → (os ++ [x]).getD j 0 = os.getD j 0 := by
      intro j hj
      rw [List.getD_eq_getElem?_getD, List.getElem?_append_left (by omega), List.getD_eq_getElem?_getD]
    have e3 : pairsL (os ++ [x]) m = pairsL os m := by
      unfold pairsL
      have hf : (List.range m).filter (fun j => decide (1 < (os ++ [x]).getD (j + 1) 0 - (os ++ [x]).getD j 0)) = (List.range m).filter fun j => decide (1 < os.getD (j + 1) 0 - os.getD j 0) := by
        refine List.filter_congr fun j hj => ?_
        have := List.mem_range.mp hj
        rw [e2 _ (by omega), e2 _ (by omega)]
      rw [hf]
      refine List.map_congr_left fun j hj => ?_
      have := List.mem_range.mp (List.mem_filter.mp hj).1
      rw [e2 _ (by omega), e2 _ (by omega)]
    rw [← show pairsL os m = pairsL os (m + 1 - 1) from rfl, ← e3]
    unfold pairsL
    rw [List.range_succ, List.filter_append, List.map_append, List.filter_cons, e1, e2 m (Nat.le_refl m)]
    congr 1
    by_cases h : 1 < x - os.getD m 0
    · rw [if_pos (decide_eq_true h), if_pos h]
      simp only [List.filter_nil, List.map_cons, List.map_nil, e1, e2 m (Nat.le_refl m)]
    · rw [if_neg (by simpa using h), if_neg h]
      rfl
theorem gapR_is {ns : List Int} {k : Int} : ∀ {t : Nat}, t ≤ ns.length → pairsL (onL ns k t) ((onL ns k t).length - 1) = gapR ns k t
  | 0, _ => by simp [onL, pairsL, gapR]
  | t + 1, hl => by
    have hx : ns[t]? = some (nd ns t) := by
      unfold nd
      rw [List.getD_eq_getElem?_getD, List.getElem?_eq_getElem (by omega)]
      rfl
    unfold gapR
    by_cases hk : k ≤ nd ns t
    · rw [onL_yes hx hk, if_pos hk]
      have hlen : ((onL ns k t ++ [(t : Int)]).length - 1) = (onL ns k t).length := by simp
      rw [hlen, pairs_step, gapR_is (by omega)]
    · rw [onL_no hx hk, if_neg hk, List.append_nil, gapR_is (by omega)]
theorem gapR_mem {ns : List Int} {k : Int} {g : Int × Int} : ∀ {t : Nat}, t ≤ ns.length → (g ∈ gapR ns k t ↔ ∃ b m : Nat, 1 ≤ b ∧ 1 ≤ m ∧ b + m < t ∧ k ≤ nd ns (b - 1) ∧ k ≤ nd ns (b + m) ∧ (∀ i, i < m → nd ns (b + i) < k) ∧ g = ((b : Int), (m : Int)))
  | 0, _ => by
    constructor
    · intro h
      simp [gapR] at h
    · rintro ⟨b, m, _, _, h, _⟩
      omega
  | t + 1, hl => by
    unfold gapR
    rw [List.mem_append, gapR_mem (by omega)]
    constructor
    · rintro (⟨b, m, h1, h2, h3, h4⟩ | h)
      · exact ⟨b, m, h1, h2, by omega, h4⟩
      · split at h
        · rename_i hk
          cases hp : (onL ns k t).getLast? with
          | none => rw [hp] at h; simp at h
          | some p =>
            rw [hp] at h
            dsimp only at h
            obtain ⟨a, rfl, h2, h3, h4⟩ := onL_lt (by omega) hp
            split at h
            · rename_i h5
              have h : g = ((a : Int) + 1, (t : Int) - a - 1) := by simpa using h
              refine ⟨a + 1, t - a - 1, by omega, by omega, by omega, by simpa using h3, ?_, fun i hi => h4 _ (by omega) (by omega), ?_⟩
              · rw [show a + 1 + (t - a - 1) = t by omega]; exact hk
              · rw [h]
                congr 1
                omega
            · simp at h
        · simp at h
    · rintro ⟨b, m, h1, h2, h3, h4, h5, h6, rfl⟩
      by_cases e : b + m = t
      · refine .inr ?_
        rw [e] at h5
        have la := onL_last (ns := ns) (k := k) (a := b - 1) (t := t) (by omega) (by omega) h4 fun j h7 h8 => by
          have := h6 (j - b) (by omega)
          rw [show b + (j - b) = j by omega] at this
          exact this
        rw [if_pos h5, la]
        dsimp only
        rw [if_pos (by omega)]
        have e1 : ((b - 1 : Nat) : Int) + 1 = b := by omega
        have e2 : (t : Int) - ((b - 1 : Nat) : Int) - 1 = m := by omega
        rw [e1, e2]
        simp
      · exact .inl ⟨b, m, h1, h2, by omega, h4, h5, h6, rfl⟩
theorem gapR_key {ns : List Int} {k : Int} : ∀ {t : Nat}, t ≤ ns.length → (gapR ns k t).Pairwise (fun g h => g.1 < h.1) ∧ ∀ g ∈ gapR ns k t, ∃ p, (onL ns k t).getLast? = some p ∧ g.1 + g.2 ≤ p ∧ 0 ≤ g.2
  | 0, _ => by simp [gapR]
  | t + 1, hl => by
    have hx : ns[t]? = some (nd ns t) := by
      unfold nd
      rw [List.getD_eq_getElem?_getD, List.getElem?_eq_getElem (by omega)]
      rfl
    have ih := gapR_key (ns := ns) (k := k) (t := t) (by omega)
    unfold gapR
    by_cases hk : k ≤ nd ns t
    · rw [if_pos hk, onL_yes hx hk]
      have old : ∀ g ∈ gapR ns k t, ∃ p, (onL ns k t ++ [(t : Int)]).getLast? = some p ∧ g.1 + g.2 ≤ p ∧ 0 ≤ g.2 := by
        intro g hg
        obtain ⟨p, h1, h2, h3⟩ := ih.2 g hg
        obtain ⟨a, rfl, h4, _⟩ := onL_lt (by omega) h1
        exact ⟨t, by simp, by omega, h3⟩
      cases hp : (onL ns k t).getLast? with
      | none =>
        dsimp only
        rw [List.append_nil]
        exact ⟨ih.1, old⟩
      | some p =>
        dsimp only
        split
        · refine ⟨List.pairwise_append.mpr ⟨ih.1, by simp, fun g hg u hu => ?_⟩, fun g hg => ?_⟩
          · obtain ⟨p', h1, h2, h3⟩ := ih.2 g hg
            rw [hp] at h1
            injection h1 with h1
            rw [List.mem_singleton] at hu
            subst hu
            dsimp only
            omega
          · rcases List.mem_append.mp hg with hg | hg
            · exact old g hg
            · rw [List.mem_singleton] at hg
              subst hg
              refine ⟨t, by simp, ?_, ?_⟩ <;> (dsimp only; omega)
        · rw [List.append_nil]
          exact ⟨ih.1, old⟩
    · rw [if_neg hk, List.append_nil, onL_no hx hk]
      exact ih
def hasK (k : Int) (v : V4) : Bool := decide (v.2.2.1 < k ∧ k ≤ v.2.2.2)
theorem all_gaps {ns : List Int} {k : Int} (hk : 1 ≤ k) (hl : ns.length ≤ 100000) : ((allV ns).filter (hasK k)).map (fun v => (v.1, v.2.1)) = gapsL ns k := by
  unfold gapsL
  rw [gapR_is (Nat.le_refl _)]
  have G := gapR_key (ns := ns) (k := k) (Nat.le_refl _)
  have L := (law_key hl (ns.length - 1)).1
  have mem : ∀ g, g ∈ ((allV ns).filter (hasK k)).map (fun v => (v.1, v.2.1)) ↔ g ∈ gapR ns k ns.length := by
    intro g
    rw [gapR_mem (Nat.le_refl _), List.mem_map]
    constructor
    · rintro ⟨v, hv, rfl⟩
      obtain ⟨h1, h2⟩ := List.mem_filter.mp hv
      obtain ⟨b, m, h, rfl⟩ := all_mem.mp h1
      have h2 : lowF ns b m < k ∧ k ≤ highF ns b m := of_decide_eq_true h2
      unfold highF at h2
      refine ⟨b, m, h.b1, h.m1, h.fin, by omega, by omega, fun i hi => ?_, rfl⟩
      have := lowF_ge (ns := ns) (b := b) hi
      omega
    · rintro ⟨b, m, h1, h2, h3, h4, h5, h6, rfl⟩
      have lo : lowF ns b m < k := by
        have := lowF_le (ns := ns) (b := b) (M := k - 1) (by omega) (m := m) fun i hi => by have := h6 i hi; omega
        omega
      have hi : k ≤ highF ns b m := by
        unfold highF
        omega
      refine ⟨vOf ns b m, List.mem_filter.mpr ⟨all_mem.mpr ⟨b, m, ⟨h1, h2, h3, by omega⟩, rfl⟩, decide_eq_true ⟨lo, hi⟩⟩, rfl⟩
  have B : ∀ g ∈ gapR ns k ns.length, 0 ≤ g.2 ∧ g.2 ≤ 100000 := by
    intro g hg
    obtain ⟨b, m, h1, h2, h3, _, _, _, rfl⟩ := (gapR_mem (Nat.le_refl _)).mp hg
    dsimp only
    omega
  refine strict_ext (fun g : Int × Int => g.1 * 1000000 + g.2) ?_ ?_ mem
  · refine List.pairwise_map.mpr ((L.sublist (List.filter_sublist)).imp fun {v u} h => ?_)
    exact h
  · refine List.Pairwise.imp_of_mem (fun {g u} hg hu h => ?_) G.1
    have := B g hg
    have := B u hu
    omega
/-! #### all needs many times as great -/
def scaleV (c : Int) (v : V4) : V4 := (v.1, v.2.1, c * v.2.2.1, c * v.2.2.2)
theorem nd_scale {ns : List Int} {c : Int} (i : Nat) : nd (ns.map (c * ·)) i = c * nd ns i := by
  unfold nd
  rw [List.getD_eq_getElem?_getD, List.getD_eq_getElem?_getD, List.getElem?_map]
  cases ns[i]? <;> simp
theorem mul_max {c a b : Int} (hc : 0 ≤ c) : max (c * a) (c * b) = c * max a b := by
  rcases Int.le_total a b with h | h
  · rw [Int.max_eq_right h, Int.max_eq_right (Int.mul_le_mul_of_nonneg_left h hc)]
  · rw [Int.max_eq_left h, Int.max_eq_left (Int.mul_le_mul_of_nonneg_left h hc)]
theorem mul_min {c a b : Int} (hc : 0 ≤ c) : min (c * a) (c * b) = c * min a b := by
  rcases Int.le_total a b with h | h
  · rw [Int.min_eq_left h, Int.min_eq_left (Int.mul_le_mul_of_nonneg_left h hc)]
  · rw [Int.min_eq_right h, Int.min_eq_right (Int.mul_le_mul_of_nonneg_left h hc)]
theorem lowF_scale {ns : List Int} {c : Int} (hc : 0 ≤ c) {b : Nat} : ∀ m, lowF (ns.map (c * ·)) b m = c * lowF ns b m
  | 0 => by simp [lowF]
  | m + 1 => by
    show max _ _ = c * max _ _
    rw [lowF_scale hc m, nd_scale, mul_max hc]
theorem vOf_scale {ns : List Int} {c : Int} (hc : 0 ≤ c) {b m : Nat} : vOf (ns.map (c * ·)) b m = scaleV c (vOf ns b m) := by
  unfold vOf scaleV highF
  rw [lowF_scale hc, nd_scale, nd_scale, mul_min hc]
theorem row_scale {ns : List Int} {c : Int} (hc : 1 ≤ c) {b : Nat} : ∀ n, rowV (ns.map (c * ·)) b n = (rowV ns b n).map (scaleV c)
  | 0 => rfl
  | n + 1 => by
    unfold rowV
    rw [row_scale hc n, List.map_append, vOf_scale (by omega)]
    have h : (lowF (ns.map (c * ·)) b (n + 1) < highF (ns.map (c * ·)) b (n + 1)) ↔ (lowF ns b (n + 1) < highF ns b (n + 1)) := by
      unfold highF
      rw [lowF_scale (by omega), nd_scale, nd_scale, mul_min (by omega)]
      exact Int.mul_lt_mul_left (by omega)
    by_cases e : lowF ns b (n + 1) < highF ns b (n + 1)
    · rw [if_pos e, if_pos (h.mpr e)]
      rfl
    · rw [if_neg e, if_neg fun q => e (h.mp q)]
      rfl
theorem all_scale {ns : List Int} {c : Int} (hc : 1 ≤ c) : allV (ns.map (c * ·)) = (allV ns).map (scaleV c) := by
  have key : ∀ j, lawV (ns.map (c * ·)) j = (lawV ns j).map (scaleV c) := by
    intro j
    induction j with
    | zero => rfl
    | succ j ih =>
      unfold lawV
      rw [ih, row_scale hc, List.map_append, List.length_map]
  unfold allV
  rw [key, List.length_map]
end WK
namespace WK
open PySem PySem.Spec PyProof.Rows L2
theorem all_bd {ns : List Int} (hN : Nds ns) : ∀ v ∈ allV ns, TS.Bd BV (v4L v) := by
  intro v hv
  have p := val_perm (ns := ns) (by have := hN.len; omega) (fun i => (hN.nd i).1)
  exact val_bd hN v (p.symm.mem_iff.mp hv)
theorem all_code {ns : List Int} (hN : Nds ns) : (allV ns).Pairwise fun v u => TS.code BV (v4L v) < TS.code BV (v4L u) := by
  have hl := hN.len
  have K := (law_key (ns := ns) (by omega) (ns.length - 1))
  refine List.Pairwise.imp_of_mem (fun {v u} hv hu h => ?_) K.1
  have b1 := K.2 v hv
  have b2 := K.2 u hu
  have d1 := all_bd hN v hv
  have d2 := all_bd hN u hu
  unfold v4L at d1 d2 ⊢
  unfold vkey at h
  by_cases e : v.1 = u.1
  · rw [e]
    have q := TS.code_lt (B := BV) (d := v.2.1) (e := u.2.1) (r := [v.2.2.1, v.2.2.2]) (q := [u.2.2.1, u.2.2.2]) rfl d1.tail.tail d2.tail.tail (by omega)
    exact (TS.code_same (B := BV) (d := u.1) (r := [v.2.1, v.2.2.1, v.2.2.2]) (q := [u.2.1, u.2.2.1, u.2.2.2]) rfl).mpr q
  · exact TS.code_lt rfl d1.tail d2.tail (by omega)
theorem all_is {ns : List Int} (hN : Nds ns) {l : List V4} (p : l.Perm (valV4 ns ns.length)) (c : CodeLe l) : l = allV ns :=
  strict_eq (fun v => TS.code BV (v4L v)) (p.trans (val_perm (by have := hN.len; omega) fun i => (hN.nd i).1)) c (all_code hN)
def spLawVal (K : PySem.W.Frag) : Sp := fun vs H Q _ => ∃ (t : Addr) (ns : List Int), vs = [.ref t] ∧ H t = some (.tup (ns.map V.int)) ∧ ns.length ≤ 200 ∧
  ∀ H' g ws, Same H H' → H g = none → H' g = some (.lst ws) → AllT K H' ws ((allV ns).map v4L) → Q (.ref g) H'
theorem row_len {ns : List Int} {b : Nat} : ∀ n, (rowV ns b n).length ≤ n
  | 0 => by simp [rowV]
  | n + 1 => by
    have := row_len (ns := ns) (b := b) n
    unfold rowV
    rw [List.length_append]
    split <;> simp <;> omega
theorem law_len {ns : List Int} : ∀ j, (lawV ns j).length ≤ j * ns.length
  | 0 => by simp [lawV]
  | j + 1 => by
    have := law_len (ns := ns) j
    have r := row_len (ns := ns) (b := j + 1) (ns.length - 1 - (j + 1))
    unfold lawV
    rw [List.length_append, Nat.succ_mul]
    omega
theorem all_len {ns : List Int} (hN : Nds ns) : (allV ns).length + 1 ≤ ns.length ∨ ns = [] := by
  rw [← (val_perm (ns := ns) (by have := hN.len; omega) fun i => (hN.nd i).1).length_eq]
  have v := val_len (ns := ns) ns.length (Nat.le_refl _)
  have O := stk_ok (ns := ns) ns.length (Nat.le_refl _)
  cases ns with
  | nil => exact .inr rfl
  | cons z r =>
    have := O.some (by simp)
    have : 0 < (stkV (z :: r) (z :: r).length).length := List.length_pos_iff.mpr this
    exact .inl (by omega)
end WK
namespace WK
open PySem PySem.Spec PyProof.Rows L2
def v4D (v : V4) : PyData := .tuple (intsD (v4L v))
theorem allT_dp {K : PySem.W.Frag} {H : Hp} : ∀ {ws : List V} {l : List V4}, AllT K H ws (l.map v4L) → DpAll K H ws (l.map v4D)
  | _, [], .nil => .nil
  | _, _ :: _, .cons ⟨_, e, h⟩ b => by
    subst e
    exact .cons (.tup h (dp_ints _)) (allT_dp b)
theorem shows_v4 {l : List V4} (h : ∀ v ∈ l, ∀ z ∈ v4L v, z.natAbs < 10 ^ 150) (hl : l.length ≤ 1000) : Shows (.list (l.map v4D)) := by
  have c : costAll (l.map v4D) ≤ l.length * 700 := by
    have := costAll_le (c := 650) (xs := l.map v4D) fun x hx => by
      obtain ⟨v, _, rfl⟩ := List.mem_map.mp hx
      have := cost_ints (ns := v4L v)
      simp only [v4D, cost]
      have e : (v4L v).length = 4 := rfl
      omega
    rw [List.length_map] at this
    omega
  refine shows_of ?_ ?_ ?_
  · simp only [Lil]
    exact lilAll_iff.mpr fun x hx => by
      obtain ⟨v, hv, rfl⟩ := List.mem_map.mp hx
      simpa only [v4D, Lil] using lil_ints (h v hv)
  · simp only [PyData.depth]
    have := depthAll_le (c := 1) (xs := l.map v4D) fun x hx => by
      obtain ⟨v, _, rfl⟩ := List.mem_map.mp hx
      simp only [v4D, PyData.depth, depth_ints]
      omega
    omega
  · simp only [cost]
    refine Nat.le_trans (show _ ≤ 1000000 by omega) (by decide)
theorem all_small {ns : List Int} (hN : Nds ns) : ∀ v ∈ allV ns, ∀ z ∈ v4L v, z.natAbs < 10 ^ 150 := by
  intro v hv z hz
  have := all_bd hN v hv z hz
  have e : (2000000000 : Nat) < 10 ^ 150 := by decide +kernel
  unfold BV at this
  omega
theorem nds_scale {ns : List Int} {c M : Int} (h : Nds ns) (hc : 1 ≤ c) (hM : ∀ z ∈ ns, z ≤ M) (hb : c * M ≤ 1000000000) : Nds (ns.map (c * ·)) := by
  refine ⟨by rw [List.length_map]; exact h.len, fun z hz => ?_⟩
  obtain ⟨y, hy, rfl⟩ := List.mem_map.mp hz
  have h1 := h.pos y hy
  have h2 := hM y hy
  have h3 : c * y ≤ c * M := Int.mul_le_mul_of_nonneg_left h2 (by omega)
  have h4 : 0 ≤ c * y := Int.mul_nonneg (by omega) h1.1
  show 0 ≤ c * y ∧ c * y ≤ _
  omega
end WK
namespace WK
open PySem PySem.Spec PyProof.Rows L2
def p2L (v : V4) : List Int := [v.1, v.2.1]
def tupsD (L : List (List Int)) : List PyData := L.map fun ns => .tuple (intsD ns)
theorem allT_dpG {K : PySem.W.Frag} {H : Hp} : ∀ {ws : List V} {l : List (List Int)}, AllT K H ws l → DpAll K H ws (tupsD l)
  | _, _, .nil => .nil
  | _, _, .cons ⟨_, e, h⟩ b => by
    subst e
    exact .cons (.tup h (dp_ints _)) (allT_dpG b)
theorem lay_tups {L : List (List Int)} : PyData.canLayAll0 (tupsD L) = true := by
  rw [canLayAll_iff]
  intro x hx
  obtain ⟨ns, _, rfl⟩ := List.mem_map.mp hx
  simp only [PyData.canLay0, lay_ints]
theorem shaped_tups {L : List (List Int)} : SeqAt.shaped (.list (tupsD L)) = true := by
  have d : PyData.depthAll (tupsD L) ≤ 1 := depthAll_le fun x hx => by
    obtain ⟨v, _, rfl⟩ := List.mem_map.mp hx
    simp only [PyData.depth, depth_ints]
    omega
  have e : (PyData.list (tupsD L)).depth ≤ 64 := by
    simp only [PyData.depth]
    omega
  simp only [SeqAt.shaped, PyData.canLay0, lay_tups, Bool.true_and]
  exact decide_eq_true e
theorem eqv_tups {L : List (List Int)} : PyData.eqv (.list (tupsD L)) (.list (tupsD L)) = true :=
  PySem.SeqAt.eqv_refl _ (by simp only [PyData.canLay0, lay_tups])
theorem pairs_tups {ns : List Int} {k : Int} (hk : 1 ≤ k) (hl : ns.length ≤ 100000) : tupsD (((allV ns).filter (hasK k)).map p2L) = (gapsL ns k).map prD := by
  rw [← all_gaps hk hl]
  unfold tupsD
  rw [List.map_map, List.map_map]
  rfl
theorem p2_code {ns : List Int} (hN : Nds ns) : (((allV ns)).map p2L).Pairwise fun v u => TS.code BV v < TS.code BV u := by
  have hl := hN.len
  have K := (law_key (ns := ns) (by omega) (ns.length - 1))
  refine List.pairwise_map.mpr (List.Pairwise.imp_of_mem (fun {v u} hv hu h => ?_) K.1)
  have b1 := K.2 v hv
  have b2 := K.2 u hu
  have d1 := all_bd hN v hv
  have d2 := all_bd hN u hu
  unfold v4L at d1 d2
  have x1 := d1.tail.head
  have x2 := d2.tail.head
  unfold vkey at h
  have y1 : TS.Bd BV [v.2.1] := by intro m hm; rw [List.mem_singleton] at hm; subst hm; exact x1
  have y2 : TS.Bd BV [u.2.1] := by intro m hm; rw [List.mem_singleton] at hm; subst hm; exact x2
  show TS.code BV [v.1, v.2.1] < TS.code BV [u.1, u.2.1]
  by_cases e : v.1 = u.1
  · rw [e]
    have q := TS.code_lt (B := BV) (d := v.2.1) (e := u.2.1) (r := []) (q := []) rfl (fun m hm => by simp at hm) (fun m hm => by simp at hm) (by omega)
    exact (TS.code_same (B := BV) (d := u.1) (r := [v.2.1]) (q := [u.2.1]) rfl).mpr q
  · exact TS.code_lt rfl y1 y2 (by omega)
/-- what sorted makes of tuples that ascend is the same -/
theorem code_leL {K : PySem.W.Frag} {H : Hp} : ∀ {ys : List V} {l : List (List Int)}, AllT K H ys l → ys.Pairwise (fun x y => ∀ n m, TupI K H x n → TupI K H y m → TS.code BV n ≤ TS.code BV m) → l.Pairwise fun n m => TS.code BV n ≤ TS.code BV m
  | _, _, .nil, _ => List.Pairwise.nil
  | y :: ys, v :: l, .cons a b, h => by
    have h' := List.pairwise_cons.mp h
    refine List.pairwise_cons.mpr ⟨fun u hu => ?_, code_leL b h'.2⟩
    obtain ⟨x, hx, hxu⟩ := AllT.memR b hu
    exact h'.1 x hx _ _ a hxu
theorem p2_bd {ns : List Int} (hN : Nds ns) : ∀ v ∈ allV ns, TS.Bd BV (p2L v) := by
  intro v hv
  have d := all_bd hN v hv
  unfold v4L at d
  intro m hm
  refine d m ?_
  simp only [p2L, List.mem_cons, List.not_mem_nil, or_false] at hm ⊢
  rcases hm with h | h
  · exact .inl h
  · exact .inr (.inl h)
end WK
namespace WK
open PySem PySem.Spec PyProof.Rows L2
theorem sqt_off {K : PySem.W.Frag} {H H' : Hp} {p c t : Addr} {l : List V} (o : Off p c H H') (S : Src H p c) (h : SqT K H t l) : SqT K H' t l := by
  obtain ⟨cells, a, m, x, e1, e2⟩ := S.ex
  rcases h with (h | ⟨q, h⟩) | h
  · exact .inl (.inl (o _ _ (ne_of h e1 (by intro z; cases z)) (ne_of h e2 (by intro z; cases z)) h))
  · exact .inl (.inr ⟨q, o _ _ (ne_of h e1 (by intro z; cases z)) (ne_of h e2 (by intro z; cases z)) h⟩)
  · exact .inr h
theorem AllT.off {K : PySem.W.Frag} {H H' : Hp} {p c : Addr} (o : Off p c H H') (S : Src H p c) : ∀ {vs : List V} {ss : List (List Int)}, AllT K H vs ss → AllT K H' vs ss
  | _, _, .nil => .nil
  | _, _, .cons ⟨t, e, h⟩ b => .cons ⟨t, e, sqt_off o S h⟩ (AllT.off o S b)
end WK
set_option Elab.async false
set_option linter.all false
set_option maxRecDepth 100000
set_option maxHeartbeats 1000000
namespace K22
open PySem PySem.Spec PyProof.Rows L2 WK
def topS (i : Nat) : Stmt := PySem.Challenge.pw_wakedenough_k22_whole_valleys.main.body.getD i (.Pass ⟨0, 0, 0, 0⟩)
abbrev sSource : Stmt := topS 3
abbrev sPick : Stmt := topS 4
abbrev sOf : Stmt := topS 5
theorem scSource : FnScope ["script", "mixed", "cell"] ["script"] (defScope sSource) := ⟨rfl, rfl, rfl, by decide +kernel, rfl, by decide +kernel, by decide +kernel⟩
theorem scPick : FnScope ["source", "many", "left", "mixed"] ["source", "many"] (defScope sPick) := ⟨rfl, rfl, rfl, by decide +kernel, rfl, by decide +kernel, by decide +kernel⟩
theorem scOf : FnScope ["source", "some"] ["source", "some"] (defScope sOf) := ⟨rfl, rfl, rfl, by decide +kernel, rfl, by decide +kernel, by decide +kernel⟩
local macro_rules | `(tactic| walk_at "rd") => `(tactic| repeat (first | refine Exists.intro _ (And.intro rfl ?_) | refine Exists.intro _ (Exists.intro _ (And.intro rfl (And.intro rfl ?_))) | refine Exists.intro _ (Exists.intro _ (And.intro rfl ?_))))
section
variable {P : Program} {w : World} {K : PySem.W.Frag} {mg : Str → Option Value} {base : Heap}
theorem ok_source {f : Addr} {fd : FuncData} (F : Fun K "_law_source" "_law_source" sSource f fd) (B : Blt mg) : FnOk P w K mg base CX0 1 f fd ["script"] (spSource K) := by
  refine F.ok scSource (fun vs H Q E h => ?_) (fun cdv A outer s H vs Q E hr h => ?_)
  · obtain ⟨a, ns, rfl, _⟩ := h
    rfl
  · obtain ⟨a, ns, rfl, hS, hlen, q⟩ := h
    refine ⟨_, pss_cons (ps_set (i := 1) scSource.nd rfl (.inl rfl) pe_int)
      (pss_cons (ps_for PassesOwn.never rfl (pi_list (pv 0)) (pg_name (i := 2) scSource.nd rfl (.inl rfl))
        (pss_one (ps_set (i := 1) scSource.nd rfl (.inl rfl)
          (pe_op op_mod (pe_callTy call_int1 (by rfl) B.int (by decide +kernel) (pa_cons (pe_op op_add (pe_op op_add (pe_op op_mul (pv 1) pe_int) (pe_op op_mul (pv 2) pe_int)) pe_int) pa_nil)) pe_int))))
      (pss_one (ps_ret (pe_disp (pps_cons pe_str (pe_revL (pe_lc (own := [("cell", 2)]) (g := gName 2) rfl scSource.nd (pi_list (pv 0))
          (blkOk_by (own := [("cell", 2)]) (N := ["script", "mixed", "cell"]) (sc := defScope sSource) (by decide +kernel))
          (fun _ _ _ _ _ => pg_name (i := 2) scSource.nd rfl (Or.inl rfl)) (fun _ _ _ _ _ => pts_nil) (fun _ _ _ _ _ => pe_callB call_abs (by rfl) B.abs (by decide +kernel) (pa_cons (pv 2) pa_nil))))
        (pps_cons pe_str pe_int (pps_cons pe_str (pv 1) (pps_cons pe_str pe_int pps_nil)))) (by rfl) (by rfl) (fun z => by cases z) (by decide))))), ?_⟩
    walk_at "rd"
    refine ⟨⟨_, hS⟩, for_list (xs := ns.map V.int) (fun i σ H1 => ∃ m c3, σ = [some (.ref a), some (.int m), c3] ∧ H1 = H) ⟨11, none, rfl, rfl⟩ (fun i σ H1 _ h => ?_) (fun i x σ H1 hx h => ?_) (fun σ H1 h => ?_)⟩
    · obtain ⟨m, c3, rfl, rfl⟩ := h
      exact hS
    · obtain ⟨m, c3, rfl, rfl⟩ := h
      obtain ⟨z, hz, rfl⟩ := int_at hx
      walk_at "rd"
      refine ⟨mulr (by decide), ?_⟩
      walk_at "rd"
      refine ⟨mulr (by decide), ?_⟩
      walk_at "rd"
      refine .inl ?_
      walk_at "rd"
      refine ⟨by show (0 : Int) < 2147483629; decide, ?_⟩
      exact ⟨_, _, rfl, rfl⟩
    · obtain ⟨m, c3, rfl, rfl⟩ := h
      intro p np
      generalize eH : upd _ _ _ = H2
      obtain ⟨s2, e2⟩ := new_of eH np
      walk_at "rd"
      refine ⟨⟨_, s2.seq hS⟩, fun D nD => lc_list (K := K) (a := a) (xs := ns.map V.int) (fun i G => Same H2 G ∧ G D = some (.lst ((ns.take i).map fun z => V.int z.natAbs))) ?_ (fun i G _ h => h.1.seq (s2.seq hS)) (fun i x G hx h => ?_) (fun G h => ?_)⟩
      · exact ⟨same_new nD, upd_same⟩
      · obtain ⟨z, hz, rfl⟩ := int_at hx
        refine yesT rfl ?_
        walk_at "rd"
        refine ⟨_, h.2, ?_, fun b o e => ?_, ?_⟩
        · rw [List.length_map, List.length_take]
          exact small63 (by omega)
        · rw [upd_ne (ne_of_none e nD)]
          exact h.1 _ _ e
        · rw [upd_same, take_snoc hz, abs_eq]
      · obtain ⟨s3, e3⟩ := h
        walk_at "rd"
        refine ⟨_, _, rfl, .inl (.inl e3), fun c nc => ?_⟩
        generalize eH : upd _ _ _ = H4
        obtain ⟨s4, e4⟩ := new_of eH nc
        walk_at "rd"
        refine ⟨s4 _ _ (s3 _ _ e2), [(.inr "cells", .ref c), (.inr "left", .int 1), (.inr "mixed", .int m), (.inr "turn", .int 0)], rfl, (by show 4 ≤ 15; decide), ?_⟩
        have npc : c ≠ p := (ne_of_none (s3 _ _ e2) nc).symm
        refine q _ p c ⟨((ns.map fun z => (z.natAbs : Int)).reverse), 1, m, 0, ?_, ?_⟩ ?_ np ?_
        · rw [upd_same]
          refine congrArg (fun l => some (HO.dK l)) ?_
          simp [mergeK, putK, srcK, k12, k13, k14, k23, k24, k34]
        · rw [upd_ne npc, e4, List.length_map, List.take_length, List.map_reverse, List.map_map]
          rfl
        · intro b o e
          rw [upd_ne (ne_of_none e np)]
          exact s4 _ _ (s3 _ _ (s2 _ _ e))
        · exact (s2.trans s3).free nc
end
section
variable {P : Program} {w : World} {K : PySem.W.Frag} {mg : Str → Option Value} {base : Heap}
theorem ok_pick {f : Addr} {fd : FuncData} (F : Fun K "_law_pick" "_law_pick" sPick f fd) (B : Blt mg) : FnOk P w K mg base CX0 1 f fd ["source", "many"] spPick := by
  refine F.ok scPick (fun vs H Q E h => ?_) (fun cdv A outer s H vs Q E hr h => ?_)
  · obtain ⟨p, c, many, rfl, _⟩ := h
    rfl
  · obtain ⟨p, c, many, rfl, S, hm, q⟩ := h
    have hu := hu_of hr
    refine ⟨_, pss_cons (ps_while PassesOwn.never (PW.pt (pw_and (pt_cmpR op_gt (pv 1) pe_int (nomark _)) (pw_and (pt_cmpR op_lt (pe_dget hu (pv 0) pe_str (fun _ _ => rfl)) pe_int (nomark _))
          (pw_and1 (pt_cmpR op_gt (pe_callB call_len_seq (by rfl) B.len PySem.boot_len (pa_cons (pe_dget hu (pv 0) pe_str (fun _ _ => rfl)) pa_nil)) pe_int (nomark _))))))
        (pss_one (ps_dput hu (pv 0) pe_str (pe_bm0 PySem.F.plainAttrs_list PySem.F.slot_list_pop PySem.F.type_list_pop mt_pop (pe_dget hu (pv 0) pe_str (fun _ _ => rfl))) rfl)))
      (pss_cons (ps_set (i := 2) scPick.nd rfl (.inl rfl) (pe_dget hu (pv 0) pe_str (fun _ _ => rfl)))
      (pss_cons (ps_if (PW.pt (pw_or (pt_cmpR op_lt (pv 1) pe_int (nomark _)) (pw_or1 (pt_cmpR op_gt (pv 2) pe_int (nomark _)))))
        (pss_cons (ps_dput hu (pv 0) pe_str (pe_op op_fdivN (pv 2) (pe_callB (call_max2 rfl) (by rfl) B.max boot_max (pa_cons pe_int (pa_cons (pv 1) pa_nil)))) rfl)
          (pss_one (ps_ret (pe_op op_modN (pe_callTy call_int1 (by rfl) B.int (by decide +kernel) (pa_cons (pv 2) pa_nil)) (pe_callB (call_max2 rfl) (by rfl) B.max boot_max (pa_cons pe_int (pa_cons (pv 1) pa_nil))))))) pss_nil)
      (pss_cons (ps_dput hu (pv 0) pe_str (pe_op op_add (pe_dget hu (pv 0) pe_str (fun _ _ => rfl)) pe_int) rfl)
      (pss_cons (ps_set (i := 3) scPick.nd rfl (.inl rfl) (pe_op op_mod (pe_callTy call_int1 (by rfl) B.int (by decide +kernel) (pa_cons (pe_op op_add (pe_dget hu (pv 0) pe_str (fun _ _ => rfl)) (pe_op op_mul (pe_dget hu (pv 0) pe_str (fun _ _ => rfl)) pe_int)) pa_nil)) pe_int))
      (pss_cons (ps_set (i := 3) scPick.nd rfl (.inl rfl) (pe_op op_mod (pe_callTy call_int1 (by rfl) B.int (by decide +kernel) (pa_cons (pe_op op_add (pe_op op_mul (pv 3) (pv 3)) (pe_op op_mul (pe_dget hu (pv 0) pe_str (fun _ _ => rfl)) pe_int)) pa_nil)) pe_int))
      (pss_cons (ps_dput hu (pv 0) pe_str (pv 3) rfl)
      (pss_one (ps_ret (pe_op op_modN (pe_callTy call_int1 (by rfl) B.int (by decide +kernel) (pa_cons (pe_op op_fdiv (pv 3) pe_int) pa_nil)) (pv 1)))))))))), ?_⟩
    obtain ⟨cells, l, m, t, hp, hc⟩ := S.ex
    have npc := S.ne
    refine while3 (fun n σ H1 => ∃ (cs : List Int) (l : Int), σ = [some (.ref p), some (.int many), none, none] ∧ n = cs.length ∧ H1 p = some (.dK (srcK c l m t)) ∧ H1 c = some (.lst (cs.map V.int)) ∧ Off p c H H1)
      cells.length ⟨cells, l, rfl, rfl, hp, hc, Off.refl p c H⟩ (fun n σ H1 h => ?_) (fun aft n σ H1 h => ?_)
    · -- behind the loop
      obtain ⟨cs, l, rfl, rfl, hp, hc, off⟩ := h
      walk_at "rd"
      refine ⟨_, _, rfl, src_get hp src_left, ?_⟩
      have early : ∀ H2, H2 = upd H1 p (HO.dK (srcK c (l.fdiv (if many > 1 then many else 1)) m t)) → Q (.int (l.fmod (if many > 1 then many else 1))) H2 := by
        rintro H2 rfl
        have hb : 0 < (if many > 1 then many else 1) := by split <;> omega
        refine q _ _ ⟨cs, _, m, t, upd_same, (upd_ne npc.symm).trans hc⟩ (off.trans Off.at_p) (fmod_bounds hb).1 ?_
        have := fmod_bounds (a := l) hb
        by_cases h1 : many > 1
        · rw [if_pos h1] at this ⊢
          exact .inl this.2
        · rw [if_neg h1] at this ⊢
          exact .inr (by omega)
      have hd : CDivN l (if many > 1 then many else 1) := by
        constructor <;> split <;> omega
      walk_at "rd"
      refine ite2 (fun h1 => ?_) (fun h1 => ?_)
      · dsimp only
        refine ifT rfl ?_
        walk_at "rd"
        refine ⟨hd, _, rfl, _, _, rfl, src_put hp rfl put_left rfl, ?_⟩
        walk_at "rd"
        refine .inl ?_
        walk_at "rd"
        exact ⟨hd.1, early _ rfl⟩
      · walk_at "rd"
        refine ite2 (fun h2 => ?_) (fun h2 => ?_)
        · walk_at "rd"
          refine ⟨hd, _, rfl, _, _, rfl, src_put hp rfl put_left rfl, ?_⟩
          walk_at "rd"
          refine .inl ?_
          walk_at "rd"
          exact ⟨hd.1, early _ rfl⟩
        · have hm2 : 2 ≤ many := by
            have := of_decide_eq_false (Bool.eq_false_iff.mpr h1)
            omega
          walk_at "rd"
          refine ⟨_, _, rfl, src_get hp src_turn, ?_⟩
          walk_at "rd"
          refine ⟨_, _, rfl, src_put hp rfl put_turn rfl, ?_⟩
          generalize eH : upd _ _ _ = H2
          obtain ⟨hp2, of2⟩ := chg eH
          have hc2 := (of2 c npc.symm).trans hc
          walk_at "rd"
          refine ⟨_, _, rfl, src_get hp2 src_mixed, ?_⟩
          walk_at "rd"
          refine ⟨_, _, rfl, src_get hp2 src_turn, ?_⟩
          walk_at "rd"
          refine ⟨mulr (by decide), ?_⟩
          walk_at "rd"
          refine .inl ?_
          walk_at "rd"
          refine ⟨by show (0 : Int) < 998244353; decide, ?_⟩
          have mb := Int.emod_lt_of_pos (m + (t + 1) * 104729) (show (0 : Int) < 998244353 by decide)
          have mb0 := Int.emod_nonneg (m + (t + 1) * 104729) (show (998244353 : Int) ≠ 0 by decide)
          walk_at "rd"
          refine ⟨mulr (by omega), ?_⟩
          walk_at "rd"
          refine ⟨_, _, rfl, src_get hp2 src_turn, ?_⟩
          walk_at "rd"
          refine ⟨mulr (by decide), ?_⟩
          walk_at "rd"
          refine .inl ?_
          walk_at "rd"
          refine ⟨by show (0 : Int) < 2147483647; decide, ?_⟩
          walk_at "rd"
          refine ⟨_, _, rfl, src_put hp2 rfl put_mixed rfl, ?_⟩
          generalize eH3 : upd _ _ _ = H3
          obtain ⟨hp3, of3⟩ := chg eH3
          have hc3 := (of3 c npc.symm).trans hc2
          walk_at "rd"
          refine ⟨by constructor <;> decide, ?_⟩
          walk_at "rd"
          refine .inl ?_
          walk_at "rd"
          refine ⟨by omega, ?_⟩
          have fb := fun a : Int => fmod_bounds (a := a) (show 0 < many by omega)
          refine q _ _ ⟨cs, _, _, _, hp3, hc3⟩ (off.trans (fun b o h1 h2 e => ?_)) (fb _).1 (.inl (fb _).2)
          rw [of3 b h1, of2 b h1]
          exact e
    · obtain ⟨cs, l, rfl, rfl, hp, hc, off⟩ := h
      walk_at "rd"
      refine ite2 (fun h1 => ?_) (fun h1 => ?_)
      · walk_at "rd"
        refine ⟨_, _, rfl, src_get hp src_left, ?_⟩
        walk_at "rd"
        refine ite2 (fun h2 => ?_) (fun h2 => ?_)
        · walk_at "rd"
          refine ⟨_, _, rfl, src_get hp src_cells, ?_⟩
          refine ⟨_, _, rfl, .inl (.inl (.inl hc)), ?_⟩
          walk_at "rd"
          refine ite2 (fun h3 => ?_) (fun h3 => ?_)
          · refine ⟨_, fun σ' H' h => ⟨cs.length - 1, ?_, h⟩, ?_⟩
            · have := of_decide_eq_true h3
              rw [List.length_map] at this
              omega
            · walk_at "rd"
              refine ⟨_, _, rfl, src_get hp src_cells, ?_⟩
              have hne : cs ≠ [] := by
                rintro rfl
                exact absurd (of_decide_eq_true h3) (by decide)
              obtain ⟨z, hz⟩ : ∃ z, cs[cs.length - 1]? = some z := by
                refine ⟨cs[cs.length - 1]'(by have := List.length_pos_iff.mpr hne; omega), ?_⟩
                rw [List.getElem?_eq_getElem]
              refine ⟨.inl ⟨rfl, _, .inl (.inl hc)⟩, _, _, .int z, rfl, rfl, hc, ?_, ?_⟩
              · rw [List.length_map, List.getElem?_map, hz]
                rfl
              generalize eH : upd _ _ _ = H2
              obtain ⟨hc2, of2⟩ := chg eH
              have hp2 := (of2 p npc).trans hp
              refine ⟨_, rfl, _, _, rfl, src_put hp2 rfl put_left rfl, cs.dropLast, z, rfl, ?_, upd_same, ?_, off.trans (fun b o h1 h2 e => ?_)⟩
              · rw [List.length_dropLast]
              · rw [upd_ne npc.symm, hc2, List.map_dropLast]
              · rw [upd_ne h1, of2 b h2]
                exact e
          · exact aft _ _ _ ⟨cs, l, rfl, rfl, hp, hc, off⟩
        · exact aft _ _ _ ⟨cs, l, rfl, rfl, hp, hc, off⟩
      · exact aft _ _ _ ⟨cs, l, rfl, rfl, hp, hc, off⟩
end
abbrev sDraw : Stmt := topS 6
theorem scDraw : FnScope ["source", "ticks", "most", "way", "found", "ahead", "some"] ["source", "ticks", "most"] (defScope sDraw) := ⟨rfl, rfl, rfl, by decide +kernel, rfl, by decide +kernel, by decide +kernel⟩
abbrev sLGaps : Stmt := topS 7
theorem scLGaps : FnScope ["needs", "k", "on", "t", "a", "b"] ["needs", "k"] (defScope sLGaps) := ⟨rfl, rfl, rfl, by decide +kernel, rfl, by decide +kernel, by decide +kernel⟩
/-- the draws' defs as they stand -/
structure Drw (K : PySem.W.Frag) (mg : Str → Option Value) (fP fO : Addr) (fdP fdO : FuncData) : Prop where
  FP : Fun K "_law_pick" "_law_pick" sPick fP fdP
  bP : Binds K fdP ["source", "many"] []
  gP : mg "_law_pick" = some (.ref fP)
  FO : Fun K "_law_of" "_law_of" sOf fO fdO
  bO : Binds K fdO ["source", "some"] []
  gO : mg "_law_of" = some (.ref fO)
section
variable {P : Program} {w : World} {K : PySem.W.Frag} {mg : Str → Option Value} {base : Heap}
theorem ok_of {f fP fO : Addr} {fd fdP fdO : FuncData} (F : Fun K "_law_of" "_law_of" sOf f fd) (D : Drw K mg fP fO fdP fdO) (B : Blt mg) : FnOk P w K mg base CX0 2 f fd ["source", "some"] (spOf K) := by
  have GP : FnOk P w K mg base CX0 1 fP fdP ["source", "many"] spPick := ok_pick D.FP B
  refine F.ok scOf (fun vs H Q E h => ?_) (fun cdv A outer s H vs Q E hr h => ?_)
  · obtain ⟨p, c, l, xs, rfl, _⟩ := h
    rfl
  · obtain ⟨p, c, l, xs, rfl, S, hl, hne, hlen, q⟩ := h
    refine ⟨_, pss_one (ps_ret (pe_ix ix_seq (pv 1) (pe_call GP hr (by rfl) D.gP D.FP.kp D.bP .nil pass0 (pa_cons (pv 0) (pa_cons (pe_callB call_len_seq (by rfl) B.len PySem.boot_len (pa_cons (pv 1) pa_nil)) pa_nil))) (fun _ _ => rfl))), ?_⟩
    walk_at "rd"
    refine ⟨_, _, rfl, hl H (Off.refl p c H), p, c, _, rfl, S, by omega, fun H' r S' off r0 r1 => ?_⟩
    have hpos : 0 < xs.length := List.length_pos_iff.mpr hne
    have hr2 : r.toNat < xs.length := by omega
    have hat : atI xs r = some xs[r.toNat] := at_of (j := r.toNat) (by omega) (List.getElem?_eq_getElem hr2)
    rcases hl H' off with a | a
    · exact .inl ⟨_, _, _, _, rfl, rfl, a, hat, q H' _ (List.getElem_mem hr2) S' off⟩
    · exact .inr (.inl ⟨_, _, _, _, rfl, rfl, a, hat, q H' _ (List.getElem_mem hr2) S' off⟩)
theorem ok_draw {f fP fO : Addr} {fd fdP fdO : FuncData} (F : Fun K "_law_draw_needs" "_law_draw_needs" sDraw f fd) (D : Drw K mg fP fO fdP fdO) (B : Blt mg) : FnOk P w K mg base CX0 3 f fd ["source", "ticks", "most"] spDraw := by
  have GP : FnOk P w K mg base CX0 1 fP fdP ["source", "many"] spPick := ok_pick D.FP B
  have GO : FnOk P w K mg base CX0 2 fO fdO ["source", "some"] (spOf K) := ok_of D.FO D B
  refine F.ok scDraw (fun vs H Q E h => ?_) (fun cdv A outer s H vs Q E hr h => ?_)
  · obtain ⟨p, c, ticks, most, rfl, _⟩ := h
    rfl
  · obtain ⟨p, c, ticks, most, rfl, S, ht, hm1, hm2, q⟩ := h
    have hr1 := hr.mono (show 1 ≤ 2 by decide)
    have hu64 := hr.units
    have hrP := hr1
    have hrO := hr
    refine ⟨_, (pss_cons (ps_par (i := 3) (j := 4) rfl scDraw.nd rfl rfl (by decide) rfl rfl (pa_cons (pe_call GP hrP (by rfl) D.gP D.FP.kp D.bP .nil pass0 (pa_cons (pv 0) (pa_cons pe_int pa_nil))) (pa_cons (pe_lst pa_nil) pa_nil)) (by rfl))
      (pss_cons (ps_while PassesOwn.never (pt_cmpR op_lt (pe_callB call_len_seq (by rfl) B.len PySem.boot_len (pa_cons (pv 4) pa_nil)) (pv 1) (nomark _))
        (pss_one (ps_if (pt_cmpR op_eq (pv 3) pe_int (nomark _))
          (pss_one (ps_expr (pe_bm PySem.F.plainAttrs_list PySem.F.slot_list_append PySem.F.type_list_append mt_append (pv 4) (pa_cons (pe_call GP hrP (by rfl) D.gP D.FP.kp D.bP .nil pass0 (pa_cons (pv 0) (pa_cons (pe_op op_add (pv 2) pe_int) pa_nil))) pa_nil))))
          (pss_one (ps_if (pt_cmpR op_eq (pv 3) pe_int (nomark _))
            (pss_one (ps_set (i := 4) scDraw.nd rfl (.inl rfl) (pe_op op_cat (pe_op op_cat (pv 4) (pe_op op_rep (pe_lst (pa_cons (pe_op op_add pe_int (pe_call GP hrP (by rfl) D.gP D.FP.kp D.bP .nil pass0 (pa_cons (pv 0) (pa_cons (pv 2) pa_nil)))) pa_nil)) (pe_op op_add pe_int (pe_call GP hrP (by rfl) D.gP D.FP.kp D.bP .nil pass0 (pa_cons (pv 0) (pa_cons pe_int pa_nil)))))) (pe_op op_rep (pe_lst (pa_cons pe_int pa_nil)) (pe_call GP hrP (by rfl) D.gP D.FP.kp D.bP .nil pass0 (pa_cons (pv 0) (pa_cons pe_int pa_nil)))))))
            (pss_one (ps_if (pt_cmpR op_eq (pv 3) pe_int (nomark _))
              (pss_cons (ps_set (i := 5) scDraw.nd rfl (.inl rfl) (pe_ifExp (pt_cmpR (op_neD hu64) (pv 4) (pe_lst pa_nil) (nomark _)) (pe_ix ix_list (pv 4) (pe_un un_neg pe_int) (fun _ _ => rfl)) (pe_call GP hrP (by rfl) D.gP D.FP.kp D.bP .nil pass0 (pa_cons (pv 0) (pa_cons (pe_op op_add (pv 2) pe_int) pa_nil)))))
              (pss_one (ps_expr (pe_bm PySem.F.plainAttrs_list PySem.F.slot_list_append PySem.F.type_list_append mt_append (pv 4) (pa_cons (pe_callB (call_min2 rfl) (by rfl) B.min boot_min (pa_cons (pv 2) (pa_cons (pe_callB (call_max2 rfl) (by rfl) B.max boot_max (pa_cons pe_int (pa_cons (pe_op op_sub (pe_op op_add (pv 5) (pe_call GP hrP (by rfl) D.gP D.FP.kp D.bP .nil pass0 (pa_cons (pv 0) (pa_cons pe_int pa_nil)))) pe_int) pa_nil))) pa_nil))) pa_nil)))))
              (pss_cons (ps_set (i := 6) scDraw.nd rfl (.inl rfl) (pe_lst (pa_cons pe_int (pa_cons pe_int (pa_cons (pv 2) (pa_cons (pe_call GP hrP (by rfl) D.gP D.FP.kp D.bP .nil pass0 (pa_cons (pv 0) (pa_cons (pe_op op_add (pv 2) pe_int) pa_nil))) pa_nil))))))
              (pss_one (ps_set (i := 4) scDraw.nd rfl (.inl rfl) (pe_op op_cat (pv 4) (pe_op op_rep (pe_lst (pa_cons (pe_call GO hrO (by rfl) D.gO D.FO.kp D.bO .nil pass0 (pa_cons (pv 0) (pa_cons (pv 6) pa_nil))) pa_nil)) (pe_op op_add pe_int (pe_call GP hrP (by rfl) D.gP D.FP.kp D.bP .nil pass0 (pa_cons (pv 0) (pa_cons pe_int pa_nil))))))))))))))))
      (pss_one (ps_ret (pe_callTy call_tuple_of (by rfl) B.tuple (by decide +kernel) (pa_cons (pe_slice sl_list (pv 4) po_none (po_some (pv 1))) pa_nil)))))), ?_⟩
    walk_at "rd"
    refine ⟨p, c, 4, rfl, S, by decide, fun H1 way S1 off1 w0 w1 => ?_⟩
    refine ⟨Nat.zero_le _, fun fa nfa => ?_⟩
    generalize eH : upd _ _ _ = H2
    obtain ⟨s2, e2⟩ := new_of eH nfa
    walk_at "rd"
    refine while4 (fun n σ G => ∃ (fa : Addr) (ns : List Int) (x5 x6 : Option V), σ = [some (.ref p), some (.int ticks), some (.int most), some (.int way), some (.ref fa), x5, x6] ∧ ticks - ns.length ≤ n ∧
        Src G p c ∧ Off p c H G ∧ H fa = none ∧ fa ≠ p ∧ fa ≠ c ∧ G fa = some (.lst (ns.map V.int)) ∧ (∀ z ∈ ns, 0 ≤ z ∧ z ≤ most) ∧ ns.length ≤ ticks + 20)
      (fun σ G => ∃ (fa : Addr) (ns : List Int) (x5 x6 : Option V), σ = [some (.ref p), some (.int ticks), some (.int most), some (.int way), some (.ref fa), x5, x6] ∧ ticks ≤ ns.length ∧
        Src G p c ∧ Off p c H G ∧ G fa = some (.lst (ns.map V.int)) ∧ (∀ z ∈ ns, 0 ≤ z ∧ z ≤ most))
      ticks ⟨fa, [], none, none, rfl, by simp, S1.same s2, off1.trans (Same.off s2), S1.free off1 nfa, S1.ne_p nfa, S1.ne_c nfa, e2, by simp, by simp⟩ (fun σ G h => ?_) (fun aft n σ G h => ?_)
    · obtain ⟨fa, ns, x5, x6, rfl, hn, S2, off2, e2, hns⟩ := h
      walk_at "rd"
      refine ⟨_, _, rfl, .inl (.inl e2), fun l nl => ?_⟩
      generalize eH : upd _ _ _ = H3
      obtain ⟨s3, e3⟩ := new_of eH nl
      walk_at "rd"
      refine ⟨_, _, rfl, .inl ⟨.inl (.inl e3), fun t nt => ?_⟩⟩
      generalize eH : upd _ _ _ = H4
      obtain ⟨s4, e4⟩ := new_of eH nt
      refine q H4 t (ns.take ticks) ((S2.same s3).same s4) (off2.trans (Same.off (s3.trans s4))) ?_ ?_ ?_ (fun z hz => hns z (List.mem_of_mem_take hz))
      · rw [e4, cut_take, List.map_take]
      · exact S2.free off2 (s3.free nt)
      · rw [List.length_take]; omega
    · obtain ⟨fa, ns, x5, x6, rfl, hmn, S2, off2, nfa, fp, fc, e2, hns, hl⟩ := h
      walk_at "rd"
      refine ⟨_, _, rfl, .inl (.inl (.inl e2)), ?_⟩
      walk_at "rd"
      refine ite2 (fun h1 => ?_) (fun h1 => ?_)
      · have hlt : ns.length < ticks := by
          have := of_decide_eq_true h1
          rw [List.length_map] at this
          omega
        have hlen : (ns.map V.int).length < sizeLine := by
          rw [List.length_map]
          exact Nat.lt_of_lt_of_le (show ns.length < 2000 by omega) (by decide)
        refine ⟨_, fun σ' H' h => ⟨n - 1, by omega, h⟩, ?_⟩
        walk_at "rd"
        refine ⟨rfl, ?_⟩
        walk_at "rd"
        refine ite2 (fun h2 => ?_) (fun h2 => ?_)
        · -- way 0
          walk_at "rd"
          refine ⟨.inl ⟨rfl, _, .inl (.inl e2)⟩, ?_⟩
          walk_at "rd"
          refine ⟨p, c, most + 1, rfl, S2, by omega, fun H3 r S3 off3 r0 r1 => ?_⟩
          have e3 := off3 _ _ fp fc e2
          refine ⟨_, _, _, rfl, rfl, e3, hlen, ?_⟩
          refine ⟨fa, ns ++ [r], x5, x6, rfl, ?_, S3.upd_new fp fc, (off2.trans off3).new nfa, nfa, fp, fc, ?_, ?_, ?_⟩
          · rw [List.length_append, List.length_singleton]; omega
          · rw [upd_same, List.map_append]; rfl
          · intro z hz
            rcases List.mem_append.mp hz with hz | hz
            · exact hns z hz
            · rw [List.mem_singleton.mp hz]; omega
          · rw [List.length_append, List.length_singleton]; omega
        · walk_at "rd"
          refine ⟨rfl, ?_⟩
          walk_at "rd"
          refine ite2 (fun h3 => ?_) (fun h3 => ?_)
          · -- way 1
            walk_at "rd"
            refine ⟨p, c, most, rfl, S2, by omega, fun H3 r S3 off3 r0 r1 => ?_⟩
            have e3 := off3 _ _ fp fc e2
            walk_at "rd"
            refine ⟨by show 1 ≤ sizeLine; decide, fun l1 nl1 => ?_⟩
            generalize eH : upd _ _ _ = H4
            obtain ⟨s4, e4⟩ := new_of eH nl1
            walk_at "rd"
            refine ⟨p, c, 3, rfl, S3.same s4, by decide, fun H5 r2 S5 off5 r20 r21 => ?_⟩
            have e5 := off5 _ _ (S3.ne_p nl1) (S3.ne_c nl1) e4
            have f5 := off5 _ _ fp fc (s4 _ _ e3)
            walk_at "rd"
            refine ⟨_, _, _, rfl, rfl, e5, by omega, by omega, ?_, fun l2 nl2 => ?_⟩
            · show 1 * (1 + r2).toNat ≤ sizeLine
              exact Nat.le_trans (show _ ≤ 10 by omega) (by decide)
            generalize eH : upd _ _ _ = H6
            obtain ⟨s6, e6⟩ := new_of eH nl2
            walk_at "rd"
            refine ⟨_, _, _, _, rfl, rfl, s6 _ _ f5, e6, ?_, fun l3 nl3 => ?_⟩
            · rw [rep1, List.length_map, List.length_map, List.length_replicate]
              exact Nat.le_of_lt (many_small (by omega))
            generalize eH : upd _ _ _ = H7
            obtain ⟨s7, e7⟩ := new_of eH nl3
            walk_at "rd"
            refine ⟨by show 1 ≤ sizeLine; decide, fun l4 nl4 => ?_⟩
            generalize eH : upd _ _ _ = H8
            obtain ⟨s8, e8⟩ := new_of eH nl4
            walk_at "rd"
            have S8 := ((S5.same s6).same s7).same s8
            refine ⟨p, c, 9, rfl, S8, by decide, fun H9 r3 S9 off9 r30 r31 => ?_⟩
            have g4 := off9 _ _ (((S5.same s6).same s7).ne_p nl4) (((S5.same s6).same s7).ne_c nl4) e8
            have g3 := off9 _ _ ((S5.same s6).ne_p nl3) ((S5.same s6).ne_c nl3) (s8 _ _ e7)
            walk_at "rd"
            refine ⟨_, _, _, rfl, rfl, g4, by omega, by omega, ?_, fun l5 nl5 => ?_⟩
            · show 1 * r3.toNat ≤ sizeLine
              exact Nat.le_trans (show _ ≤ 10 by omega) (by decide)
            generalize eH : upd _ _ _ = H10
            obtain ⟨s10, e10⟩ := new_of eH nl5
            walk_at "rd"
            refine ⟨_, _, _, _, rfl, rfl, s10 _ _ g3, e10, ?_, fun l6 nl6 => ?_⟩
            · rw [rep1, rep1, List.length_append, List.length_map, List.length_map, List.length_map, List.length_replicate, List.length_replicate]
              exact Nat.le_of_lt (many_small (by omega))
            generalize eH : upd _ _ _ = H11
            obtain ⟨s11, e11⟩ := new_of eH nl6
            have ot : Off p c H H10 := (((off2.trans off3).trans (Same.off s4)).trans off5).trans (((Same.off ((s6.trans s7).trans s8)).trans off9).trans (Same.off s10))
            have S10 := S9.same s10
            refine ⟨l6, ns ++ List.replicate (1 + r2).toNat (1 + r) ++ List.replicate r3.toNat 0, x5, x6, rfl, ?_, S10.same s11, ot.trans (Same.off s11), S10.free ot nl6, S10.ne_p nl6, S10.ne_c nl6, ?_, ?_, ?_⟩
            · rw [List.length_append, List.length_append, List.length_replicate, List.length_replicate]; omega
            · rw [e11, rep1, rep1, List.map_append, List.map_append]
            · intro z hz
              rcases List.mem_append.mp hz with hz | hz
              · rcases List.mem_append.mp hz with hz | hz
                · exact hns z hz
                · rw [List.eq_of_mem_replicate hz]; omega
              · rw [List.eq_of_mem_replicate hz]; omega
            · rw [List.length_append, List.length_append, List.length_replicate, List.length_replicate]; omega
          · walk_at "rd"
            refine ⟨rfl, ?_⟩
            walk_at "rd"
            refine ite2 (fun h4 => ?_) (fun h4 => ?_)
            · -- way 2
              refine tif_R (fun v G' => ∃ ah, v = .int ah ∧ Src G' p c ∧ Off p c H G' ∧ G' fa = some (.lst (ns.map V.int))) (fun v G' h => ?_) (fun Q' hQ => ?_)
              · obtain ⟨ah, rfl, S3, off3, e3⟩ := h
                walk_at "rd"
                refine ⟨.inl ⟨rfl, _, .inl (.inl e3)⟩, ?_⟩
                walk_at "rd"
                refine ⟨p, c, 5, rfl, S3, by decide, fun H5 r S5 off5 r0 r1 => ?_⟩
                have e5 := off5 _ _ fp fc e3
                walk_at "rd"
                refine ⟨_, _, _, rfl, rfl, e5, hlen, ?_⟩
                refine ⟨fa, ns ++ [if (if ah + r - 2 > 0 then ah + r - 2 else 0) < most then (if ah + r - 2 > 0 then ah + r - 2 else 0) else most], some (.int ah), x6, rfl, ?_, S5.upd_new fp fc, (off3.trans off5).new nfa, nfa, fp, fc, ?_, ?_, ?_⟩
                · rw [List.length_append, List.length_singleton]; omega
                · rw [upd_same, List.map_append]
                  rfl
                · intro z hz
                  rcases List.mem_append.mp hz with hz | hz
                  · exact hns z hz
                  · rw [List.mem_singleton.mp hz]
                    split <;> split <;> omega
                · rw [List.length_append, List.length_singleton]; omega
              · walk_at "rd"
                refine ⟨Nat.zero_le _, fun l1 nl1 => ?_⟩
                generalize eH : upd _ _ _ = H3
                obtain ⟨s3, e3⟩ := new_of eH nl1
                refine ⟨_, _, nul_ints (s3 _ _ e2), .lst (.inl (.inl e3)) .nil, shaped_list_ints, shaped_list_ints (ns := []), ?_⟩
                rw [eqv_nil]
                walk_at "rd"
                refine ite2 (fun h5 => ?_) (fun h5 => ?_)
                · have hne : ns ≠ [] := by
                    rintro rfl
                    exact absurd h5 (by decide)
                  have hat : atI (ns.map V.int) (-1) = some (.int (ns.getLast hne)) := by
                    have e : ns.map V.int = ns.dropLast.map V.int ++ [.int (ns.getLast hne)] := by
                      rw [← List.map_singleton, ← List.map_append, List.dropLast_concat_getLast]
                    rw [e]
                    exact atI_last _ _
                  walk_at "rd"
                  exact ⟨_, _, _, _, rfl, rfl, .inl (.inl (s3 _ _ e2)), hat, hQ _ _ ⟨_, rfl, S2.same s3, off2.trans (Same.off s3), s3 _ _ e2⟩⟩
                · walk_at "rd"
                  refine ⟨p, c, _, rfl, S2.same s3, by omega, fun H5 r S5 off5 r0 r1 => ?_⟩
                  exact hQ _ _ ⟨_, rfl, S5, (off2.trans (Same.off s3)).trans off5, off5 _ _ fp fc (s3 _ _ e2)⟩
            · -- way 3
              walk_at "rd"
              refine ⟨p, c, _, rfl, S2, by omega, fun H3 r S3 off3 r0 r1 => ?_⟩
              have e3 := off3 _ _ fp fc e2
              refine ⟨by show 4 ≤ sizeLine; decide, fun l1 nl1 => ?_⟩
              generalize eH : upd _ _ _ = H4
              obtain ⟨s4, e4⟩ := new_of eH nl1
              have S4 := S3.same s4
              walk_at "rd"
              refine ⟨p, c, l1, _, rfl, S4, fun G' o => .inl (.inl (.inl (o _ _ (S3.ne_p nl1) (S3.ne_c nl1) e4))), by simp, by show 4 ≤ 100000; decide, fun H5 x hx S5 off5 => ?_⟩
              obtain ⟨z, rfl, z0, z1⟩ : ∃ z, x = .int z ∧ 0 ≤ z ∧ z ≤ most := by
                simp only [List.mem_cons, List.not_mem_nil, or_false] at hx
                rcases hx with rfl | rfl | rfl | rfl
                · exact ⟨0, rfl, by omega, by omega⟩
                · exact ⟨0, rfl, by omega, by omega⟩
                · exact ⟨most, rfl, by omega, by omega⟩
                · exact ⟨r, rfl, by omega, by omega⟩
              have e5 := off5 _ _ fp fc (s4 _ _ e3)
              refine ⟨by show 1 ≤ sizeLine; decide, fun l2 nl2 => ?_⟩
              generalize eH : upd _ _ _ = H6
              obtain ⟨s6, e6⟩ := new_of eH nl2
              have S6 := S5.same s6
              walk_at "rd"
              refine ⟨p, c, 4, rfl, S6, by decide, fun H7 r2 S7 off7 r20 r21 => ?_⟩
              have e7 := off7 _ _ (S5.ne_p nl2) (S5.ne_c nl2) e6
              have f7 := off7 _ _ fp fc (s6 _ _ e5)
              walk_at "rd"
              refine ⟨_, _, _, rfl, rfl, e7, by omega, by omega, ?_, fun l3 nl3 => ?_⟩
              · show 1 * (1 + r2).toNat ≤ sizeLine
                exact Nat.le_trans (show _ ≤ 10 by omega) (by decide)
              generalize eH : upd _ _ _ = H8
              obtain ⟨s8, e8⟩ := new_of eH nl3
              walk_at "rd"
              refine ⟨_, _, _, _, rfl, rfl, s8 _ _ f7, e8, ?_, fun l4 nl4 => ?_⟩
              · rw [rep1, List.length_map, List.length_map, List.length_replicate]
                exact Nat.le_of_lt (many_small (by omega))
              generalize eH : upd _ _ _ = H9
              obtain ⟨s9, e9⟩ := new_of eH nl4
              have ot : Off p c H H8 := (((off2.trans off3).trans (Same.off s4)).trans off5).trans (((Same.off s6).trans off7).trans (Same.off s8))
              have S8 := S7.same s8
              refine ⟨l4, ns ++ List.replicate (1 + r2).toNat z, x5, _, rfl, ?_, S8.same s9, ot.trans (Same.off s9), S8.free ot nl4, S8.ne_p nl4, S8.ne_c nl4, ?_, ?_, ?_⟩
              · rw [List.length_append, List.length_replicate]; omega
              · rw [e9, rep1, List.map_append]
              · intro y hy
                rcases List.mem_append.mp hy with hy | hy
                · exact hns y hy
                · rw [List.eq_of_mem_replicate hy]; omega
              · rw [List.length_append, List.length_replicate]; omega
      · refine aft _ _ ⟨fa, ns, x5, x6, rfl, ?_, S2, off2, e2, hns⟩
        have := of_decide_eq_false (Bool.eq_false_iff.mpr h1)
        rw [List.length_map] at this
        omega
theorem ok_lgaps {f : Addr} {fd : FuncData} (F : Fun K "_law_gaps" "_law_gaps" sLGaps f fd) (B : Blt mg) : FnOk P w K mg base CX0 1 f fd ["needs", "k"] (spGaps K) := by
  refine F.ok scLGaps (fun vs H Q E h => ?_) (fun cdv A outer s H vs Q E hr h => ?_)
  · obtain ⟨t, k, ns, rfl, _⟩ := h
    rfl
  · obtain ⟨t, k, ns, rfl, ht, hlen, q⟩ := h
    refine ⟨_, (pss_cons (ps_setLc (i := 2) (own := [("t", 3)]) (g := gName 3) rfl scLGaps.nd rfl rfl (sw_true rfl rfl rfl (by decide +kernel)) (pi_range1 rfl B.range (pa_cons (pe_callB call_len_seq (by rfl) B.len PySem.boot_len (pa_cons (pv 0) pa_nil)) pa_nil)) (blkOk_by (own := [("t", 3)]) (N := ["needs", "k", "on", "t", "a", "b"]) (sc := defScope sLGaps) (by decide +kernel)) (fun _ _ _ _ _ => (pg_name (i := 3) scLGaps.nd rfl (.inl rfl))) (fun _ _ _ _ _ => pts_one (pt_cmpR op_ge (pe_ix (r := rIxT K) ix_tup (pv 0) (pv 3) (fun _ _ => rfl)) (pv 1) (nomark _))) (fun _ _ _ _ _ => (pv 3)))
      (pss_one (ps_ret (pe_lc (own := [("a", 4), ("b", 5)]) (g := gTup K 2 (gCons (gName 4) (gCons (gName 5) gNil))) rfl scLGaps.nd (pi_zip (by rfl) B.zip (pa_cons (pv 2) (pa_cons (pe_slice (r := rSlL K) sl_list (pv 2) (po_some pe_int) po_none) pa_nil))) (blkOk_by (own := [("a", 4), ("b", 5)]) (N := ["needs", "k", "on", "t", "a", "b"]) (sc := defScope sLGaps) (by decide +kernel)) (fun _ _ _ _ _ => (pg_tup rfl (pgs_cons (pg_name (i := 4) scLGaps.nd rfl (.inl rfl)) (pgs_cons (pg_name (i := 5) scLGaps.nd rfl (.inl rfl)) pgs_nil)))) (fun _ _ _ _ _ => pts_one (pt_cmpR op_gt (pv 5) (pe_op op_add (pv 4) pe_int) (nomark _))) (fun _ _ _ _ _ => (pe_tup (pa_cons (pe_op op_add (pv 4) pe_int) (pa_cons (pe_op op_sub (pe_op op_sub (pv 5) (pv 4)) pe_int) pa_nil)))))))), ?_⟩
    walk_at "rd"
    refine ⟨_, _, rfl, .inr (.inl (.inl ht)), ?_⟩
    walk_at "rd"
    refine ⟨by omega, by rw [List.length_map]; omega, fun D nD => lc_range (lo := 0) (n := ((ns.map V.int).length : Int).toNat) (fun i G => Same H G ∧ G D = some (.lst ((onL ns k i).map V.int))) ?_ (fun i G hi h => ?_) (fun G h => ?_)⟩
    · exact ⟨same_new nD, upd_same⟩
    · obtain ⟨h1, h2⟩ := h
      have hi : i < ns.length := by
        rw [List.length_map] at hi
        omega
      have hz : ns[i]? = some ns[i] := List.getElem?_eq_getElem hi
      refine ⟨rfl, ?_⟩
      walk_at "rd"
      refine ⟨_, _, _, _, rfl, rfl, .inl (.inl (h1 _ _ ht)), at_of (j := i) (by omega) (by rw [List.getElem?_map, hz]; rfl), ?_⟩
      walk_at "rd"
      refine ite2 (fun hk => ?_) (fun hk => ?_)
      · walk_at "rd"
        refine ⟨_, h2, ?_, fun b o e => ?_, ?_⟩
        · rw [List.length_map]
          have := onL_len (ns := ns) (k := k) (i := i)
          exact many_small (by omega)
        · rw [upd_ne (ne_of_none e nD)]
          exact h1 _ _ e
        · rw [upd_same, onL_yes hz (of_decide_eq_true hk), List.map_append, Int.zero_add]
          rfl
      · refine ⟨h1, ?_⟩
        rw [onL_no hz (fun q => hk (decide_eq_true q))]
        exact h2
    · -- the pairs of neighbours
      have hon : onL ns k ((ns.map V.int).length : Int).toNat = onL ns k ns.length := by rw [List.length_map, Int.toNat_natCast]
      obtain ⟨s3, e3⟩ := h
      rw [hon] at e3
      generalize eo : onL ns k ns.length = os at e3
      have hos : os.length ≤ 5000 := by
        rw [← eo]
        exact Nat.le_trans onL_len hlen
      walk_at "rd"
      refine ⟨_, _, rfl, .inl (.inl e3), fun c nc => ?_⟩
      generalize eH : upd _ _ _ = H4
      obtain ⟨s4, e4⟩ := new_of eH nc
      rw [cut_drop1, ← List.map_drop] at e4
      have e5 := s4 _ _ e3
      walk_at "rd"
      refine ⟨_, _, _, _, rfl, .inl (.inl e5), .inl (.inl e4), fun D2 nD2 => lc_it (walk_zip (K := K) (a := D) (b := c) (xs := os.map V.int) (ys := (os.drop 1).map V.int) (n := os.length - 1) (by rw [List.length_map, List.length_map, List.length_drop]; omega))
        (fun i G => Same H4 G ∧ ∃ ws, G D2 = some (.lst ws) ∧ DpAll K G ws ((pairsL os i).map prD)) ?_ (fun i G _ h => ⟨.inl (.inl (h.1 _ _ e5)), .inl (.inl (h.1 _ _ e4))⟩) (fun i x G G' hi h hy => ?_) (fun G h => ?_)⟩
      · exact ⟨same_new nD2, [], upd_same, .nil⟩
      · obtain ⟨h1, ws, h2, h3⟩ := h
        obtain ⟨T, x1, x2, rfl, nT, rfl, a1, a2⟩ := hy
        have a1 : (os.map V.int)[i]? = some x1 := a1
        have a2 : ((os.drop 1).map V.int)[i]? = some x2 := a2
        obtain ⟨y1, b1, rfl⟩ := int_at a1
        obtain ⟨y2, b2, rfl⟩ := int_at a2
        have b2 : os[i + 1]? = some y2 := by
          rw [List.getElem?_drop, Nat.add_comm] at b2
          exact b2
        generalize eH : upd _ _ _ = G1
        obtain ⟨g1, f1⟩ := new_of eH nT
        refine ⟨T, _, rfl, .inl (.inl f1), rfl, _, _, rfl, _, _, rfl, rfl, rfl, ?_⟩
        walk_at "rd"
        refine ite2 (fun hk => ?_) (fun hk => ?_)
        · have hk := of_decide_eq_true hk
          walk_at "rd"
          refine ⟨by show 2 ≤ sizeLine; decide, fun u nu => ?_⟩
          generalize eH : upd _ _ _ = G2
          obtain ⟨g2, f2⟩ := new_of eH nu
          have g12 := g1.trans g2
          have hD := g12 _ _ h2
          refine ⟨ws, hD, ?_, ?_⟩
          · rw [dp_len h3, List.length_map]
            exact many_small (Nat.le_trans pairsL_len (by omega))
          · have nsame : Same H4 (upd G2 D2 (.lst (ws ++ [.ref u]))) := fun b o e => by
              rw [upd_ne (ne_of_none e nD2)]
              exact g12 _ _ (h1 _ _ e)
            refine ⟨nsame, _, upd_same, ?_⟩
            rw [pairsL_yes b1 b2 (by omega), List.map_append]
            have noD2 : ∀ (Gx : Hp), Gx = upd G2 D2 (.lst (ws ++ [.ref u])) → DpAll K Gx ws ((pairsL os i).map prD) := by
              rintro Gx rfl
              exact dp_pairs_upd (dp_sameAll g12 _ _ h3) hD
            refine dp_snoc (noD2 _ rfl) ?_
            have fu : (upd G2 D2 (.lst (ws ++ [.ref u]))) u = some (.tup [.int (y1 + 1), .int (y2 - y1 - 1)]) := by
              rw [upd_ne (ne_of f2 hD (by intro z; cases z)), f2]
            exact .tup (.inl (.inl fu)) (.cons (.int _) (.cons (.int _) .nil))
        · have hk : ¬ y2 > y1 + 1 := fun q => hk (decide_eq_true q)
          refine ⟨fun b o e => g1 _ _ (h1 _ _ e), ws, g1 _ _ h2, ?_⟩
          rw [pairsL_no b1 b2 (by omega)]
          exact dp_sameAll g1 _ _ h3
      · obtain ⟨h1, ws, h2, h3⟩ := h
        refine q G D2 ws ((s3.trans s4).trans h1) ((s3.trans s4).free nD2) h2 ?_
        unfold gapsL
        rw [eo]
        exact h3
end
end K22
set_option Elab.async false
set_option linter.all false
set_option maxRecDepth 100000
set_option maxHeartbeats 1000000
namespace K22
open PySem PySem.Spec PyProof.Rows L2 WK
local macro_rules | `(tactic| walk_at "rd") => `(tactic| repeat (first | refine Exists.intro _ (And.intro rfl ?_) | refine Exists.intro _ (Exists.intro _ (And.intro rfl (And.intro rfl ?_))) | refine Exists.intro _ (Exists.intro _ (And.intro rfl ?_))))
abbrev sVa : Stmt := topS 1
theorem scVa : FnScope ["needs", "found", "seeing", "tick", "need", "low", "ahead"] ["needs"] (defScope sVa) := ⟨rfl, rfl, rfl, by decide +kernel, rfl, by decide +kernel, by decide +kernel⟩
section
variable {P : Program} {w : World} {K : PySem.W.Frag} {mg : Str → Option Value} {base : Heap}
theorem ok_valleys {f : Addr} {fd : FuncData} (F : Fun K "valleys" "valleys" sVa f fd) (B : Blt mg) : FnOk P w K mg base CX0 1 f fd ["needs"] (spValleys K) := by
  refine F.ok scVa (fun vs H Q E h => ?_) (fun cdv A outer s H vs Q E hr h => ?_)
  · obtain ⟨t, ns, rfl, _⟩ := h
    rfl
  · obtain ⟨a, ns, rfl, ha, hN, q⟩ := h
    refine ⟨_, (pss_cons (ps_set (i := 1) scVa.nd rfl (.inl rfl) (pe_lst pa_nil))
      (pss_cons (ps_set (i := 2) scVa.nd rfl (.inl rfl) (pe_lst pa_nil))
      (pss_cons (ps_for PassesOwn.never rfl (pi_enumT (by rfl) B.enumerate (pa_cons (pv 0) pa_nil)) (pg_tup rfl (pgs_cons (pg_name (i := 3) scVa.nd rfl (.inl rfl)) (pgs_cons (pg_name (i := 4) scVa.nd rfl (.inl rfl)) pgs_nil)))
        (pss_cons (ps_while PassesOwn.never (PW.pt (pw_and (pt_truth (pv 2) (by intro _; rfl)) (pw_and1 (pt_cmpR op_lt (pe_ix (r := rIxT K) ix_tup (pv 0) (pe_ix (r := rIxL K) ix_list (pv 2) (pe_un un_neg pe_int) (fun _ _ => rfl)) (fun _ _ => rfl)) (pv 4) (nomark _)))))
          (pss_cons (ps_set (i := 5) scVa.nd rfl (.inl rfl) (pe_ix (r := rIxT K) ix_tup (pv 0) (pe_bm0 PySem.F.plainAttrs_list PySem.F.slot_list_pop PySem.F.type_list_pop mt_pop (pv 2)) (fun _ _ => rfl)))
          (pss_one (ps_if (pt_truth (pv 2) (by intro _; rfl))
            (pss_cons (ps_set (i := 6) scVa.nd rfl (.inl rfl) (pe_ix (r := rIxL K) ix_list (pv 2) (pe_un un_neg pe_int) (fun _ _ => rfl)))
            (pss_one (ps_expr (pe_bm PySem.F.plainAttrs_list PySem.F.slot_list_append PySem.F.type_list_append mt_append (pv 1) (pa_cons (pe_tup (pa_cons (pe_op op_add (pv 6) pe_int) (pa_cons (pe_op op_sub (pe_op op_sub (pv 3) (pv 6)) pe_int) (pa_cons (pv 5) (pa_cons (pe_callB (call_min2 rfl) (by rfl) B.min boot_min (pa_cons (pe_ix (r := rIxT K) ix_tup (pv 0) (pv 6) (fun _ _ => rfl)) (pa_cons (pv 4) pa_nil))) pa_nil))))) pa_nil)))))
            pss_nil))))
        (pss_cons (ps_if (PW.pt (pw_and (pt_truth (pv 2) (by intro _; rfl)) (pw_and1 (pt_cmpR op_eq (pe_ix (r := rIxT K) ix_tup (pv 0) (pe_ix (r := rIxL K) ix_list (pv 2) (pe_un un_neg pe_int) (fun _ _ => rfl)) (fun _ _ => rfl)) (pv 4) (nomark _)))))
          (pss_one (ps_expr (pe_bm0 PySem.F.plainAttrs_list PySem.F.slot_list_pop PySem.F.type_list_pop mt_pop (pv 2))))
          pss_nil)
        (pss_one (ps_expr (pe_bm PySem.F.plainAttrs_list PySem.F.slot_list_append PySem.F.type_list_append mt_append (pv 2) (pa_cons (pv 3) pa_nil)))))))
      (pss_one (ps_ret (pe_callB (r := rSortU K 4 BV) (cr_sortT (by decide)) (by rfl) B.sorted (by decide +kernel) (pa_cons (pv 1) pa_nil))))))), ?_⟩
    walk_at "rd"
    refine ⟨Nat.zero_le _, fun fo nfo => ?_⟩
    generalize eH : upd _ _ _ = H1
    obtain ⟨g1, e1⟩ := new_of eH nfo
    walk_at "rd"
    refine ⟨Nat.zero_le _, fun se nse => ?_⟩
    generalize eH : upd _ _ _ = H2
    obtain ⟨g2, e2⟩ := new_of eH nse
    have ne12 : fo ≠ se := ne_of_none e1 nse
    have hse : H se = none := Same.free g1 nse
    have e1 := g2 _ _ e1
    have hln := hN.len
    walk_at "rd"
    refine ⟨_, _, rfl, sq_same (g1.trans g2) ha, for_it (walk_enumT (K := K) (a := a) (xs := ns.map V.int)) (fun i σ G => ∃ (x3 x4 x5 x6 : Option V) (ws : List V), σ = [some (.ref a), some (.ref fo), some (.ref se), x3, x4, x5, x6] ∧
      Same H G ∧ G fo = some (.lst ws) ∧ AllT K G ws ((valV4 ns i).map v4L) ∧ G se = some (.lst ((stkV ns i).reverse.map fun (s : Nat) => V.int s))) ⟨none, none, none, none, [], rfl, g1.trans g2, e1, .nil, e2⟩ (fun i σ G _ h => ?_) (fun i x σ G G' hi h hy => ?_) (fun σ G h => ?_)⟩
    · obtain ⟨x3, x4, x5, x6, ws, rfl, sm, k1, k2, k3⟩ := h
      exact sq_same sm ha
    · obtain ⟨x3, x4, x5, x6, ws, rfl, sm, k1, k2, k3⟩ := h
      obtain ⟨T, y1, y2, rfl, nT, rfl, b1, b2⟩ := hy
      have b1 : some (V.int (i : Nat)) = some y1 := b1
      injection b1 with b1
      subst b1
      obtain ⟨z, hz, rfl⟩ := int_at b2
      rw [List.length_map] at hi
      generalize eH : upd _ _ _ = J
      obtain ⟨j1, f1⟩ := new_of eH nT
      refine ⟨T, _, rfl, .inl (.inl f1), rfl, _, _, rfl, _, _, rfl, rfl, ?_⟩
      have en : nd ns i = z := getD_of hz
      have O := stk_ok (ns := ns) i (by omega)
      walk_at "rd"
      refine while4 (fun m σ' G' => ∃ (S : List Nat) (F : List V4) (x5 x6 : Option V) (ws : List V), m = S.length ∧ σ' = [some (.ref a), some (.ref fo), some (.ref se), some (.int (i : Nat)), some (.int z), x5, x6] ∧ Same H G' ∧ G' fo = some (.lst ws) ∧
          AllT K G' ws ((valV4 ns i ++ F).map v4L) ∧ G' se = some (.lst (S.reverse.map fun (s : Nat) => V.int s)) ∧ popV ns z i S F = popV ns z i (stkV ns i) [] ∧ (∀ s ∈ S, s < i) ∧ F.length + S.length ≤ (stkV ns i).length)
        (fun σ' G' => ∃ (S : List Nat) (F : List V4) (x5 x6 : Option V) (ws : List V), σ' = [some (.ref a), some (.ref fo), some (.ref se), some (.int (i : Nat)), some (.int z), x5, x6] ∧ Same H G' ∧ G' fo = some (.lst ws) ∧
          AllT K G' ws ((valV4 ns i ++ F).map v4L) ∧ G' se = some (.lst (S.reverse.map fun (s : Nat) => V.int s)) ∧ (S, F) = popV ns z i (stkV ns i) [])
        _ ⟨stkV ns i, [], _, _, ws, rfl, rfl, sm.trans j1, j1 _ _ k1, by rw [List.append_nil]; exact k2.same j1, j1 _ _ k3, rfl, O.lt, by simp⟩ (fun σ' G' h => ?_) (fun aft m σ' G' h => ?_)
      · obtain ⟨S, F, x5, x6, ws, rfl, sm, k1, k2, k3, k4⟩ := h
        have hS : stkV ns (i + 1) = i :: eqPop ns z S := by
          rw [stk_eq, en, ← k4]
        have hF : valV4 ns (i + 1) = valV4 ns i ++ F := by
          show valV4 ns i ++ newV ns i = _
          unfold newV
          rw [en, ← k4]
        have hSl : S.length ≤ 63 := by
          have e1 : S = (popV ns z i (stkV ns i) []).1 := by rw [← k4]
          have e2 := (pop_ok ns z i en.symm (stkV ns i) O.inc O.lt).2
          rw [← e1] at e2
          have e3 := val_len (ns := ns) i (by omega)
          omega
        have hS63 : ∀ s ∈ S, s < i := by
          have e1 : S = (popV ns z i (stkV ns i) []).1 := by rw [← k4]
          rw [pop_drop] at e1
          intro s hs
          rw [e1] at hs
          exact O.lt s ((List.dropWhile_sublist _).mem hs)
        rw [← hF] at k2
        have fin : ∀ (S' : List Nat) (J : Hp), Same H J → J fo = some (.lst ws) → AllT K J ws ((valV4 ns (i + 1)).map v4L) → J se = some (.lst (S'.reverse.map fun (s : Nat) => V.int s)) → stkV ns (i + 1) = i :: S' →
            ∃ (x3 x4 x5' x6' : Option V) (ws : List V), [some (V.ref a), some (.ref fo), some (.ref se), some (.int (i : Nat)), some (.int z), x5, x6] = [some (.ref a), some (.ref fo), some (.ref se), x3, x4, x5', x6'] ∧
              Same H (upd J se (.lst ((S'.reverse.map fun (s : Nat) => V.int s) ++ [V.int (i : Nat)]))) ∧ upd J se (.lst ((S'.reverse.map fun (s : Nat) => V.int s) ++ [V.int (i : Nat)])) fo = some (.lst ws) ∧
              AllT K (upd J se (.lst ((S'.reverse.map fun (s : Nat) => V.int s) ++ [V.int (i : Nat)]))) ws ((valV4 ns (i + 1)).map v4L) ∧ upd J se (.lst ((S'.reverse.map fun (s : Nat) => V.int s) ++ [V.int (i : Nat)])) se = some (.lst ((stkV ns (i + 1)).reverse.map fun (s : Nat) => V.int s)) := by
          intro S' J h1 h2 h3 h4 h5
          refine ⟨_, _, _, _, ws, rfl, same_upd h1 hse, by rw [upd_ne ne12]; exact h2, AllT.upd h4 h3, ?_⟩
          rw [upd_same, h5, revL]
        walk_at "rd"
        refine ⟨_, .inl ⟨_, .inl (.inl k3), rfl⟩, ?_⟩
        cases S with
        | nil =>
          dsimp only [List.reverse_nil, List.map_nil, List.isEmpty_nil, Bool.not_true]
          refine ifF rfl ?_
          refine ifF rfl ?_
          walk_at "rd"
          refine ⟨.inl ⟨rfl, _, .inl (.inl k3)⟩, ?_⟩
          walk_at "rd"
          exact ⟨_, _, _, rfl, rfl, k3, by decide, fin [] _ sm k1 k2 k3 hS⟩
        | cons s r =>
          have hns := ndAt (ns := ns) (s := s) (by have := hS63 s (by simp); omega)
          have k3o := k3
          rw [revL] at k3
          refine ifT (by rw [revL]; simp) ?_
          walk_at "rd"
          refine ⟨_, _, _, _, rfl, rfl, .inl (.inl k3), atI_last _ _, ?_⟩
          walk_at "rd"
          refine ⟨_, _, _, _, rfl, rfl, sq_same sm ha, atI_nat hns, ?_⟩
          walk_at "rd"
          refine ⟨rfl, ?_⟩
          walk_at "rd"
          refine ite2 (fun heq => ?_) (fun heq => ?_)
          · have heq : nd ns s = z := V.int.inj (of_decide_eq_true heq)
            walk_at "rd"
            refine ⟨.inl ⟨rfl, _, .inl (.inl k3)⟩, _, _, _, rfl, rfl, k3, lastAt, ?_⟩
            rw [List.dropLast_concat]
            have sm2 : Same H (upd G' se (.lst (r.reverse.map fun (s : Nat) => V.int s))) := same_upd sm hse
            have k1' : upd G' se (.lst (r.reverse.map fun (s : Nat) => V.int s)) fo = some (.lst ws) := by
              rw [upd_ne ne12]
              exact k1
            have k2' := AllT.upd (o := .lst (r.reverse.map fun (s : Nat) => V.int s)) k3 k2
            have k3' : upd G' se (.lst (r.reverse.map fun (s : Nat) => V.int s)) se = _ := upd_same
            generalize upd G' se (.lst (r.reverse.map fun (s : Nat) => V.int s)) = J2 at *
            walk_at "rd"
            refine ⟨.inl ⟨rfl, _, .inl (.inl k3')⟩, ?_⟩
            walk_at "rd"
            refine ⟨_, _, _, rfl, rfl, k3', ?_, fin r _ sm2 k1' k2' k3' ?_⟩
            · simp at hSl ⊢
              exact many_small (by omega)
            · rw [hS]
              show _ :: (if nd ns s = z then r else s :: r) = _
              rw [if_pos heq]
          · walk_at "rd"
            refine ⟨.inl ⟨rfl, _, .inl (.inl k3o)⟩, ?_⟩
            walk_at "rd"
            refine ⟨_, _, _, rfl, rfl, k3o, ?_, fin (s :: r) _ sm k1 k2 k3o ?_⟩
            · simp at hSl ⊢
              exact many_small (by omega)
            · rw [hS]
              show _ :: (if nd ns s = z then r else s :: r) = _
              rw [if_neg fun e => heq (decide_eq_true (congrArg V.int e))]
      · obtain ⟨S, F, x5, x6, ws, rfl, rfl, sm, k1, k2, k3, k4, k5, k6⟩ := h
        walk_at "rd"
        refine ⟨_, .inl ⟨_, .inl (.inl k3), rfl⟩, ?_⟩
        cases S with
        | nil =>
          dsimp only [List.reverse_nil, List.map_nil, List.isEmpty_nil, Bool.not_true]
          refine ifF rfl ?_
          refine aft _ _ ⟨[], F, x5, x6, ws, rfl, sm, k1, k2, k3, ?_⟩
          rw [← k4]
          rfl
        | cons s r =>
          rw [revL] at k3
          have hs := k5 s (by simp)
          have hns := ndAt (ns := ns) (s := s) (by omega)
          refine ifT (by rw [revL]; simp) ?_
          walk_at "rd"
          refine ⟨_, _, _, _, rfl, rfl, .inl (.inl k3), atI_last _ _, ?_⟩
          walk_at "rd"
          refine ⟨_, _, _, _, rfl, rfl, sq_same sm ha, atI_nat hns, ?_⟩
          walk_at "rd"
          refine ite2 (fun hlt => ?_) (fun hlt => ?_)
          · have hlt := of_decide_eq_true hlt
            refine ⟨_, fun σ' H' h => ⟨r.length, by simp, h⟩, ?_⟩
            walk_at "rd"
            refine ⟨.inl ⟨rfl, _, .inl (.inl k3)⟩, _, _, _, rfl, rfl, k3, lastAt, ?_⟩
            rw [List.dropLast_concat]
            have sm2 : Same H (upd G' se (.lst (r.reverse.map fun (s : Nat) => V.int s))) := same_upd sm hse
            have k1' : upd G' se (.lst (r.reverse.map fun (s : Nat) => V.int s)) fo = some (.lst ws) := by
              rw [upd_ne ne12]
              exact k1
            have k2' := AllT.upd (o := .lst (r.reverse.map fun (s : Nat) => V.int s)) k3 k2
            have k3' : upd G' se (.lst (r.reverse.map fun (s : Nat) => V.int s)) se = _ := upd_same
            generalize upd G' se (.lst (r.reverse.map fun (s : Nat) => V.int s)) = J2 at *
            clear k1 k2 k3 sm
            refine ⟨_, _, _, _, rfl, rfl, sq_same sm2 ha, atI_nat hns, ?_⟩
            walk_at "rd"
            refine ⟨_, .inl ⟨_, .inl (.inl k3'), rfl⟩, ?_⟩
            cases r with
            | nil =>
              dsimp only [List.reverse_nil, List.map_nil, List.isEmpty_nil, Bool.not_true]
              refine ifF rfl ?_
              refine ⟨[], F, _, _, ws, rfl, rfl, sm2, k1', k2', k3', ?_, by simp, by simp at k6 ⊢; omega⟩
              rw [← k4]
              unfold popV
              rw [if_pos hlt]
              rfl
            | cons c r =>
              rw [revL] at k3'
              refine ifT (by rw [revL]; simp) ?_
              have hc := k5 c (by simp)
              have hnc := ndAt (ns := ns) (s := c) (by omega)
              walk_at "rd"
              refine ⟨_, _, _, _, rfl, rfl, .inl (.inl k3'), atI_last _ _, ?_⟩
              walk_at "rd"
              refine ⟨.inl ⟨rfl, _, .inl (.inl k1')⟩, ?_⟩
              walk_at "rd"
              refine ⟨_, _, _, _, rfl, rfl, sq_same sm2 ha, atI_nat hnc, ?_⟩
              walk_at "rd"
              refine ⟨by show 4 ≤ sizeLine; decide, fun u nu => ?_⟩
              generalize eH : upd _ _ _ = J3
              obtain ⟨m3, f3⟩ := new_of eH nu
              have k1'' := m3 _ _ k1'
              refine ⟨_, _, _, rfl, rfl, k1'', ?_, ?_⟩
              · rw [k2'.len, List.length_map, List.length_append]
                have := val_len (ns := ns) i (by omega)
                exact many_small (by simp at k6; omega)
              · refine ⟨c :: r, F ++ [((c : Int) + 1, (i : Int) - c - 1, nd ns s, min (nd ns c) z)], _, _, ws ++ [.ref u], rfl, rfl, same_upd (sm2.trans m3) nfo, upd_same, ?_, ?_, ?_, fun x hx => k5 x (List.mem_cons_of_mem _ hx), by simp at k6 ⊢; omega⟩
                · rw [← List.append_assoc, List.map_append]
                  refine AllT.snoc (AllT.upd k1'' (k2'.same m3)) ⟨u, rfl, sqt_upd (.inl (.inl ?_)) k1''⟩
                  rw [f3]
                  have e : (if z < nd ns c then z else nd ns c) = min (nd ns c) z := by split <;> omega
                  rw [e]
                  rfl
                · rw [upd_ne ne12.symm, revL]
                  exact m3 _ _ k3'
                · rw [← k4]
                  conv => rhs; unfold popV
                  rw [if_pos hlt]
          · refine aft _ _ ⟨s :: r, F, x5, x6, ws, rfl, sm, k1, k2, by rw [revL]; exact k3, ?_⟩
            rw [← k4]
            unfold popV
            rw [if_neg fun e => hlt (decide_eq_true e)]
    · obtain ⟨x3, x4, x5, x6, ws, rfl, sm, k1, k2, k3⟩ := h
      rw [List.length_map] at k2
      walk_at "rd"
      refine ⟨_, _, rfl, .inl (.inl k1), ?_, fun x hx => ?_, fun ys p hp hc np => ?_⟩
      · rw [k2.len, List.length_map]
        have := val_len (ns := ns) ns.length (Nat.le_refl _)
        omega
      · obtain ⟨s, h1, h2⟩ := k2.mem hx
        obtain ⟨v, hv, rfl⟩ := List.mem_map.mp h1
        exact ⟨_, h2, rfl, val_bd hN v hv⟩
      · obtain ⟨ts, h1, h2⟩ := AllT.perm hp k2
        obtain ⟨l, h3, rfl⟩ := perm_map_v4 h1
        refine q _ p ys l (sm.trans (same_new np)) (Same.free sm np) upd_same (h2.same (same_new np)) h3 (code_le h2 hc)
end
end K22
set_option Elab.async false
set_option linter.all false
set_option maxRecDepth 100000
set_option maxHeartbeats 1000000
namespace K22
open PySem PySem.Spec PyProof.Rows L2 WK
local macro_rules | `(tactic| walk_at "rd") => `(tactic| repeat (first | refine Exists.intro _ (And.intro rfl ?_) | refine Exists.intro _ (Exists.intro _ (And.intro rfl (And.intro rfl ?_))) | refine Exists.intro _ (Exists.intro _ (And.intro rfl ?_))))
abbrev sLv : Stmt := topS 8
theorem scLv : FnScope ["needs", "found", "begin", "low", "end", "high"] ["needs"] (defScope sLv) := ⟨rfl, rfl, rfl, by decide +kernel, rfl, by decide +kernel, by decide +kernel⟩
section
variable {P : Program} {w : World} {K : PySem.W.Frag} {mg : Str → Option Value} {base : Heap}
theorem ok_lawval {f : Addr} {fd : FuncData} (F : Fun K "_law_valleys" "_law_valleys" sLv f fd) (B : Blt mg) : FnOk P w K mg base CX0 1 f fd ["needs"] (spLawVal K) := by
  refine F.ok scLv (fun vs H Q E h => ?_) (fun cdv A outer s H vs Q E hr h => ?_)
  · obtain ⟨t, ns, rfl, _⟩ := h
    rfl
  · obtain ⟨a, ns, rfl, ha, hl, q⟩ := h
    refine ⟨_, (pss_cons (ps_set (i := 1) scLv.nd rfl (.inl rfl) (pe_lst pa_nil))
      (pss_cons (ps_for PassesOwn.never rfl (pi_range2 rfl B.range (pa_cons pe_int (pa_cons (pe_callB call_len_seq (by rfl) B.len PySem.boot_len (pa_cons (pv 0) pa_nil)) pa_nil))) (pg_name (i := 2) scLv.nd rfl (.inl rfl))
        (pss_cons (ps_set (i := 3) scLv.nd rfl (.inl rfl) pe_int)
        (pss_one (ps_for PassesOwn.never rfl (pi_range2 rfl B.range (pa_cons (pe_op op_add (pv 2) pe_int) (pa_cons (pe_callB call_len_seq (by rfl) B.len PySem.boot_len (pa_cons (pv 0) pa_nil)) pa_nil))) (pg_name (i := 4) scLv.nd rfl (.inl rfl))
          (pss_cons (ps_set (i := 3) scLv.nd rfl (.inl rfl) (pe_callB (call_max2 rfl) (by rfl) B.max boot_max (pa_cons (pv 3) (pa_cons (pe_ix (r := rIxT K) ix_tup (pv 0) (pe_op op_sub (pv 4) pe_int) (fun _ _ => rfl)) pa_nil))))
          (pss_cons (ps_set (i := 5) scLv.nd rfl (.inl rfl) (pe_callB (call_min2 rfl) (by rfl) B.min boot_min (pa_cons (pe_ix (r := rIxT K) ix_tup (pv 0) (pe_op op_sub (pv 2) pe_int) (fun _ _ => rfl)) (pa_cons (pe_ix (r := rIxT K) ix_tup (pv 0) (pv 4) (fun _ _ => rfl)) pa_nil))))
          (pss_one (ps_set (i := 1) scLv.nd rfl (.inl rfl) (pe_op op_cat (pv 1) (pe_op op_rep (pe_lst (pa_cons (pe_tup (pa_cons (pv 2) (pa_cons (pe_op op_sub (pv 4) (pv 2)) (pa_cons (pv 3) (pa_cons (pv 5) pa_nil))))) pa_nil)) (pe_callTy call_int1 (by rfl) B.int (by decide +kernel) (pa_cons (pe_cmpR op_lt (pv 3) (pv 5) (nomark _)) pa_nil))))))))))))
      (pss_one (ps_ret (pv 1))))), ?_⟩
    have lenV : (ns.map V.int).length = ns.length := List.length_map ..
    walk_at "rd"
    refine ⟨Nat.zero_le _, fun f0 nf0 => ?_⟩
    generalize eH : upd _ _ _ = H1
    obtain ⟨g1, e1⟩ := new_of eH nf0
    walk_at "rd"
    refine ⟨_, _, rfl, .inr (.inl (.inl (g1 _ _ ha))), ?_⟩
    walk_at "rd"
    refine ⟨by rw [lenV]; omega, for_range (lo := 1) (n := (((ns.map V.int).length : Int) - 1).toNat) (fun j σ G => ∃ (fa : Addr) (x2 x3 x4 x5 : Option V) (ws : List V), σ = [some (.ref a), some (.ref fa), x2, x3, x4, x5] ∧ Same H G ∧ H fa = none ∧ G fa = some (.lst ws) ∧ AllT K G ws ((lawV ns j).map v4L))
      ⟨f0, none, none, none, none, [], rfl, g1, nf0, e1, .nil⟩ (fun j σ G hj h => ?_) (fun σ G h => ?_)⟩
    · obtain ⟨fa, x2, x3, x4, x5, ws, rfl, sm, nf, k1, k2⟩ := h
      rw [lenV] at hj
      have ej : (1 : Int) + (j : Int) = ((j + 1 : Nat) : Int) := by omega
      walk_at "rd"
      refine ⟨_, _, rfl, .inr (.inl (.inl (sm _ _ ha))), ?_⟩
      walk_at "rd"
      refine ⟨by rw [lenV]; omega, for_range (lo := 1 + (j : Int) + 1) (n := (((ns.map V.int).length : Int) - (1 + j + 1)).toNat) (fun m σ G => ∃ (fa : Addr) (x4 x5 : Option V) (ws : List V), σ = [some (.ref a), some (.ref fa), some (.int (1 + (j : Int))), some (.int (lowF ns (j + 1) m)), x4, x5] ∧ Same H G ∧ H fa = none ∧ G fa = some (.lst ws) ∧ AllT K G ws ((lawV ns j ++ rowV ns (j + 1) m).map v4L))
        ⟨fa, x4, x5, ws, rfl, sm, nf, k1, by unfold rowV; rw [List.append_nil]; exact k2⟩ (fun m σ G hm h => ?_) (fun σ G h => ?_)⟩
      · obtain ⟨fa, x4, x5, ws, rfl, sm, nf, k1, k2⟩ := h
        rw [lenV] at hm
        have ix1 : (1 : Int) + (j : Int) + 1 + (m : Int) - 1 = ((j + 1 + m : Nat) : Int) := by omega
        have ix2 : (1 : Int) + (j : Int) - 1 = ((j : Nat) : Int) := by omega
        have ix3 : (1 : Int) + (j : Int) + 1 + (m : Int) = ((j + 1 + (m + 1) : Nat) : Int) := by omega
        have a1 : atI (ns.map V.int) ((1 : Int) + (j : Int) + 1 + (m : Int) - 1) = some (.int (nd ns (j + 1 + m))) := by
          rw [ix1]
          exact atI_nat (ndAt (by omega))
        have a2 : atI (ns.map V.int) ((1 : Int) + (j : Int) - 1) = some (.int (nd ns j)) := by
          rw [ix2]
          exact atI_nat (ndAt (by omega))
        have a3 : atI (ns.map V.int) ((1 : Int) + (j : Int) + 1 + (m : Int)) = some (.int (nd ns (j + 1 + (m + 1)))) := by
          rw [ix3]
          exact atI_nat (ndAt (by omega))
        have hlow : (if nd ns (j + 1 + m) > lowF ns (j + 1) m then nd ns (j + 1 + m) else lowF ns (j + 1) m) = lowF ns (j + 1) (m + 1) := by
          show _ = max _ _
          split <;> omega
        have hhigh : (if nd ns (j + 1 + (m + 1)) < nd ns j then nd ns (j + 1 + (m + 1)) else nd ns j) = highF ns (j + 1) (m + 1) := by
          unfold highF
          rw [show j + 1 - 1 = j by omega]
          split <;> omega
        have hat := sm _ _ ha
        walk_at "rd"
        refine ⟨_, _, _, _, rfl, rfl, .inl (.inl hat), a1, ?_⟩
        walk_at "rd"
        refine ⟨_, _, _, _, rfl, rfl, .inl (.inl hat), a2, ?_⟩
        walk_at "rd"
        refine ⟨_, _, _, _, rfl, rfl, .inl (.inl hat), a3, ?_⟩
        walk_at "rd"
        rw [hlow, hhigh]
        refine ⟨by show 4 ≤ sizeLine; decide, fun u nu => ?_⟩
        generalize eH : upd _ _ _ = J1
        obtain ⟨j1, f1⟩ := new_of eH nu
        walk_at "rd"
        refine ⟨by show 1 ≤ sizeLine; decide, fun l nl => ?_⟩
        generalize eH : upd _ _ _ = J2
        obtain ⟨j2, f2⟩ := new_of eH nl
        have f1 := j2 _ _ f1
        walk_at "rd"
        refine .inr ⟨_, rfl, ?_⟩
        have eu : (j + 1 + (m + 1) : Int) = ((j + 1 + (m + 1) : Nat) : Int) := by omega
        have tup : TupI K J2 (.ref u) (v4L (vOf ns (j + 1) (m + 1))) := by
          refine ⟨u, rfl, .inl (.inl ?_)⟩
          rw [f1]
          show some (HO.tup [V.int (1 + (j : Int)), V.int (1 + (j : Int) + 1 + (m : Int) - (1 + (j : Int))), _, _]) = some (HO.tup [V.int ((j + 1 : Nat) : Int), V.int ((m + 1 : Nat) : Int), _, _])
          rw [show (1 : Int) + (j : Int) = ((j + 1 : Nat) : Int) by omega, show ((j + 1 : Nat) : Int) + 1 + (m : Int) - ((j + 1 : Nat) : Int) = ((m + 1 : Nat) : Int) by omega]
          rfl
        have s12 := (sm.trans j1).trans j2
        have k1' := (j1.trans j2) _ _ k1
        have k2' := k2.same (j1.trans j2)
        have cap : ws.length ≤ 41000 := by
          rw [k2.len, List.length_map, List.length_append]
          have h1 := law_len (ns := ns) j
          have h2 := row_len (ns := ns) (b := j + 1) m
          have h3 : j * ns.length ≤ 200 * 200 := Nat.mul_le_mul (by omega) hl
          omega
        by_cases hlt : lowF ns (j + 1) (m + 1) < highF ns (j + 1) (m + 1)
        · have eb : (if decide (lowF ns (j + 1) (m + 1) < highF ns (j + 1) (m + 1)) = true then (1 : Int) else 0) = 1 := by rw [if_pos (decide_eq_true hlt)]
          rw [eb]
          refine ⟨l, 1, _, rfl, rfl, f2, by decide, by decide, by show 1 * 1 ≤ sizeLine; decide, fun p1 np1 => ?_⟩
          generalize eH : upd _ _ _ = J3
          obtain ⟨j3, f3⟩ := new_of eH np1
          refine ⟨_, _, _, _, rfl, rfl, j3 _ _ k1', f3, ?_, fun p2 np2 => ?_⟩
          · show ws.length + 1 ≤ sizeLine
            exact Nat.le_of_lt (many_small (by omega))
          generalize eH : upd _ _ _ = J4
          obtain ⟨j4, f4⟩ := new_of eH np2
          walk_at "rd"
          refine ⟨p2, _, _, ws ++ [.ref u], rfl, (s12.trans j3).trans j4, Same.free (s12.trans j3) np2, f4, ?_⟩
          rw [show rowV ns (j + 1) (m + 1) = rowV ns (j + 1) m ++ [vOf ns (j + 1) (m + 1)] by show _ ++ _ = _; rw [if_pos hlt], ← List.append_assoc, List.map_append]
          exact AllT.snoc (k2'.same (j3.trans j4)) (TupI.same (j3.trans j4) tup)
        · have eb : (if decide (lowF ns (j + 1) (m + 1) < highF ns (j + 1) (m + 1)) = true then (1 : Int) else 0) = 0 := by rw [if_neg fun e => hlt (of_decide_eq_true e)]
          rw [eb]
          refine ⟨l, 0, _, rfl, rfl, f2, by decide, by decide, by show 1 * 0 ≤ sizeLine; decide, fun p1 np1 => ?_⟩
          generalize eH : upd _ _ _ = J3
          obtain ⟨j3, f3⟩ := new_of eH np1
          refine ⟨_, _, _, _, rfl, rfl, j3 _ _ k1', f3, ?_, fun p2 np2 => ?_⟩
          · show ws.length + 0 ≤ sizeLine
            exact Nat.le_of_lt (many_small (by omega))
          generalize eH : upd _ _ _ = J4
          obtain ⟨j4, f4⟩ := new_of eH np2
          walk_at "rd"
          refine ⟨p2, _, _, ws ++ [], rfl, (s12.trans j3).trans j4, Same.free (s12.trans j3) np2, f4, ?_⟩
          rw [show rowV ns (j + 1) (m + 1) = rowV ns (j + 1) m by show _ ++ _ = _; rw [if_neg hlt, List.append_nil], List.append_nil]
          exact k2'.same (j3.trans j4)
      · obtain ⟨fa, x4, x5, ws, rfl, sm, nf, k1, k2⟩ := h
        refine ⟨fa, _, _, _, _, ws, rfl, sm, nf, k1, ?_⟩
        rw [lenV, show ((ns.length : Int) - (1 + j + 1)).toNat = ns.length - 1 - (j + 1) by omega] at k2
        exact k2
    · obtain ⟨fa, x2, x3, x4, x5, ws, rfl, sm, nf, k1, k2⟩ := h
      rw [lenV, show ((ns.length : Int) - 1).toNat = ns.length - 1 by omega] at k2
      walk_at "rd"
      exact q G fa ws sm nf k1 k2
end
end K22
set_option Elab.async false
set_option linter.all false
set_option maxRecDepth 100000
set_option maxHeartbeats 4000000
namespace K22
open PySem PySem.Spec PyProof.Rows L2 WK
local macro_rules | `(tactic| walk_at "rd") => `(tactic| repeat (first | refine Exists.intro _ (And.intro rfl ?_) | refine Exists.intro _ (Exists.intro _ (And.intro rfl (And.intro rfl ?_))) | refine Exists.intro _ (Exists.intro _ (And.intro rfl ?_))))
abbrev sLaw : Stmt := topS 9
theorem scLaw : FnScope ["script", "source", "lap", "most", "needs", "due", "kept", "told", "k", "some", "many", "great", "begin", "length", "low", "high", "need"] ["script"] (defScope sLaw) := ⟨rfl, rfl, rfl, by decide +kernel, rfl, by decide +kernel, by decide +kernel⟩
structure Txt (K : PySem.W.Frag) (mg : Str → Option Value) (fS fP fO fD fVa fLv fLG : Addr) (dS dP dO dD dVa dLv dLG : FuncData) : Prop where
  toDrw : Drw K mg fP fO dP dO
  FS : Fun K "_law_source" "_law_source" sSource fS dS
  bS : Binds K dS ["script"] []
  gS : mg "_law_source" = some (.ref fS)
  FDraw : Fun K "_law_draw_needs" "_law_draw_needs" sDraw fD dD
  bDraw : Binds K dD ["source", "ticks", "most"] []
  gDraw : mg "_law_draw_needs" = some (.ref fD)
  FVa : Fun K "valleys" "valleys" sVa fVa dVa
  bVa : Binds K dVa ["needs"] []
  gVa : mg "valleys" = some (.ref fVa)
  FLv : Fun K "_law_valleys" "_law_valleys" sLv fLv dLv
  bLv : Binds K dLv ["needs"] []
  gLv : mg "_law_valleys" = some (.ref fLv)
  FLg : Fun K "_law_gaps" "_law_gaps" sLGaps fLG dLG
  bLg : Binds K dLG ["needs", "k"] []
  gLg : mg "_law_gaps" = some (.ref fLG)
def spLaw (K : PySem.W.Frag) : Sp := fun vs H Q _ => ∃ (a : Addr) (ns : List Int), vs = [.ref a] ∧ SqL K H a (ns.map V.int) ∧ ns.length ≤ 63 ∧ ∀ H', Q (.bl true) H'
section
variable {P : Program} {w : World} {K : PySem.W.Frag} {mg : Str → Option Value} {base : Heap} {fS fP fO fD fVa fLv fLG : Addr} {dS dP dO dD dVa dLv dLG : FuncData}
theorem ok_law {f : Addr} {fd : FuncData} (F : Fun K "law" "law" sLaw f fd) (D : Txt K mg fS fP fO fD fVa fLv fLG dS dP dO dD dVa dLv dLG) (B : Blt mg) : FnG P w K mg base 4 f fd ["script"] (spLaw K) := by
  have GS : FnOk P w K mg base CX0 1 fS dS ["script"] (spSource K) := ok_source D.FS B
  have GP : FnOk P w K mg base CX0 1 fP dP ["source", "many"] spPick := ok_pick D.toDrw.FP B
  have GO : FnOk P w K mg base CX0 2 fO dO ["source", "some"] (spOf K) := ok_of D.toDrw.FO D.toDrw B
  have GDraw : FnOk P w K mg base CX0 3 fD dD ["source", "ticks", "most"] spDraw := ok_draw D.FDraw D.toDrw B
  have GVa : FnOk P w K mg base CX0 1 fVa dVa ["needs"] (spValleys K) := ok_valleys D.FVa B
  have GLv : FnOk P w K mg base CX0 1 fLv dLv ["needs"] (spLawVal K) := ok_lawval D.FLv B
  have GLg : FnOk P w K mg base CX0 1 fLG dLG ["needs", "k"] (spGaps K) := ok_lgaps D.FLg B
  refine okG F scLaw (fun cdv A outer s H vs Q hr hg h => ?_)
  obtain ⟨a, ns, rfl, hS, hlen, q⟩ := h
  have hu64 := hr.units
  have hrDraw := hr
  have hrO := hr.mono (show 2 ≤ 3 by decide)
  have hrP := hr.mono (show 1 ≤ 3 by decide)
  have hrS := hrP
  have hrVa := hrP
  have hrLv := hrP
  have hrLg := hrP
  refine ⟨_, (pss_cons (ps_set (i := 1) scLaw.nd rfl (.inl rfl) (pe_call GS hrS (by rfl) D.gS D.FS.kp D.bS .nil pass0 (pa_cons (pv 0) pa_nil)))
      (pss_cons (ps_for PassesOwn.never rfl (pi_range1 rfl B.range (pa_cons pe_int pa_nil)) (pg_name (i := 2) scLaw.nd rfl (.inl rfl))
        (pss_cons (ps_set (i := 3) scLaw.nd rfl (.inl rfl) (pe_ix (r := rIxL K) ix_list (pe_lst (pa_cons pe_int (pa_cons pe_int (pa_cons pe_int (pa_cons pe_int (pa_cons pe_int (pa_cons pe_int (pa_cons pe_int pa_nil)))))))) (pv 2) (fun _ _ => rfl)))
        (pss_cons (ps_set (i := 4) scLaw.nd rfl (.inl rfl) (pe_call GDraw hrDraw (by rfl) D.gDraw D.FDraw.kp D.bDraw .nil pass0 (pa_cons (pv 1) (pa_cons (pe_op op_add pe_int (pe_call GP hrP (by rfl) D.toDrw.gP D.toDrw.FP.kp D.toDrw.bP .nil pass0 (pa_cons (pv 1) (pa_cons (pe_ix (r := rIxL K) ix_list (pe_lst (pa_cons pe_int (pa_cons pe_int (pa_cons pe_int (pa_cons pe_int (pa_cons pe_int (pa_cons pe_int (pa_cons pe_int pa_nil)))))))) (pv 2) (fun _ _ => rfl)) pa_nil)))) (pa_cons (pv 3) pa_nil)))))
        (pss_cons (ps_par3 (i := 5) (j := 6) (l := 7) rfl scLaw.nd rfl rfl rfl (by decide) (by decide) (by decide) rfl rfl rfl (pa_cons (pe_call GLv hrLv (by rfl) D.gLv D.FLv.kp D.bLv .nil pass0 (pa_cons (pv 4) pa_nil)) (pa_cons (pe_callB (call_reprD hg hu64) (by rfl) B.repr (by decide +kernel) (pa_cons (pv 4) pa_nil)) (pa_cons (pe_call GVa hrVa (by rfl) D.gVa D.FVa.kp D.bVa .nil pass0 (pa_cons (pv 4) pa_nil)) pa_nil))) (by rfl))
        (pss_cons (ps_if (PW.pt (pw_or (pt_cmpR op_ne (pe_callB (call_reprD hg hu64) (by rfl) B.repr (by decide +kernel) (pa_cons (pv 7) pa_nil)) (pe_callB (call_reprD hg hu64) (by rfl) B.repr (by decide +kernel) (pa_cons (pv 5) pa_nil)) (nomark _)) (pw_or (pt_cmpR op_ne (pe_callB (call_reprD hg hu64) (by rfl) B.repr (by decide +kernel) (pa_cons (pv 4) pa_nil)) (pv 6) (nomark _)) (pw_or1 (pt_cmpR op_ge (pe_callB call_len_seq (by rfl) B.len PySem.boot_len (pa_cons (pv 7) pa_nil)) (pe_callB call_len_seq (by rfl) B.len PySem.boot_len (pa_cons (pv 4) pa_nil)) (nomark _))))))
          (pss_one (ps_ret pe_bl))
          pss_nil)
        (pss_cons (ps_expr (pe_bm PySem.F.plainAttrs_list PySem.F.slot_list_append PySem.F.type_list_append mt_append (pv 7) (pa_cons pe_non pa_nil)))
        (pss_cons (ps_if (pt_cmpR op_ne (pe_callB (call_reprD hg hu64) (by rfl) B.repr (by decide +kernel) (pa_cons (pe_call GVa hrVa (by rfl) D.gVa D.FVa.kp D.bVa .nil pass0 (pa_cons (pv 4) pa_nil)) pa_nil)) (pe_callB (call_reprD hg hu64) (by rfl) B.repr (by decide +kernel) (pa_cons (pv 5) pa_nil)) (nomark _))
          (pss_one (ps_ret pe_bl))
          pss_nil)
        (pss_cons (ps_for PassesOwn.never rfl (pi_range2 rfl B.range (pa_cons pe_int (pa_cons (pe_op op_add (pv 3) pe_int) pa_nil))) (pg_name (i := 8) scLaw.nd rfl (.inr rfl))
          (pss_cons (ps_set (i := 9) scLaw.nd rfl (.inl rfl) (pe_callB (r := rSortU K 2 BV) (cr_sortT (by decide)) (by rfl) B.sorted (by decide +kernel) (pa_cons (pe_lc (own := [("begin", 12), ("length", 13), ("low", 14), ("high", 15)]) (g := gTup K 4 (gCons (gName 12) (gCons (gName 13) (gCons (gName 14) (gCons (gName 15) gNil))))) rfl scLaw.nd (pi_list (pv 5)) (blkOk_by (own := [("begin", 12), ("length", 13), ("low", 14), ("high", 15)]) (N := ["script", "source", "lap", "most", "needs", "due", "kept", "told", "k", "some", "many", "great", "begin", "length", "low", "high", "need"]) (sc := defScope sLaw) (by decide +kernel)) (fun _ _ _ _ _ => (pg_tup rfl (pgs_cons (pg_name (i := 12) scLaw.nd rfl (.inl rfl)) (pgs_cons (pg_name (i := 13) scLaw.nd rfl (.inl rfl)) (pgs_cons (pg_name (i := 14) scLaw.nd rfl (.inl rfl)) (pgs_cons (pg_name (i := 15) scLaw.nd rfl (.inl rfl)) pgs_nil)))))) (fun _ _ _ _ _ => pts_one (pt_chain op_lt op_le (pv 14) (pv 8) (pv 15))) (fun _ _ _ _ _ => (pe_tup (pa_cons (pv 12) (pa_cons (pv 13) pa_nil))))) pa_nil)))
          (pss_one (ps_if (pt_cmpR (op_neD hu64) (pv 9) (pe_call GLg hrLg (by rfl) D.gLg D.FLg.kp D.bLg .nil pass0 (pa_cons (pv 4) (pa_cons (pv 8) pa_nil))) (nomark _))
            (pss_one (ps_ret pe_bl))
            pss_nil))))
        (pss_cons (ps_set (i := 10) scLaw.nd rfl (.inr rfl) (pe_call GO hrO (by rfl) D.toDrw.gO D.toDrw.FO.kp D.toDrw.bO .nil pass0 (pa_cons (pv 1) (pa_cons (pe_lst (pa_cons pe_int (pa_cons pe_int (pa_cons (pe_op op_pow pe_int pe_int) (pa_cons (pe_op op_pow pe_int pe_int) pa_nil))))) pa_nil))))
        (pss_cons (ps_setLc (i := 11) (own := [("begin", 12), ("length", 13), ("low", 14), ("high", 15)]) (g := gTup K 4 (gCons (gName 12) (gCons (gName 13) (gCons (gName 14) (gCons (gName 15) gNil))))) rfl scLaw.nd rfl rfl (sw_true rfl rfl rfl (by decide +kernel)) (pi_list (pv 5)) (blkOk_by (own := [("begin", 12), ("length", 13), ("low", 14), ("high", 15)]) (N := ["script", "source", "lap", "most", "needs", "due", "kept", "told", "k", "some", "many", "great", "begin", "length", "low", "high", "need"]) (sc := defScope sLaw) (by decide +kernel)) (fun _ _ _ _ _ => (pg_tup rfl (pgs_cons (pg_name (i := 12) scLaw.nd rfl (.inl rfl)) (pgs_cons (pg_name (i := 13) scLaw.nd rfl (.inl rfl)) (pgs_cons (pg_name (i := 14) scLaw.nd rfl (.inl rfl)) (pgs_cons (pg_name (i := 15) scLaw.nd rfl (.inl rfl)) pgs_nil)))))) (fun _ _ _ _ _ => pts_nil) (fun _ _ _ _ _ => (pe_tup (pa_cons (pv 12) (pa_cons (pv 13) (pa_cons (pe_op op_mul (pv 10) (pv 14)) (pa_cons (pe_op op_mul (pv 10) (pv 15)) pa_nil)))))))
        (pss_one (ps_if (pt_cmpR op_ne (pe_callB (call_reprD hg hu64) (by rfl) B.repr (by decide +kernel) (pa_cons (pe_call GVa hrVa (by rfl) D.gVa D.FVa.kp D.bVa .nil pass0 (pa_cons (pe_callTy call_tuple_of (by rfl) B.tuple (by decide +kernel) (pa_cons (pe_lc (own := [("need", 16)]) (g := gName 16) rfl scLaw.nd (pi_tup (pv 4)) (blkOk_by (own := [("need", 16)]) (N := ["script", "source", "lap", "most", "needs", "due", "kept", "told", "k", "some", "many", "great", "begin", "length", "low", "high", "need"]) (sc := defScope sLaw) (by decide +kernel)) (fun _ _ _ _ _ => (pg_name (i := 16) scLaw.nd rfl (.inl rfl))) (fun _ _ _ _ _ => pts_nil) (fun _ _ _ _ _ => (pe_op op_mul (pv 10) (pv 16)))) pa_nil)) pa_nil)) pa_nil)) (pe_callB (call_reprD hg hu64) (by rfl) B.repr (by decide +kernel) (pa_cons (pv 11) pa_nil)) (nomark _))
          (pss_one (ps_ret pe_bl))
          pss_nil))))))))))))
      (pss_cons (ps_if (PW.pt (pw_or (pt_cmpR (op_neD hu64) (pe_call GVa hrVa (by rfl) D.gVa D.FVa.kp D.bVa .nil pass0 (pa_cons (pe_tup (pa_cons pe_int (pa_cons pe_int (pa_cons pe_int (pa_cons pe_int (pa_cons pe_int (pa_cons pe_int pa_nil))))))) pa_nil)) (pe_lst (pa_cons (pe_tup (pa_cons pe_int (pa_cons pe_int (pa_cons pe_int (pa_cons pe_int pa_nil))))) (pa_cons (pe_tup (pa_cons pe_int (pa_cons pe_int (pa_cons pe_int (pa_cons pe_int pa_nil))))) pa_nil))) (nomark _)) (pw_or1 (pt_cmpR (op_neD hu64) (pe_op op_cat (pe_call GVa hrVa (by rfl) D.gVa D.FVa.kp D.bVa .nil pass0 (pa_cons (pe_tup (pa_cons pe_int pa_nil)) pa_nil)) (pe_call GVa hrVa (by rfl) D.gVa D.FVa.kp D.bVa .nil pass0 (pa_cons (pe_tup pa_nil) pa_nil))) (pe_lst pa_nil) (nomark _)))))
        (pss_one (ps_ret pe_bl))
        pss_nil)
      (pss_cons (ps_set (i := 7) scLaw.nd rfl (.inl rfl) (pe_lst (pa_cons (pe_call GVa hrVa (by rfl) D.gVa D.FVa.kp D.bVa .nil pass0 (pa_cons (pe_tup (pa_cons pe_int (pa_cons pe_int (pa_cons pe_int (pa_cons pe_int (pa_cons pe_int pa_nil)))))) pa_nil)) (pa_cons (pe_call GVa hrVa (by rfl) D.gVa D.FVa.kp D.bVa .nil pass0 (pa_cons (pe_tup (pa_cons pe_int (pa_cons pe_int (pa_cons pe_int (pa_cons pe_int (pa_cons pe_int pa_nil)))))) pa_nil)) (pa_cons (pe_call GVa hrVa (by rfl) D.gVa D.FVa.kp D.bVa .nil pass0 (pa_cons (pe_tup (pa_cons pe_int (pa_cons pe_int (pa_cons pe_int (pa_cons pe_int pa_nil))))) pa_nil)) (pa_cons (pe_call GVa hrVa (by rfl) D.gVa D.FVa.kp D.bVa .nil pass0 (pa_cons (pe_tup (pa_cons pe_int (pa_cons pe_int (pa_cons pe_int pa_nil)))) pa_nil)) pa_nil))))))
      (pss_one (ps_ret (pe_cmpR (op_eqD hu64) (pv 7) (pe_lst (pa_cons (pe_lst (pa_cons (pe_tup (pa_cons pe_int (pa_cons pe_int (pa_cons pe_int (pa_cons pe_int pa_nil))))) (pa_cons (pe_tup (pa_cons pe_int (pa_cons pe_int (pa_cons pe_int (pa_cons pe_int pa_nil))))) (pa_cons (pe_tup (pa_cons pe_int (pa_cons pe_int (pa_cons pe_int (pa_cons pe_int pa_nil))))) pa_nil)))) (pa_cons (pe_lst (pa_cons (pe_tup (pa_cons pe_int (pa_cons pe_int (pa_cons pe_int (pa_cons pe_int pa_nil))))) (pa_cons (pe_tup (pa_cons pe_int (pa_cons pe_int (pa_cons pe_int (pa_cons pe_int pa_nil))))) pa_nil))) (pa_cons (pe_lst pa_nil) (pa_cons (pe_lst pa_nil) pa_nil))))) (nomark _)))))))), ?_⟩
  walk_at "rd"
  refine ⟨_, _, rfl, hS, hlen, fun H1 p c S1 s1 np nc => ?_⟩
  walk_at "rd"
  refine ⟨by decide, by decide, for_range (lo := 0) (n := 7) (fun i σ G => ∃ x2 x3 x4 x5 x6 x7 x8 x9 x10 x11 x12 x13 x14 x15 x16, σ = [some (.ref a), some (.ref p), x2, x3, x4, x5, x6, x7, x8, x9, x10, x11, x12, x13, x14, x15, x16] ∧ Src G p c) ⟨none, none, none, none, none, none, none, none, none, none, none, none, none, none, none, rfl, S1⟩ (fun i σ G hi h => ?_) (fun σ G h => ?_)⟩
  · obtain ⟨x2, x3, x4, x5, x6, x7, x8, x9, x10, x11, x12, x13, x14, x15, x16, rfl, S⟩ := h
    walk_at "rd"
    refine ⟨by show 7 ≤ sizeLine; decide, fun l1 nl1 => ?_⟩
    generalize eH : upd _ _ _ = G1
    obtain ⟨g1, e1⟩ := new_of eH nl1
    have S := S.same g1
    walk_at "rd"
    obtain ⟨most, hat, m1, m2⟩ : ∃ z, atI [V.int 1, V.int 2, V.int 3, V.int 5, V.int 9, V.int 3, V.int 6] (0 + (i : Int)) = some (.int z) ∧ 1 ≤ z ∧ z ≤ 9 := by
      match i, hi with
      | 0, _ => exact ⟨1, rfl, by omega, by omega⟩
      | 1, _ => exact ⟨2, rfl, by omega, by omega⟩
      | 2, _ => exact ⟨3, rfl, by omega, by omega⟩
      | 3, _ => exact ⟨5, rfl, by omega, by omega⟩
      | 4, _ => exact ⟨9, rfl, by omega, by omega⟩
      | 5, _ => exact ⟨3, rfl, by omega, by omega⟩
      | 6, _ => exact ⟨6, rfl, by omega, by omega⟩
    refine ⟨_, _, _, _, rfl, rfl, .inl (.inl e1), hat, ?_⟩
    clear hat e1
    walk_at "rd"
    -- needs
    refine ⟨by show 7 ≤ sizeLine; decide, fun l6 nl6 => ?_⟩
    generalize eH : upd _ _ _ = G6
    obtain ⟨g6, e6⟩ := new_of eH nl6
    have S := S.same g6
    walk_at "rd"
    obtain ⟨mt, hat, t1, t2⟩ : ∃ z, atI [V.int 8, V.int 14, V.int 20, V.int 25, V.int 30, V.int 40, V.int 40] (0 + (i : Int)) = some (.int z) ∧ 1 ≤ z ∧ z ≤ 40 := by
      match i, hi with
      | 0, _ => exact ⟨8, rfl, by omega, by omega⟩
      | 1, _ => exact ⟨14, rfl, by omega, by omega⟩
      | 2, _ => exact ⟨20, rfl, by omega, by omega⟩
      | 3, _ => exact ⟨25, rfl, by omega, by omega⟩
      | 4, _ => exact ⟨30, rfl, by omega, by omega⟩
      | 5, _ => exact ⟨40, rfl, by omega, by omega⟩
      | 6, _ => exact ⟨40, rfl, by omega, by omega⟩
    refine ⟨_, _, _, _, rfl, rfl, .inl (.inl e6), hat, ?_⟩
    clear hat e6
    refine ⟨p, c, mt, rfl, S, by omega, fun G7 r7 S o7 r70 r71 => ?_⟩
    obtain ⟨rn, rfl⟩ := Int.eq_ofNat_of_zero_le r70
    walk_at "rd"
    refine ⟨p, c, 1 + rn, most, by rw [Int.natCast_add]; rfl, S, by omega, by omega, by omega, fun G8 t ms S o8 e8 nt8 hml hmb => ?_⟩
    have hN : Nds ms := ⟨by omega, fun z hz => by have := hmb z hz; omega⟩
    have hl63 := hN.len
    have hvl : (allV ms).length + 1 ≤ ms.length := by
      rcases all_len hN with h | h
      · exact h
      · exact absurd hml (by rw [h, List.length_nil]; omega)
    have hsm := all_small hN
    clear hi r71
    -- due, kept, told
    walk_at "rd"
    refine ⟨t, ms, rfl, e8, by omega, fun J1 du du_ws j1 ndu f1 aT1 => ?_⟩
    have hdp := S.ne_p ndu
    have hdc := S.ne_c ndu
    have S := S.same j1
    have e8 := j1 _ _ e8
    have mb : ∀ z ∈ ms, z.natAbs < 10 ^ 150 := by
      intro z hz
      have := hN.pos z hz
      have e : (1000000000 : Nat) < 10 ^ 150 := by decide +kernel
      omega
    walk_at "rd"
    refine ⟨_, _, rfl, row_dp e8, shows_row mb (by omega), ?_⟩
    walk_at "rd"
    refine ⟨t, ms, rfl, .inl (.inl e8), hN, fun J2 tl tl_ws lq j2 ntl f2 aT2 pm cd => ?_⟩
    have hlq := all_is hN pm cd
    subst hlq
    clear pm cd
    have hDt : du ≠ tl := ne_of_none f1 ntl
    have htt : t ≠ tl := ne_of_none e8 ntl
    have htp := S.ne_p ntl
    have htc := S.ne_c ntl
    have S := S.same j2
    have e8 := j2 _ _ e8
    have f1 := j2 _ _ f1
    have aT1 := aT1.same j2
    refine ⟨_, _, _, rfl, ?_⟩
    refine st_eq (σ' := [some (.ref a), some (.ref p), _, some (.int most), some (.ref t), some (.ref du), some (.str _), some (.ref tl), _, _, _, _, _, _, _, _, _]) rfl ?_
    have sh := shows_v4 hsm (by omega)
    walk_at "rd"
    refine ⟨_, _, rfl, .lst (.inl (.inl f2)) (allT_dp aT2), sh, ?_⟩
    walk_at "rd"
    refine ⟨_, _, rfl, .lst (.inl (.inl f1)) (allT_dp aT1), sh, ?_⟩
    refine ⟨rfl, ?_⟩
    walk_at "rd"
    rw [show ∀ z : Str, (!decide (V.str z = V.str z)) = false by intro z; simp]
    refine iteF ?_
    walk_at "rd"
    refine ⟨_, _, rfl, row_dp e8, shows_row mb (by omega), ?_⟩
    walk_at "rd"
    refine ⟨rfl, ?_⟩
    walk_at "rd"
    rw [show ∀ z : Str, (!decide (V.str z = V.str z)) = false by intro z; simp]
    refine iteF ?_
    walk_at "rd"
    refine ⟨_, _, rfl, .inl (.inl (.inl f2)), ?_⟩
    walk_at "rd"
    refine ⟨_, _, rfl, .inr (.inl (.inl e8)), ?_⟩
    walk_at "rd"
    refine ite2 (fun hk => absurd (of_decide_eq_true hk) ?_) (fun _ => ?_)
    · rw [aT2.len, List.length_map, List.length_map]
      omega
    -- told.append(None)
    walk_at "rd"
    refine ⟨.inl ⟨rfl, _, .inl (.inl f2)⟩, ?_⟩
    walk_at "rd"
    refine ⟨_, _, _, rfl, rfl, f2, ?_, ?_⟩
    · rw [aT2.len, List.length_map]
      exact many_small (by omega)
    have aT1 := AllT.upd (o := .lst (tl_ws ++ [V.non])) f2 aT1
    generalize eH : upd _ _ _ = J3
    rw [eH] at aT1
    have S : Src J3 p c := by rw [← eH]; exact S.upd_new htp htc
    have e8 : J3 t = some (.tup (ms.map V.int)) := by rw [← eH, upd_ne htt]; exact e8
    have f1 : J3 du = some (.lst du_ws) := by rw [← eH, upd_ne hDt]; exact f1
    clear eH f2 aT2
    walk_at "rd"
    refine ⟨t, ms, rfl, .inl (.inl e8), hN, fun J4 t2 t2_ws lq j4 nt2 f4 aT4 pm cd => ?_⟩
    have hlq := all_is hN pm cd
    subst hlq
    clear pm cd
    have S := S.same j4
    have e8 := j4 _ _ e8
    have f1 := j4 _ _ f1
    have aT1 := aT1.same j4
    walk_at "rd"
    refine ⟨_, _, rfl, .lst (.inl (.inl f4)) (allT_dp aT4), sh, ?_⟩
    walk_at "rd"
    refine ⟨_, _, rfl, .lst (.inl (.inl f1)) (allT_dp aT1), sh, ?_⟩
    refine ⟨rfl, ?_⟩
    walk_at "rd"
    rw [show ∀ z : Str, (!decide (V.str z = V.str z)) = false by intro z; simp]
    refine iteF ?_
    clear f4 aT4
    -- the layers
    walk_at "rd"
    refine ⟨by omega, for_range (lo := 1) (n := (most + 1 - 1).toNat) (fun j σ G => ∃ x8 x9 x12 x13 x14 x15, σ = [some (.ref a), some (.ref p), some (.int (0 + (i : Int))), some (.int most), some (.ref t), some (.ref du), some (.str (PyData.shown (.tuple (intsD ms)))), some (.ref tl), x8, x9, x10, x11, x12, x13, x14, x15, x16] ∧ Same J4 G) ⟨_, _, _, _, _, _, rfl, Same.refl _⟩ (fun j σ G hj h => ?_) (fun σ G h => ?_)⟩
    · obtain ⟨x8, x9, x12, x13, x14, x15, rfl, sm⟩ := h
      have e8 := sm _ _ e8
      have f1 := sm _ _ f1
      have aT1 := aT1.same sm
      obtain ⟨k, ek⟩ : ∃ z : Int, z = 1 + (j : Int) := ⟨_, rfl⟩
      have hk1 : 1 ≤ k := by omega
      rw [← ek]
      walk_at "rd"
      refine ⟨⟨_, .inl (.inl f1)⟩, fun D1 nD1 => lc_list (xs := du_ws) (fun r J => Same G J ∧ ∃ ws, J D1 = some (.lst ws) ∧ AllT K J ws ((((allV ms).take r).filter (hasK k)).map p2L)) ⟨same_new nD1, [], upd_same, .nil⟩ (fun r J _ h => .inl (.inl (h.1 _ _ f1))) (fun r x J hx h => ?_) (fun J h => ?_)⟩
      · obtain ⟨sj, ws, k1, k2⟩ := h
        obtain ⟨vl, hvl, u, rfl, hu⟩ := aT1.get hx
        rw [List.getElem?_map] at hvl
        obtain ⟨v, hv, rfl⟩ := Option.map_eq_some_iff.mp hvl
        have et : (allV ms).take (r + 1) = (allV ms).take r ++ [v] := by rw [List.take_add_one, hv]; rfl
        have hf : (((allV ms).take (r + 1)).filter (hasK k)).map p2L = (((allV ms).take r).filter (hasK k)).map p2L ++ (if hasK k v = true then [p2L v] else []) := by
          rw [et, List.filter_append, List.map_append]
          congr 1
          by_cases q : hasK k v = true
          · rw [if_pos q, List.filter_cons, if_pos q]; rfl
          · rw [if_neg q, List.filter_cons, if_neg q]; rfl
        have cap : ws.length ≤ 63 := by
          rw [k2.len, List.length_map]
          have h1 := List.length_filter_le (hasK k) ((allV ms).take r)
          rw [List.length_take] at h1
          omega
        refine ⟨u, _, rfl, sq_same sj hu, rfl, _, _, rfl, _, _, rfl, _, _, rfl, _, _, rfl, rfl, rfl, ?_⟩
        walk_at "rd"
        have no : hasK k v = false → Same G J ∧ ∃ ws, J D1 = some (.lst ws) ∧ AllT K J ws ((((allV ms).take (r + 1)).filter (hasK k)).map p2L) := by
          intro q
          refine ⟨sj, ws, k1, ?_⟩
          rw [hf, q, if_neg (by decide), List.append_nil]
          exact k2
        refine ite2 (fun h1 => ?_) (fun h1 => ?_)
        · walk_at "rd"
          refine ite2 (fun h2 => ?_) (fun h2 => ?_)
          · have q : hasK k v = true := decide_eq_true ⟨of_decide_eq_true h1, of_decide_eq_true h2⟩
            walk_at "rd"
            refine ⟨by show 2 ≤ sizeLine; decide, fun w2 nw2 => ?_⟩
            generalize eH : upd _ _ _ = J2
            obtain ⟨j2, f2⟩ := new_of eH nw2
            have k1' := j2 _ _ k1
            refine ⟨_, k1', many_small (by omega), same_upd (sj.trans j2) nD1, _, upd_same, ?_⟩
            rw [hf, q, if_pos rfl]
            exact AllT.snoc (AllT.upd k1' (k2.same j2)) ⟨w2, rfl, sqt_upd (.inl (.inl f2)) k1'⟩
          · refine no (decide_eq_false fun q => h2 (decide_eq_true q.2))
        · walk_at "rd"
          exact no (decide_eq_false fun q => h1 (decide_eq_true q.1))
      · obtain ⟨sj, ws, k1, k2⟩ := h
        rw [List.take_of_length_le (by rw [aT1.len, List.length_map]; exact Nat.le_refl _)] at k2
        have e8 := sj _ _ e8
        have hflen : ((allV ms).filter (hasK k)).length < 63 := by
          have := List.length_filter_le (hasK k) (allV ms)
          omega
        walk_at "rd"
        refine ⟨_, _, rfl, .inl (.inl k1), ?_, fun x hx => ?_, fun ys sp hp hc np => ?_⟩
        · rw [k2.len, List.length_map]
          omega
        · obtain ⟨n, h1, h2⟩ := k2.mem hx
          obtain ⟨v, hv, rfl⟩ := List.mem_map.mp h1
          exact ⟨_, h2, rfl, p2_bd hN v (List.mem_filter.mp hv).1⟩
        obtain ⟨ts, h1, h2⟩ := AllT.perm hp k2
        have h3 : ts = ((allV ms).filter (hasK k)).map p2L := strict_eq (TS.code BV) h1 (code_leL h2 hc) ((p2_code hN).sublist ((List.filter_sublist).map p2L))
        subst h3
        generalize eH : upd _ _ _ = J5
        obtain ⟨j5, f5⟩ := new_of eH np
        have e8 := j5 _ _ e8
        have dS := allT_dpG (h2.same j5)
        walk_at "rd"
        refine ⟨t, k, ms, rfl, e8, by omega, fun J6 g g_ws j6 ng f6 dG => ?_⟩
        rw [← pairs_tups hk1 (by omega)] at dG
        refine ⟨_, _, dp_same j6 _ _ (.lst (.inl (.inl f5)) dS), .lst (.inl (.inl f6)) dG, shaped_tups, shaped_tups, ?_⟩
        rw [eqv_tups]
        walk_at "rd"
        refine iteF ?_
        exact ⟨_, _, _, _, _, _, rfl, ((sm.trans sj).trans j5).trans j6⟩
    · obtain ⟨x8, x9, x12, x13, x14, x15, rfl, sm⟩ := h
      have e8 := sm _ _ e8
      have f1 := sm _ _ f1
      have aT1 := aT1.same sm
      have S := S.same sm
      -- many
      walk_at "rd"
      refine ⟨⟨by decide, by decide, by decide⟩, ?_⟩
      walk_at "rd"
      refine ⟨⟨by decide, by decide, by decide⟩, ?_⟩
      refine ⟨by show 4 ≤ sizeLine; decide, fun l9 nl9 => ?_⟩
      generalize eH : upd _ _ _ = J7
      obtain ⟨j7, e7⟩ := new_of eH nl9
      walk_at "rd"
      refine ⟨p, c, l9, _, rfl, S.same j7, fun G' o => .inl (.inl (.inl (o _ _ (S.ne_p nl9) (S.ne_c nl9) e7))), by simp, by show 4 ≤ 100000; decide, fun J8 x hx S8 o8 => ?_⟩
      obtain ⟨many, rfl, n1, n2⟩ : ∃ z, x = .int z ∧ 1 ≤ z ∧ z ≤ 100000000 := by
        simp only [List.mem_cons, List.not_mem_nil, or_false] at hx
        rcases hx with rfl | rfl | rfl | rfl
        · exact ⟨_, rfl, by omega, by omega⟩
        · exact ⟨_, rfl, by omega, by omega⟩
        · exact ⟨_, rfl, by decide, by decide⟩
        · exact ⟨_, rfl, by decide, by decide⟩
      have e8 := o8.tup (S.same j7) (j7 _ _ e8)
      have f1 := o8 _ _ hdp hdc (j7 _ _ f1)
      have aT1 := (aT1.same j7).off o8 (S.same j7)
      clear o8 e7 hx
      have S := S8
      -- great
      walk_at "rd"
      refine ⟨⟨_, .inl (.inl f1)⟩, fun D2 nD2 => lc_list (xs := du_ws) (fun r J => Same J8 J ∧ ∃ ws, J D2 = some (.lst ws) ∧ AllT K J ws (((allV ms).take r).map fun v => v4L (scaleV many v))) ⟨same_new nD2, [], upd_same, .nil⟩ (fun r J _ h => .inl (.inl (h.1 _ _ f1))) (fun r x J hx h => ?_) (fun J h => ?_)⟩
      · obtain ⟨sj, ws, k1, k2⟩ := h
        obtain ⟨vl, hvl, u, rfl, hu⟩ := aT1.get hx
        rw [List.getElem?_map] at hvl
        obtain ⟨v, hv, rfl⟩ := Option.map_eq_some_iff.mp hvl
        have bd := all_bd hN v (List.mem_of_getElem? hv)
        have bd1 := bd v.2.2.1 (by simp [v4L])
        have bd2 := bd v.2.2.2 (by simp [v4L])
        unfold BV at bd1 bd2
        have et : (allV ms).take (r + 1) = (allV ms).take r ++ [v] := by rw [List.take_add_one, hv]; rfl
        refine ⟨u, _, rfl, sq_same sj hu, rfl, _, _, rfl, _, _, rfl, _, _, rfl, _, _, rfl, rfl, rfl, ?_⟩
        walk_at "rd"
        refine ⟨mulr (by omega), ?_⟩
        walk_at "rd"
        refine ⟨mulr (by omega), ?_⟩
        refine ⟨by show 4 ≤ sizeLine; decide, fun w2 nw2 => ?_⟩
        generalize eH : upd _ _ _ = J2
        obtain ⟨j2, f2⟩ := new_of eH nw2
        have k1' := j2 _ _ k1
        refine ⟨_, k1', ?_, same_upd (sj.trans j2) nD2, _, upd_same, ?_⟩
        · rw [k2.len, List.length_map, List.length_take]
          exact many_small (by omega)
        rw [et, List.map_append]
        exact AllT.snoc (AllT.upd k1' (k2.same j2)) ⟨w2, rfl, sqt_upd (.inl (.inl f2)) k1'⟩
      · obtain ⟨sj, ws, k1, k2⟩ := h
        rw [List.take_of_length_le (by rw [aT1.len, List.length_map]; exact Nat.le_refl _)] at k2
        have e8 := sj _ _ e8
        have S := S.same sj
        walk_at "rd"
        refine ⟨⟨_, .inl (.inl e8)⟩, fun D3 nD3 => lc_tup (K := K) (a := t) (xs := ms.map V.int) (fun r M => Same J M ∧ M D3 = some (.lst (((ms.take r).map (many * ·)).map V.int))) ⟨same_new nD3, upd_same⟩ (fun r M _ h => .inl (.inl (h.1 _ _ e8))) (fun r x M hx h => ?_) (fun M h => ?_)⟩
        · obtain ⟨z, hz, rfl⟩ := int_at hx
          refine yesT rfl ?_
          walk_at "rd"
          refine ⟨mull (by omega), _, h.2, ?_, fun b o e => ?_, ?_⟩
          · rw [List.length_map, List.length_map, List.length_take]
            exact many_small (by omega)
          · rw [upd_ne (ne_of_none e nD3)]
            exact h.1 _ _ e
          · rw [upd_same, take_snoc hz, List.map_append]
            rfl
        · obtain ⟨sM, m3⟩ := h
          rw [List.length_map, List.take_length] at m3
          refine ⟨_, _, rfl, .inl ⟨.inl (.inl m3), fun tt ntt => ?_⟩⟩
          generalize eH : upd _ _ _ = M2
          obtain ⟨n2', f2⟩ := new_of eH ntt
          have hbm : many * most ≤ 1000000000 := by
            have := Int.mul_le_mul n2 m2 (by omega) (show (0 : Int) ≤ 100000000 by omega)
            omega
          have hN2 : Nds (ms.map (many * ·)) := nds_scale hN n1 (fun z hz => (hmb z hz).2) hbm
          walk_at "rd"
          refine ⟨tt, ms.map (many * ·), rfl, .inl (.inl f2), hN2, fun M3 t3 t3_ws lq s3 nt3 f3 aT3 pm cd => ?_⟩
          have hlq := all_is hN2 pm cd
          subst hlq
          clear pm cd
          have sh2 := shows_v4 (all_small hN2) (by rw [all_scale n1, List.length_map]; omega)
          walk_at "rd"
          refine ⟨_, _, rfl, .lst (.inl (.inl f3)) (allT_dp aT3), sh2, ?_⟩
          have k2' : AllT K M3 ws ((allV (ms.map (many * ·))).map v4L) := by
            rw [all_scale n1, List.map_map]
            exact k2.same ((sM.trans n2').trans s3)
          walk_at "rd"
          refine ⟨_, _, rfl, .lst (.inl (.inl (((sM.trans n2').trans s3) _ _ k1))) (allT_dp k2'), sh2, ?_⟩
          refine ⟨rfl, ?_⟩
          walk_at "rd"
          rw [show ∀ z : Str, (!decide (V.str z = V.str z)) = false by intro z; simp]
          refine iteF ?_
          exact ⟨_, _, _, _, _, _, _, _, _, _, _, _, _, _, _, rfl, ((S.same sM).same n2').same s3⟩
  · obtain ⟨x2, x3, x4, x5, x6, x7, x8, x9, x10, x11, x12, x13, x14, x15, x16, rfl, S⟩ := h
    walk_at "rd"
    refine ⟨by show 6 ≤ sizeLine; decide, fun tva ntva => ?_⟩
    generalize eH : upd _ _ _ = N1
    obtain ⟨s1, ftva⟩ := new_of eH ntva
    have ftva : N1 tva = some (.tup (([2, 0, 0, 3, 1, 2] : List Int).map V.int)) := ftva
    walk_at "rd"
    refine ⟨_, [2, 0, 0, 3, 1, 2], rfl, .inl (.inl ftva), ⟨by decide, by decide⟩, fun N2 va va_ws lq s2 nva fva ava pm cd => ?_⟩
    have hlq := all_is ⟨by decide, by decide⟩ pm cd
    rw [show allV [2, 0, 0, 3, 1, 2] = [(1, 2, 0, 2), (4, 1, 1, 2)] by decide +kernel] at hlq
    subst hlq
    clear pm cd
    have dva : Dp K N2 (.ref va) (.list (([(1, 2, 0, 2), (4, 1, 1, 2)] : List V4).map v4D)) := .lst (.inl (.inl fva)) (allT_dp ava)
    walk_at "rd"
    refine ⟨by show 4 ≤ sizeLine; decide, fun ua nua => ?_⟩
    generalize eH : upd _ _ _ = N3
    obtain ⟨s3, fua⟩ := new_of eH nua
    have fua : N3 ua = some (.tup (([1, 2, 0, 2] : List Int).map V.int)) := fua
    walk_at "rd"
    refine ⟨by show 4 ≤ sizeLine; decide, fun ub nub => ?_⟩
    generalize eH : upd _ _ _ = N4
    obtain ⟨s4, fub⟩ := new_of eH nub
    have fub : N4 ub = some (.tup (([4, 1, 1, 2] : List Int).map V.int)) := fub
    walk_at "rd"
    refine ⟨by show 2 ≤ sizeLine; decide, fun la nla => ?_⟩
    generalize eH : upd _ _ _ = N5
    obtain ⟨s5, fla⟩ := new_of eH nla
    refine ⟨_, _, dp_same ((s3.trans s4).trans s5) _ _ dva, (.lst (.inl (.inl fla)) (.cons (row_dp ((s4.trans s5) _ _ fua)) (.cons (row_dp (s5 _ _ fub)) .nil)) : Dp K N5 (.ref la) (.list [.tuple (intsD [1, 2, 0, 2]), .tuple (intsD [4, 1, 1, 2])])), by decide +kernel, by decide +kernel, ?_⟩
    walk_at "rd"
    rw [show PyData.eqv (.list (([(1, 2, 0, 2), (4, 1, 1, 2)] : List V4).map v4D)) (.list [.tuple (intsD [1, 2, 0, 2]), .tuple (intsD [4, 1, 1, 2])]) = true by decide +kernel]
    refine iteF ?_
    walk_at "rd"
    refine ⟨by show 1 ≤ sizeLine; decide, fun tvb ntvb => ?_⟩
    generalize eH : upd _ _ _ = N6
    obtain ⟨s6, ftvb⟩ := new_of eH ntvb
    have ftvb : N6 tvb = some (.tup (([5] : List Int).map V.int)) := ftvb
    walk_at "rd"
    refine ⟨_, [5], rfl, .inl (.inl ftvb), ⟨by decide, by decide⟩, fun N7 vb vb_ws lq s7 nvb fvb avb pm cd => ?_⟩
    have hlq := all_is ⟨by decide, by decide⟩ pm cd
    rw [show allV [5] = [] by decide +kernel] at hlq
    subst hlq
    clear pm cd
    have dvb : Dp K N7 (.ref vb) (.list (([] : List V4).map v4D)) := .lst (.inl (.inl fvb)) (allT_dp avb)
    walk_at "rd"
    refine ⟨by show 0 ≤ sizeLine; decide, fun tvc ntvc => ?_⟩
    generalize eH : upd _ _ _ = N8
    obtain ⟨s8, ftvc⟩ := new_of eH ntvc
    have ftvc : N8 tvc = some (.tup (([] : List Int).map V.int)) := ftvc
    walk_at "rd"
    refine ⟨_, [], rfl, .inl (.inl ftvc), ⟨by decide, by decide⟩, fun N9 vc vc_ws lq s9 nvc fvc avc pm cd => ?_⟩
    have hlq := all_is ⟨by decide, by decide⟩ pm cd
    rw [show allV [] = [] by decide +kernel] at hlq
    subst hlq
    clear pm cd
    have dvc : Dp K N9 (.ref vc) (.list (([] : List V4).map v4D)) := .lst (.inl (.inl fvc)) (allT_dp avc)
    have hb1 := (s8.trans s9) _ _ fvb
    have hb2 : vb_ws = [] := by cases avb; rfl
    have hc2 : vc_ws = [] := by cases avc; rfl
    refine ⟨_, _, _, _, rfl, rfl, hb1, fvc, by rw [hb2, hc2]; decide, fun ld nld => ?_⟩
    generalize eH : upd _ _ _ = N10
    obtain ⟨s10, fld⟩ := new_of eH nld
    rw [hb2, hc2] at fld
    walk_at "rd"
    refine ⟨by show 0 ≤ sizeLine; decide, fun le nle => ?_⟩
    generalize eH : upd _ _ _ = N11
    obtain ⟨s11, fle⟩ := new_of eH nle
    refine ⟨.list [], .list [], .lst (.inl (.inl (s11 _ _ fld))) .nil, .lst (.inl (.inl fle)) .nil, by decide +kernel, by decide +kernel, ?_⟩
    walk_at "rd"
    rw [show PyData.eqv (.list []) (.list []) = true by decide +kernel]
    refine iteF ?_
    walk_at "rd"
    refine ⟨by show 5 ≤ sizeLine; decide, fun tv1 ntv1 => ?_⟩
    generalize eH : upd _ _ _ = N12
    obtain ⟨s12, ftv1⟩ := new_of eH ntv1
    have ftv1 : N12 tv1 = some (.tup (([3, 1, 2, 1, 3] : List Int).map V.int)) := ftv1
    walk_at "rd"
    refine ⟨_, [3, 1, 2, 1, 3], rfl, .inl (.inl ftv1), ⟨by decide, by decide⟩, fun N13 v1 v1_ws lq s13 nv1 fv1 av1 pm cd => ?_⟩
    have hlq := all_is ⟨by decide, by decide⟩ pm cd
    rw [show allV [3, 1, 2, 1, 3] = [(1, 1, 1, 2), (1, 3, 2, 3), (3, 1, 1, 2)] by decide +kernel] at hlq
    subst hlq
    clear pm cd
    have dv1 : Dp K N13 (.ref v1) (.list (([(1, 1, 1, 2), (1, 3, 2, 3), (3, 1, 1, 2)] : List V4).map v4D)) := .lst (.inl (.inl fv1)) (allT_dp av1)
    walk_at "rd"
    refine ⟨by show 5 ≤ sizeLine; decide, fun tv2 ntv2 => ?_⟩
    generalize eH : upd _ _ _ = N14
    obtain ⟨s14, ftv2⟩ := new_of eH ntv2
    have ftv2 : N14 tv2 = some (.tup (([2, 0, 2, 0, 2] : List Int).map V.int)) := ftv2
    walk_at "rd"
    refine ⟨_, [2, 0, 2, 0, 2], rfl, .inl (.inl ftv2), ⟨by decide, by decide⟩, fun N15 v2 v2_ws lq s15 nv2 fv2 av2 pm cd => ?_⟩
    have hlq := all_is ⟨by decide, by decide⟩ pm cd
    rw [show allV [2, 0, 2, 0, 2] = [(1, 1, 0, 2), (3, 1, 0, 2)] by decide +kernel] at hlq
    subst hlq
    clear pm cd
    have dv2 : Dp K N15 (.ref v2) (.list (([(1, 1, 0, 2), (3, 1, 0, 2)] : List V4).map v4D)) := .lst (.inl (.inl fv2)) (allT_dp av2)
    walk_at "rd"
    refine ⟨by show 4 ≤ sizeLine; decide, fun tv3 ntv3 => ?_⟩
    generalize eH : upd _ _ _ = N16
    obtain ⟨s16, ftv3⟩ := new_of eH ntv3
    have ftv3 : N16 tv3 = some (.tup (([4, 3, 2, 1] : List Int).map V.int)) := ftv3
    walk_at "rd"
    refine ⟨_, [4, 3, 2, 1], rfl, .inl (.inl ftv3), ⟨by decide, by decide⟩, fun N17 v3 v3_ws lq s17 nv3 fv3 av3 pm cd => ?_⟩
    have hlq := all_is ⟨by decide, by decide⟩ pm cd
    rw [show allV [4, 3, 2, 1] = [] by decide +kernel] at hlq
    subst hlq
    clear pm cd
    have dv3 : Dp K N17 (.ref v3) (.list (([] : List V4).map v4D)) := .lst (.inl (.inl fv3)) (allT_dp av3)
    walk_at "rd"
    refine ⟨by show 3 ≤ sizeLine; decide, fun tv4 ntv4 => ?_⟩
    generalize eH : upd _ _ _ = N18
    obtain ⟨s18, ftv4⟩ := new_of eH ntv4
    have ftv4 : N18 tv4 = some (.tup (([0, 1, 0] : List Int).map V.int)) := ftv4
    walk_at "rd"
    refine ⟨_, [0, 1, 0], rfl, .inl (.inl ftv4), ⟨by decide, by decide⟩, fun N19 v4 v4_ws lq s19 nv4 fv4 av4 pm cd => ?_⟩
    have hlq := all_is ⟨by decide, by decide⟩ pm cd
    rw [show allV [0, 1, 0] = [] by decide +kernel] at hlq
    subst hlq
    clear pm cd
    have dv4 : Dp K N19 (.ref v4) (.list (([] : List V4).map v4D)) := .lst (.inl (.inl fv4)) (allT_dp av4)
    walk_at "rd"
    refine ⟨by show 4 ≤ sizeLine; decide, fun lt nlt => ?_⟩
    generalize eH : upd _ _ _ = N20
    obtain ⟨s20, flt⟩ := new_of eH nlt
    have dT := (.lst (.inl (.inl flt)) (.cons (dp_same ((((((s14.trans s15).trans s16).trans s17).trans s18).trans s19).trans s20) _ _ dv1) (.cons (dp_same ((((s16.trans s17).trans s18).trans s19).trans s20) _ _ dv2) (.cons (dp_same ((s18.trans s19).trans s20) _ _ dv3) (.cons (dp_same s20 _ _ dv4) .nil)))) : Dp K N20 (.ref lt) (.list [.list (([(1, 1, 1, 2), (1, 3, 2, 3), (3, 1, 1, 2)] : List V4).map v4D), .list (([(1, 1, 0, 2), (3, 1, 0, 2)] : List V4).map v4D), .list (([] : List V4).map v4D), .list (([] : List V4).map v4D)]))
    walk_at "rd"
    refine ⟨by show 4 ≤ sizeLine; decide, fun w1 nw1 => ?_⟩
    generalize eH : upd _ _ _ = N21
    obtain ⟨s21, fw1⟩ := new_of eH nw1
    have fw1 : N21 w1 = some (.tup (([1, 1, 1, 2] : List Int).map V.int)) := fw1
    walk_at "rd"
    refine ⟨by show 4 ≤ sizeLine; decide, fun w2 nw2 => ?_⟩
    generalize eH : upd _ _ _ = N22
    obtain ⟨s22, fw2⟩ := new_of eH nw2
    have fw2 : N22 w2 = some (.tup (([1, 3, 2, 3] : List Int).map V.int)) := fw2
    walk_at "rd"
    refine ⟨by show 4 ≤ sizeLine; decide, fun w3 nw3 => ?_⟩
    generalize eH : upd _ _ _ = N23
    obtain ⟨s23, fw3⟩ := new_of eH nw3
    have fw3 : N23 w3 = some (.tup (([3, 1, 1, 2] : List Int).map V.int)) := fw3
    walk_at "rd"
    refine ⟨by show 3 ≤ sizeLine; decide, fun m1' nm1' => ?_⟩
    generalize eH : upd _ _ _ = N24
    obtain ⟨s24, fm1'⟩ := new_of eH nm1'
    walk_at "rd"
    refine ⟨by show 4 ≤ sizeLine; decide, fun w4 nw4 => ?_⟩
    generalize eH : upd _ _ _ = N25
    obtain ⟨s25, fw4⟩ := new_of eH nw4
    have fw4 : N25 w4 = some (.tup (([1, 1, 0, 2] : List Int).map V.int)) := fw4
    walk_at "rd"
    refine ⟨by show 4 ≤ sizeLine; decide, fun w5 nw5 => ?_⟩
    generalize eH : upd _ _ _ = N26
    obtain ⟨s26, fw5⟩ := new_of eH nw5
    have fw5 : N26 w5 = some (.tup (([3, 1, 0, 2] : List Int).map V.int)) := fw5
    walk_at "rd"
    refine ⟨by show 2 ≤ sizeLine; decide, fun m2' nm2' => ?_⟩
    generalize eH : upd _ _ _ = N27
    obtain ⟨s27, fm2'⟩ := new_of eH nm2'
    walk_at "rd"
    refine ⟨by show 0 ≤ sizeLine; decide, fun m3' nm3' => ?_⟩
    generalize eH : upd _ _ _ = N28
    obtain ⟨s28, fm3'⟩ := new_of eH nm3'
    walk_at "rd"
    refine ⟨by show 0 ≤ sizeLine; decide, fun m4' nm4' => ?_⟩
    generalize eH : upd _ _ _ = N29
    obtain ⟨s29, fm4'⟩ := new_of eH nm4'
    walk_at "rd"
    refine ⟨by show 4 ≤ sizeLine; decide, fun m5' nm5' => ?_⟩
    generalize eH : upd _ _ _ = N30
    obtain ⟨s30, fm5'⟩ := new_of eH nm5'
    have dU := (.lst (.inl (.inl fm5')) (.cons (.lst (.inl (.inl ((((((s25.trans s26).trans s27).trans s28).trans s29).trans s30) _ _ fm1'))) (.cons (row_dp (((((((((s22.trans s23).trans s24).trans s25).trans s26).trans s27).trans s28).trans s29).trans s30) _ _ fw1)) (.cons (row_dp ((((((((s23.trans s24).trans s25).trans s26).trans s27).trans s28).trans s29).trans s30) _ _ fw2)) (.cons (row_dp (((((((s24.trans s25).trans s26).trans s27).trans s28).trans s29).trans s30) _ _ fw3)) .nil))))
      (.cons (.lst (.inl (.inl (((s28.trans s29).trans s30) _ _ fm2'))) (.cons (row_dp (((((s26.trans s27).trans s28).trans s29).trans s30) _ _ fw4)) (.cons (row_dp ((((s27.trans s28).trans s29).trans s30) _ _ fw5)) .nil)))
      (.cons (.lst (.inl (.inl ((s29.trans s30) _ _ fm3'))) .nil) (.cons (.lst (.inl (.inl (s30 _ _ fm4'))) .nil) .nil)))) : Dp K N30 (.ref m5') (.list [.list [.tuple (intsD [1, 1, 1, 2]), .tuple (intsD [1, 3, 2, 3]), .tuple (intsD [3, 1, 1, 2])], .list [.tuple (intsD [1, 1, 0, 2]), .tuple (intsD [3, 1, 0, 2])], .list [], .list []]))
    refine ⟨_, _, dp_same (((((((((s21.trans s22).trans s23).trans s24).trans s25).trans s26).trans s27).trans s28).trans s29).trans s30) _ _ dT, dU, by decide +kernel, by decide +kernel, ?_⟩
    have ev : PyData.eqv (.list [.list (([(1, 1, 1, 2), (1, 3, 2, 3), (3, 1, 1, 2)] : List V4).map v4D), .list (([(1, 1, 0, 2), (3, 1, 0, 2)] : List V4).map v4D), .list (([] : List V4).map v4D), .list (([] : List V4).map v4D)]) (.list [.list [.tuple (intsD [1, 1, 1, 2]), .tuple (intsD [1, 3, 2, 3]), .tuple (intsD [3, 1, 1, 2])], .list [.tuple (intsD [1, 1, 0, 2]), .tuple (intsD [3, 1, 0, 2])], .list [], .list []]) = true := by decide +kernel
    rw [ev]
    exact q _
end
end K22
set_option Elab.async false
set_option linter.all false
set_option maxRecDepth 100000
namespace K22
open PySem PySem.Spec PyProof.Rows L2 WK
theorem all_mk {l : PySem.W.OpenLaw} {w : World} {K : PySem.W.Frag} {h : Heap} {mg : Str → Option Value} {fa fS fP fO fDraw fVa fLv fLg fLw : Addr} (X : K.In h) (G : h.Ns mainGlobals mg) (hfa : mg "law" = some (.ref fa))
    {odS anS odP anP odO anO odDraw anDraw odVa anVa odLv anLv odLg anLg odLw anLw : Option Addr} {slS slP slO slDraw slVa slLv slLg slLw : Array (Option Value)} {ocS kVS dcS pmS cdS ctS ocP kVP dcP pmP cdP ctP ocO kVO dcO pmO cdO ctO ocDraw kVDraw dcDraw pmDraw cdDraw ctDraw ocVa kVVa dcVa pmVa cdVa ctVa ocLv kVLv dcLv pmLv cdLv ctLv ocLg kVLg dcLg pmLg cdLg ctLg ocLw kVLw dcLw pmLw cdLw ctLw : Value}
    (aS : PySem.W.nsIn K mainGlobals "_law_source" = some (some (.ref fS))) (lS : K.lookup fS = some ⟨ocS, odS, .func (PySem.W.fnOf "_law_source" "_law_source" (defArgs sSource) (defBody sSource) (defScope sSource) .none kVS dcS pmS anS cdS ctS), slS⟩)
      (cS : PySem.W.codeIn K cdS "_law_source" = true) (kS : PySem.W.keepIn K (.ref fS) = true)
    (aP : PySem.W.nsIn K mainGlobals "_law_pick" = some (some (.ref fP))) (lP : K.lookup fP = some ⟨ocP, odP, .func (PySem.W.fnOf "_law_pick" "_law_pick" (defArgs sPick) (defBody sPick) (defScope sPick) .none kVP dcP pmP anP cdP ctP), slP⟩)
      (cP : PySem.W.codeIn K cdP "_law_pick" = true) (kP : PySem.W.keepIn K (.ref fP) = true)
    (aO : PySem.W.nsIn K mainGlobals "_law_of" = some (some (.ref fO))) (lO : K.lookup fO = some ⟨ocO, odO, .func (PySem.W.fnOf "_law_of" "_law_of" (defArgs sOf) (defBody sOf) (defScope sOf) .none kVO dcO pmO anO cdO ctO), slO⟩)
      (cO : PySem.W.codeIn K cdO "_law_of" = true) (kO : PySem.W.keepIn K (.ref fO) = true)
    (aDraw : PySem.W.nsIn K mainGlobals "_law_draw_needs" = some (some (.ref fDraw))) (lDraw : K.lookup fDraw = some ⟨ocDraw, odDraw, .func (PySem.W.fnOf "_law_draw_needs" "_law_draw_needs" (defArgs sDraw) (defBody sDraw) (defScope sDraw) .none kVDraw dcDraw pmDraw anDraw cdDraw ctDraw), slDraw⟩)
      (cDraw : PySem.W.codeIn K cdDraw "_law_draw_needs" = true) (kDraw : PySem.W.keepIn K (.ref fDraw) = true)
    (aVa : PySem.W.nsIn K mainGlobals "valleys" = some (some (.ref fVa))) (lVa : K.lookup fVa = some ⟨ocVa, odVa, .func (PySem.W.fnOf "valleys" "valleys" (defArgs sVa) (defBody sVa) (defScope sVa) .none kVVa dcVa pmVa anVa cdVa ctVa), slVa⟩)
      (cVa : PySem.W.codeIn K cdVa "valleys" = true) (kVa : PySem.W.keepIn K (.ref fVa) = true)
    (aLv : PySem.W.nsIn K mainGlobals "_law_valleys" = some (some (.ref fLv))) (lLv : K.lookup fLv = some ⟨ocLv, odLv, .func (PySem.W.fnOf "_law_valleys" "_law_valleys" (defArgs sLv) (defBody sLv) (defScope sLv) .none kVLv dcLv pmLv anLv cdLv ctLv), slLv⟩)
      (cLv : PySem.W.codeIn K cdLv "_law_valleys" = true) (kLv : PySem.W.keepIn K (.ref fLv) = true)
    (aLg : PySem.W.nsIn K mainGlobals "_law_gaps" = some (some (.ref fLg))) (lLg : K.lookup fLg = some ⟨ocLg, odLg, .func (PySem.W.fnOf "_law_gaps" "_law_gaps" (defArgs sLGaps) (defBody sLGaps) (defScope sLGaps) .none kVLg dcLg pmLg anLg cdLg ctLg), slLg⟩)
      (cLg : PySem.W.codeIn K cdLg "_law_gaps" = true) (kLg : PySem.W.keepIn K (.ref fLg) = true)
    (aLw : PySem.W.nsIn K mainGlobals "law" = some (some (.ref fLw))) (lLw : K.lookup fLw = some ⟨ocLw, odLw, .func (PySem.W.fnOf "law" "law" (defArgs sLaw) (defBody sLaw) (defScope sLaw) .none kVLw dcLw pmLw anLw cdLw ctLw), slLw⟩)
      (cLw : PySem.W.codeIn K cdLw "law" = true) (kLw : PySem.W.keepIn K (.ref fLw) = true)
    (zint : PySem.W.nsIn K mainGlobals "int" = some none)
    (zabs : PySem.W.nsIn K mainGlobals "abs" = some none)
    (zlen : PySem.W.nsIn K mainGlobals "len" = some none)
    (zmax : PySem.W.nsIn K mainGlobals "max" = some none)
    (zmin : PySem.W.nsIn K mainGlobals "min" = some none)
    (ztuple : PySem.W.nsIn K mainGlobals "tuple" = some none)
    (zrange : PySem.W.nsIn K mainGlobals "range" = some none)
    (zzip : PySem.W.nsIn K mainGlobals "zip" = some none)
    (zenumerate : PySem.W.nsIn K mainGlobals "enumerate" = some none)
    (zrepr : PySem.W.nsIn K mainGlobals "repr" = some none)
    (zsum : PySem.W.nsIn K mainGlobals "sum" = some none)
    (zall : PySem.W.nsIn K mainGlobals "all" = some none)
    (zany : PySem.W.nsIn K mainGlobals "any" = some none)
    (zsorted : PySem.W.nsIn K mainGlobals "sorted" = some none)
    (zlist : PySem.W.nsIn K mainGlobals "list" = some none)
    : ∃ fd : FuncData, (∀ (s : Shared) (v : Value), BindsTo s fd ⟨[v], []⟩ [("script", v)]) ∧ ∀ base : Heap, K.In base → base.Ns mainGlobals mg → FnG l.prog w K mg base 4 fa fd ["script"] (spLaw K) := by
  have e := hfa.symm.trans (PySem.W.mg_of X G aLw)
  cases e
  have FS := fun_mk (st := sSource) lS cS kS
  have FP := fun_mk (st := sPick) lP cP kP
  have FO := fun_mk (st := sOf) lO cO kO
  have FDraw := fun_mk (st := sDraw) lDraw cDraw kDraw
  have FVa := fun_mk (st := sVa) lVa cVa kVa
  have FLv := fun_mk (st := sLv) lLv cLv kLv
  have FLg := fun_mk (st := sLGaps) lLg cLg kLg
  have FLw := fun_mk (st := sLaw) lLw cLw kLw
  have bS := FS.binds (ps := ["script"]) fun _ _ _ _ _ _ us hl => match us, hl with | [_], _ => rfl
  have gS := PySem.W.mg_of X G aS
  have bP := FP.binds (ps := ["source", "many"]) fun _ _ _ _ _ _ us hl => match us, hl with | [_, _], _ => rfl
  have gP := PySem.W.mg_of X G aP
  have bO := FO.binds (ps := ["source", "some"]) fun _ _ _ _ _ _ us hl => match us, hl with | [_, _], _ => rfl
  have gO := PySem.W.mg_of X G aO
  have bDraw := FDraw.binds (ps := ["source", "ticks", "most"]) fun _ _ _ _ _ _ us hl => match us, hl with | [_, _, _], _ => rfl
  have gDraw := PySem.W.mg_of X G aDraw
  have bVa := FVa.binds (ps := ["needs"]) fun _ _ _ _ _ _ us hl => match us, hl with | [_], _ => rfl
  have gVa := PySem.W.mg_of X G aVa
  have bLv := FLv.binds (ps := ["needs"]) fun _ _ _ _ _ _ us hl => match us, hl with | [_], _ => rfl
  have gLv := PySem.W.mg_of X G aLv
  have bLg := FLg.binds (ps := ["needs", "k"]) fun _ _ _ _ _ _ us hl => match us, hl with | [_, _], _ => rfl
  have gLg := PySem.W.mg_of X G aLg
  have B : Blt mg := { int := PySem.W.mg_none_of X G zint, abs := PySem.W.mg_none_of X G zabs, len := PySem.W.mg_none_of X G zlen, max := PySem.W.mg_none_of X G zmax, min := PySem.W.mg_none_of X G zmin, tuple := PySem.W.mg_none_of X G ztuple, range := PySem.W.mg_none_of X G zrange, zip := PySem.W.mg_none_of X G zzip, enumerate := PySem.W.mg_none_of X G zenumerate, repr := PySem.W.mg_none_of X G zrepr, sum := PySem.W.mg_none_of X G zsum, all := PySem.W.mg_none_of X G zall, any := PySem.W.mg_none_of X G zany, sorted := PySem.W.mg_none_of X G zsorted, list := PySem.W.mg_none_of X G zlist }
  have D : Txt K mg fS fP fO fDraw fVa fLv fLg _ _ _ _ _ _ _ := { toDrw := { FP := FP, bP := bP, gP := gP, FO := FO, bO := bO, gO := gO }, FS := FS, bS := bS, gS := gS, FDraw := FDraw, bDraw := bDraw, gDraw := gDraw, FVa := FVa, bVa := bVa, gVa := gVa, FLv := FLv, bLv := bLv, gLv := gLv, FLg := FLg, bLg := bLg, gLg := gLg }
  exact ⟨PySem.W.fnOf "law" "law" (defArgs sLaw) (defBody sLaw) (defScope sLaw) .none kVLw dcLw pmLw anLw cdLw ctLw, fun s v => .of_eq rfl, fun base _ _ => ok_law FLw D B⟩
end K22
open PySem PySem.W PyProof.Rows
set_option maxRecDepth 100000 in
set_option maxHeartbeats 0 in
theorem PySem.Challenge.cw_wakedenough_k22_whole_valleys_holds : PySem.Challenge.rw_wakedenough_k22_whole_valleys.Holds := by
  w_on; o_law; k_head; (case hw => w_witness2)
  k_fill
  refine WK.walk_ofG (l := PySem.Challenge.rw_wakedenough_k22_whole_valleys) (n := 63) (k := 4) (x := "script") (sp := fun w => K22.spLaw _) rfl (by decide) rfl ⟨rfl, by decide, by decide⟩ (fun w h Y => PySem.W.kIn_of Y) ?F (fun _ _ a ns hl _ hS => ⟨a, ns, rfl, hS, hl, fun _ => rfl⟩)
  case F =>
    intro w mg fa h KX G hmg
    refine' K22.all_mk KX G hmg ?aS ?lS ?cS ?kS ?aP ?lP ?cP ?kP ?aO ?lO ?cO ?kO ?aDraw ?lDraw ?cDraw ?kDraw ?aVa ?lVa ?cVa ?kVa ?aLv ?lLv ?cLv ?kLv ?aLg ?lLg ?cLg ?kLg ?aLw ?lLw ?cLw ?kLw ?zint ?zabs ?zlen ?zmax ?zmin ?ztuple ?zrange ?zzip ?zenumerate ?zrepr ?zsum ?zall ?zany ?zsorted ?zlist
    (case aS => k_is); (case lS => k_is); (case cS => k_is); (case kS => k_is); (case aP => k_is); (case lP => k_is); (case cP => k_is); (case kP => k_is); (case aO => k_is); (case lO => k_is); (case cO => k_is); (case kO => k_is); (case aDraw => k_is); (case lDraw => k_is); (case cDraw => k_is); (case kDraw => k_is); (case aVa => k_is); (case lVa => k_is); (case cVa => k_is); (case kVa => k_is); (case aLv => k_is); (case lLv => k_is); (case cLv => k_is); (case kLv => k_is); (case aLg => k_is); (case lLg => k_is); (case cLg => k_is); (case kLg => k_is); (case aLw => k_is); (case lLw => k_is); (case cLw => k_is); (case kLw => k_is); (case zint => k_is); (case zabs => k_is); (case zlen => k_is); (case zmax => k_is); (case zmin => k_is); (case ztuple => k_is); (case zrange => k_is); (case zzip => k_is); (case zenumerate => k_is); (case zrepr => k_is); (case zsum => k_is); (case zall => k_is); (case zany => k_is); (case zsorted => k_is); (case zlist => k_is)
