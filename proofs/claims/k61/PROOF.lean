import PyProof.Rows.All
import Wide.All
import OpenK.AllK
import Wide.FinOn
import HandS.ForMost
import HandS.Evl
import HandS.IsInst
import HandS.TupLe
import HandS.Conv
import HandS.SetFor
import HandS.Zip
import HandS.Defaults
import KE.KEqSeq
import PyProof.ReprRoads
import HandS.Star
import HandS.More
import KE.KSuper
import HandS.Zip0
import KE.KDictZip
import HandS.SortInts
import HandS.TupAny
import HandS.Iter
import KE.GoesEnum
import HandS.Walk
import HandS.DictComp
import HandS.Exc
import HandS.Lambda
import HandS.TryOnly
import HandS.Call
import KE.KExcIs
import HandS.ForSpec
import HandS.ExcOwn
import HandS.EndTab
import HandS.SortKw
import KE.KMinKey
import HandS.Text
import HandS.StrMore
import KE.DatumOrd
import HandS.Strs
import PySem.Challenge.RW_threelanes_k61_two_labels_tell_by_themse
set_option Elab.async false
set_option linter.all false
set_option maxRecDepth 100000
section S_Ru
namespace Tl
open PySem PySem.Spec PyProof.Rows L2
/-! ### len(set(x)) of a list or a tuple of ints, unlike or not -/
theorem met_len (ns : List Int) : ∀ i, i ≤ ns.length → ((firstMet (fun i => ns.getD i 0) i).length = i ↔ (ns.take i).Nodup) ∧ ∀ k, k ∈ firstMet (fun i => ns.getD i 0) i ↔ k ∈ ns.take i
  | 0, _ => by
    rw [firstMet_zero]
    simp
  | i + 1, h => by
    have hi : i < ns.length := h
    obtain ⟨a1, a2⟩ := met_len ns i (Nat.le_of_lt hi)
    have ex : ns.getD i 0 = ns[i] := by simp [List.getD_eq_getElem?_getD, hi]
    have et : ns.take (i + 1) = ns.take i ++ [ns[i]] := by rw [List.take_add_one, List.getElem?_eq_getElem hi] <;> rfl
    have eb : (firstMet (fun i => ns.getD i 0) i).any (· == ns[i]) = true ↔ ns[i] ∈ ns.take i := by
      rw [List.any_eq_true]
      constructor
      · intro ⟨x, hx, he⟩
        rw [← beq_iff_eq.mp he]
        exact (a2 x).mp hx
      · intro hx
        exact ⟨_, (a2 _).mpr hx, beq_self_eq_true _⟩
    have le := firstMet_length_le (fun i => ns.getD i 0) i
    rw [firstMet_succ, et]
    show ((step_dedup _ (ns.getD i 0)).length = i + 1 ↔ _) ∧ _
    rw [ex]
    unfold step_dedup
    have nd : (ns.take i ++ [ns[i]]).Nodup ↔ (ns.take i).Nodup ∧ ns[i] ∉ ns.take i := by
      rw [List.nodup_append]
      simp
      exact fun _ => ⟨fun y z => y _ z rfl, fun y a ha e => y (e ▸ ha)⟩
    by_cases hm : ns[i] ∈ ns.take i
    · rw [if_pos (eb.mpr hm)]
      refine ⟨⟨fun e => by omega, fun e => absurd hm (nd.mp e).2⟩, fun k => ?_⟩
      rw [a2 k, List.mem_append, List.mem_singleton]
      exact ⟨.inl, fun z => z.elim id fun e => e ▸ hm⟩
    · rw [if_neg (fun z => hm (eb.mp z))]
      refine ⟨?_, fun k => ?_⟩
      · rw [List.length_append, List.length_singleton, nd]
        exact ⟨fun e => ⟨a1.mp (by omega), hm⟩, fun e => by rw [a1.mpr e.1]⟩
      · rw [List.mem_append, List.mem_append, a2 k]
def tLenSetN (K : PySem.W.Frag) (ta : TE) : TE := fun σ H Q => ta σ H fun x H1 => ∃ (l : Addr) (ns : List Int), x = .ref l ∧ SqL K H1 l (ns.map V.int) ∧ ns.length ≤ 4000 ∧ ∀ c : Nat, (c = ns.length ↔ ns.Nodup) → Q (.int (c : Int)) H1
theorem pe_lenSetN {X : Cx} {a : Expr} {ta : TE} {p p2 q pos : Pos} (hg : Gl X "len") (hm : X.mg "len" = none) (hg2 : Gl X "set") (hm2 : X.mg "set" = none) (ha : PE X a ta) (hc : X.calm = true := by rfl)
    (na : starEach [a] X.env = (false, eval a X.env) :: starEach [] X.env := by rfl) : PE X (.Call (.Name "len" p) [.Call (.Name "set" p2) [a] [] q] [] pos) (tLenSetN X.K ta) := by
  constructor
  intro pins s σ H Q I h
  refine Call_ (ld_blt I hg hm boot_len (callWith_builtin1 (args_cons (Call_ (ld_blt I hg2 hm2 boot_set (callWith_type1 (args_cons (thn (ha.run pins s σ H _ I h) fun v s1 hv => args_nil ?_) na) na rfl))) rfl) rfl rfl))
  obtain ⟨x, H1, I1, r1, l, ns, rfl, hq, hl, q1⟩ := hv
  cases r1
  obtain ⟨its, r, pl, hz⟩ := I1.list hq
  have hn : its.toArray.size = ns.length := by rw [List.size_toArray, ← r.length, List.length_map]
  refine call_set_list (I1.ok.hd hc) pl.isList (by simpa using RZ.intsAre_vals r) (by rw [hn]; unfold scanBound; omega) fun h' tk hS hk => args_nil ?_
  obtain ⟨o, es, ep, t, ho, hex, hd, _, _, hb, hf, hsz⟩ := hS
  have I2 : Inv X pins σ H1 { s1 with heap := h', toks := tk } := I1.kept fun b o e => hk b o (Heap.lt_size e) e
  refine call_len_set ho hex hd hf (by unfold scanBound at hb; omega) ⟨.int es.size, H1, I2.tok _, ⟨_, rfl⟩, q1 es.size ?_⟩
  rw [hsz, hn]
  have e := (met_len ns ns.length (Nat.le_refl _)).1
  rwa [List.take_length] at e
/-- the same of a tuple -/
def tLenSetU (K : PySem.W.Frag) (ta : TE) : TE := fun σ H Q => ta σ H fun x H1 => ∃ (l : Addr) (ns : List Int), x = .ref l ∧ SqT K H1 l (ns.map V.int) ∧ ns.length ≤ 4000 ∧ ∀ c : Nat, (c = ns.length ↔ ns.Nodup) → Q (.int (c : Int)) H1
theorem nodup_same {as bs : List Int} (ha : as.Nodup) (hm : ∀ k, k ∈ bs ↔ k ∈ as) : as.length = bs.length ↔ bs.Nodup := by
  have sub : ∀ (as bs : List Int), as.Nodup → (∀ k, k ∈ as → k ∈ bs) → as.length ≤ bs.length := by
    intro as
    induction as with
    | nil => intro bs _ _; exact Nat.zero_le _
    | cons a r ih =>
      intro bs hn hs
      rw [List.nodup_cons] at hn
      have h1 : a ∈ bs := hs a List.mem_cons_self
      have h2 := ih (bs.erase a) hn.2 fun k hk => by
        have hne : k ≠ a := fun e => hn.1 (e ▸ hk)
        exact (List.mem_erase_of_ne hne).mpr (hs k (List.mem_cons_of_mem _ hk))
      rw [List.length_erase_of_mem h1] at h2
      have h3 : 0 < bs.length := List.length_pos_of_mem h1
      rw [List.length_cons]
      omega
  have strict : ∀ (bs as : List Int), as.Nodup → (∀ k, k ∈ as → k ∈ bs) → ¬ bs.Nodup → as.length < bs.length := by
    intro bs
    induction bs with
    | nil => intro as _ _ h; exact absurd List.nodup_nil h
    | cons b r ih =>
      intro as hn hs hb
      rw [List.length_cons]
      by_cases hbr : b ∈ r
      · have := sub as r hn fun k hk => by
          rcases List.mem_cons.mp (hs k hk) with e | e
          · rw [e]; exact hbr
          · exact e
        omega
      · have hr : ¬ r.Nodup := fun z => hb (List.nodup_cons.mpr ⟨hbr, z⟩)
        have h1 := ih (as.erase b) (hn.erase b) (fun k hk => by
          have h2 := hn.mem_erase_iff.mp hk
          rcases List.mem_cons.mp (hs k h2.2) with e | e
          · exact absurd e h2.1
          · exact e) hr
        by_cases ha : b ∈ as
        · rw [List.length_erase_of_mem ha] at h1
          omega
        · rw [List.erase_of_not_mem ha] at h1
          omega
  constructor
  · intro e
    apply Classical.byContradiction
    intro h
    have := strict bs as ha (fun k hk => (hm k).mpr hk) h
    omega
  · intro hb
    have h1 := sub as bs ha fun k hk => (hm k).mpr hk
    have h2 := sub bs as hb fun k hk => (hm k).mp hk
    omega
theorem pe_lenSetU {X : Cx} {a : Expr} {ta : TE} {p p2 q pos : Pos} (hg : Gl X "len") (hm : X.mg "len" = none) (hg2 : Gl X "set") (hm2 : X.mg "set" = none) (ha : PE X a ta) (hc : X.calm = true := by rfl)
    (na : starEach [a] X.env = (false, eval a X.env) :: starEach [] X.env := by rfl) : PE X (.Call (.Name "len" p) [.Call (.Name "set" p2) [a] [] q] [] pos) (tLenSetU X.K ta) := by
  constructor
  intro pins s σ H Q I h
  refine Call_ (ld_blt I hg hm boot_len (callWith_builtin1 (args_cons (Call_ (ld_blt I hg2 hm2 boot_set (callWith_type1 (args_cons (thn (ha.run pins s σ H _ I h) fun v s1 hv => args_nil ?_) na) na rfl))) rfl) rfl rfl))
  obtain ⟨x, H1, I1, r1, l, ns, rfl, hq, hl, q1⟩ := hv
  cases r1
  obtain ⟨its, r, pl, hz⟩ := I1.tuple hq
  refine call_set_tupI ns (I1.ok.hd hc) pl (by simpa using RZ.intsAre_vals r) (by unfold scanBound; omega) fun h' tk c hS hcl hk => args_nil ?_
  obtain ⟨o, es, ep, t, ho, hex, hd, _, hnd, hS2, hb, hf, hsz, _⟩ := hS
  have I2 : Inv X pins σ H1 { s1 with heap := h', toks := tk } := I1.kept hk
  refine call_len_set ho hex hd hf (by unfold scanBound at hb; omega) ⟨.int es.size, H1, I2.tok _, ⟨_, rfl⟩, q1 es.size ?_⟩
  have e := nodup_same (bs := ns) hnd fun k => by
    rw [← hS2 k]
    simp
  rwa [List.length_map, Array.length_toList] at e
/-! ### repr of data, where no repr is under way -/
def rRepr (K : PySem.W.Frag) : List V → Hp → VK → Prop := fun xs H Q => ∃ (a : Addr) (d : PyData), xs = [.ref a] ∧ Dp K H (.ref a) d ∧ d.showable = true ∧ d.hasDict = false ∧ d.depth ≤ 20 ∧ d.shown.length ≤ sizeLine ∧ Q (.str d.shown) H
theorem call_reprD {X : Cx} (hg : X.A.guards = some []) (hu : X.A.units + 64 < cLine) : CallR X (.builtin "repr") (rRepr X.K) := by
  intro pins s σ H xs us Q I r h
  obtain ⟨a, d, rfl, hd, hs, hn, hp, hz, q⟩ := h
  obtain ⟨u, rfl, ru⟩ := vals1 r
  cases ru
  obtain ⟨as, rd⟩ := Dp.reads I d _ _ hd rfl
  exact repr_of_reads' rd hs (PyData.noDict_hsm hn) hg (by omega) (fun _ _ e => e) (fun h' u tk hk => ⟨.str d.shown, H, I.kept hk, ⟨_, rfl⟩, q⟩) hz
/-! ### a call by keywords alone -/
theorem kbn_of {K : PySem.W.Frag} {x qual : Str} {st : Stmt} {f : Addr} {fd : FuncData} {ps : List Str} (F : Fun K x qual st f fd) (n : Nat) (ks : List Str) (g : {α : Type} → List α → List α → List α)
    (rel : ∀ {vs zs : List V} {us ws : List Value}, Vals vs us → Vals zs ws → Vals (g vs zs) (g us ws))
    (h : ∀ (kV doc pm : Value) (an : Option Addr) (cdv ct : Value) (us ws : List Value), us.length = n → ws.length = ks.length → bindArgs (PySem.W.fnOf x qual (defArgs st) (defBody st) (defScope st) .none kV doc pm an cdv ct) ⟨us, ks.zip ws⟩ = pure (ps.zip (g us ws))) :
    KBn K fd ps n ks (fun us ws => g us ws) (fun vs zs => g vs zs) := by
  obtain ⟨_, _, kV, doc, pm, an, cdv, ct, _, rfl, _, _⟩ := F.ex
  exact ⟨fun s us ws _ l1 l2 => .of_eq (h kV doc pm an cdv ct us ws l1 l2), rel⟩
theorem pe_callN0 {X : Cx} {CX : CXT} {k : Nat} {f : Addr} {fd : FuncData} {ps ks : List Str} {sp : Sp} {E : XK} {x : Str} {p pos : Pos} {kws : List Keyword} {tk : TA} {g : List Value → List Value → List Value} {gV : List V → List V → List V}
    (F : FnOk X.prog X.w X.K X.mg X.base CX k f fd ps sp) (hr : Room k X.A) (hg : Gl X x) (hm : X.mg x = some (.ref f)) (hk : PySem.W.keepIn X.K (.ref f) = true) (hb : KBn X.K fd ps 0 ks g gV) (hx : Passes CX X E)
    (hkw : PK X kws tk) (hall : (backToKw pos (keywordEach kws X.env)).all (·.1.isSome) = true := by rfl) (hks : (backToKw pos (keywordEach kws X.env)).filterMap (·.1) = ks := by rfl) (hdb : (x == ("__debug__" : Str)) = false := by decide)
    (hpl : ((backTo pos (starEach [] X.env)).any (·.1) || (backToKw pos (keywordEach kws X.env)).any (·.1.isNone)) = false := by rfl) :
    PE X (.Call (.Name x p) [] kws pos) (tCallN 0 ks.length sp gV E tNil tk) := by
  constructor
  intro pins s σ H Q I h
  refine wpAny_Call_Name_kw (ld_glob I hg hm (PySem.W.callWith_KW0 (h₀ := X.base) I.ok.mod.kin hk hall (thn (hkw.run pos pins s σ H _ I h) fun ws s2 hv => ?_) hpl) hdb)
  obtain ⟨zs, H2, I2, rz, l1, l2, q2⟩ := hv
  refine ⟨I2.kIn, ?_⟩
  rw [hks]
  exact run_fnN (us := []) (vs := []) F hr hb hx I2 .nil rz rfl l2 q2
/-! ### defs that are called where no repr is under way -/
structure FnG (P : Program) (w : World) (K : PySem.W.Frag) (mg : Str → Option Value) (base : Heap) (k : Nat) (f : Addr) (fd : FuncData) (ps : List Str) (sp : Sp) : Prop where
  len : ∀ {vs H Q E}, sp vs H Q E → vs.length = ps.length
  go : ∀ {A : Around} {outer : List Env} {s : Shared} {H : Hp} {args : Args} {us : List Value} {vs : List V} {Q : VK} {E : XK}, A.guards = some [] → Room k A → Env0 P w K mg base A outer s H → BindsTo s fd args (ps.zip us) → Vals vs us →
    sp vs H Q E → codeAny (model P w) A (.call (.ref f) args) (CR CX0 outer P w H s Q E) s
theorem fn_g {P : Program} {w : World} {K : PySem.W.Frag} {mg : Str → Option Value} {base : Heap} {x qual : Str} {st : Stmt} {f : Addr} {fd : FuncData} {N ps : List Str} {k : Nat} {sp : Sp} (F : Fun K x qual st f fd) (S : FnScope N ps (defScope st))
    (len : ∀ {vs H Q E}, sp vs H Q E → vs.length = ps.length)
    (hbody : ∀ (cdv : Value) (A : Around) (outer : List Env) (s : Shared) (H : Hp) (vs : List V) (Q : VK) (E : XK), A.guards = some [] → Room k (A.deeper (envOfC qual (defScope st) s.heap.objs.size f cdv)) → sp vs H Q E →
      ∃ t, PSs (cxOf CX0 P w K mg base N qual (defScope st) f cdv A outer s H E).nox (defBody st) t ∧ t { nx := fun _ H' => Q .non H', rt := Q } (start N vs) H) : FnG P w K mg base (k + 1) f fd ps sp := by
  obtain ⟨oc, od, kV, doc, pm, an, cdv, ct, osl, rfl, lk, hcd⟩ := F.ex
  refine ⟨len, fun {A outer s H args us vs Q E} hgd hr e0 hb r hsp => ?_⟩
  have kin : K.In s.heap := e0.mod.kin.keeps fun b o e => (e0.bs b o e).1
  have nl : s.heap.NoLimit := e0.mod.nolimit.keeps fun b o e => (e0.bs b o e).1
  refine codeAny_call_function hr.depth (kin _ _ lk) rfl S.co S.gen rfl (PySem.W.codeRec_of kin hcd) (hb _ _ _ _ (wpAny_newFunctionEnv_cells S.kind ?_ fun env he s1 x => ?_))
  · intro y hy
    have hp : y.1 ∈ ps := (List.of_mem_zip (a := y.1) (b := y.2) hy).1
    exact (S.par y.1 hp).imp id fun q => ⟨q, PySem.W.cellsFrom_some _ _ _ (.inl q)⟩
  · cases he
    obtain ⟨t, ht, hq⟩ := hbody cdv A outer s H vs Q E hgd (hr.deeper _) hsp
    have I := inv_start (CX := CX0) (P := P) (w := w) (base := base) (E := E) (qual := qual) (f := f) (cd := cdv) S hr.hd e0 (len hsp) r x
    refine ⟨nl.keeps x.toInCall.keep, codeAny_func (wpAny_mono (ht.nox.run [] s1 (start N vs) H _ I hq) (fun fl s' hs => ?_) fun _ _ hs => hs)⟩
    cases fl with
    | ret u =>
      obtain ⟨v, σ', H', J, rv, q⟩ := hs
      exact ⟨v, H', J.os, J.bare, J.base, J.hok, rv, q⟩
    | next =>
      obtain ⟨σ', H', J, q⟩ := hs
      exact ⟨.non, H', J.os, J.bare, J.base, J.hok, rfl, q⟩
    | brk => exact hs.elim fun _ h => h.elim fun _ h => h.2.elim
    | cont => exact hs.elim fun _ h => h.elim fun _ h => h.2.elim
/-- the call of the law itself: at its own room no repr is under way -/
theorem law_g {P : Program} {w : World} {K : PySem.W.Frag} {mg mb : Str → Option Value} {k : Nat} {fa a : Addr} {fd : FuncData} {x : Str} {sp : Sp} {s₁ : Shared} {vs : List Value} {ns : List Int}
    (kin : K.In s₁.heap) (hns : s₁.heap.Ns mainGlobals mg) (hb : s₁.heap.Ns builtinsNs mb) (hbb : ∀ x : Str, x ≠ "__name__" → mb x = bootBuiltins x) (hlim : s₁.heap.NoLimit) (hg : s₁.gens = #[])
    (ha : s₁.heap.get? a = some { cls := .type "list", data := .seq vs.toArray }) (hi : IntsAre vs ns) (hl : ns.length ≤ sizeLine) (hr : Room k callerA)
    (F : ∀ base : Heap, K.In base → base.Ns mainGlobals mg → FnG P w K mg base k fa fd [x] sp) (hbind : ∀ (s : Shared) (u : Value), BindsTo s fd ⟨[u], []⟩ [(x, u)])
    (hsp : ∀ H : Hp, Only H → SqL K H a (ns.map V.int) → sp [.ref a] H (fun v _ => v = .bl true) fun _ _ _ => False) :
    codeAny (model P w) callerA (.call (.ref fa) ⟨[.ref a], []⟩) (fun r s' => r = .ok (.ret (.bool true)) ∧ OldK s₁.heap s'.heap ∧ s'.os = s₁.os ∧ AllBare s'.gens) s₁ := by
  have rv := vals_ints hi
  have run : ∀ H : Hp, Only H → SqL K H a (ns.map V.int) → HOk P w H s₁.heap → (∀ b u, H b = some u → b = a ∧ K.lookup a = none) →
      codeAny (model P w) callerA (.call (.ref fa) ⟨[.ref a], []⟩) (fun r s' => r = .ok (.ret (.bool true)) ∧ OldK s₁.heap s'.heap ∧ s'.os = s₁.os ∧ AllBare s'.gens) s₁ := by
    intro H hO hS hok hA
    have none_of : ∀ b : Addr, (b = a → K.lookup a ≠ none) → H b = none := fun b hb => by
      cases q : H b with
      | none => rfl
      | some u =>
        obtain ⟨e1, e2⟩ := hA b u q
        exact absurd e2 (hb e1)
    have ns_of : ∀ {b : Addr} {m : Str → Option Value}, s₁.heap.Ns b m → (hidT s₁.heap H).Ns b m := fun {b m} hm => by
      obtain ⟨o, es, ep, e, d, r⟩ := hm
      refine ⟨o, es, ep, hidT_get e ?_, d, r⟩
      cases q : H b with
      | none => rfl
      | some u =>
        obtain ⟨e1, _⟩ := hA b u q
        rw [e1, ha] at e
        cases e
        exact absurd d (by intro z; cases z)
    have kb : K.In (hidT s₁.heap H) := fun b o e => hidT_get (kin b o e) (none_of b fun e1 z => by
      rw [e1, z] at e
      cases e)
    have hM : Mod K mg (hidT s₁.heap H) := ⟨kb, ns_of hns, ⟨mb, ns_of hb, hbb⟩, hlim.elim fun mc h => ⟨mc, ns_of h.1, h.2⟩⟩
    have e0 : Env0 P w K mg (hidT s₁.heap H) callerA [] s₁ H := ⟨rfl, hM, fun _ _ e => of_hidT e, by rw [hidT_size] <;> exact Nat.le_refl _, trivial, fun _ hb => (nomatch hb), hok, .of_eq hg⟩
    refine codeAny_mono ((F _ kb (ns_of hns)).go rfl hr e0 (us := [.ref a]) (hbind s₁ (.ref a)) (vs := [.ref a]) (.cons rfl .nil) (hsp H hO hS)) fun r s' h => ?_
    match r, h with
    | .ok (.ret u), h =>
      obtain ⟨v, H', os, bare, un, hok', r', q⟩ := h
      cases (show v = .bl true from q)
      cases (show u = Value.bool true from r')
      refine ⟨rfl, OldK.of_keep fun b o e => ?_, os, bare⟩
      rcases hO b with z | ⟨ob, xs, z⟩
      · exact un.keep b o e z (fun y => (nomatch y)) (fun y => (nomatch y))
      · obtain ⟨e1, _⟩ := hok b _ z
        obtain ⟨e2, _⟩ := hok' b _ (un.frzs b ob _ z)
        rw [e] at e1
        cases e1
        exact e2
    | .error e, h => exact False.elim h
    | .ok .next, h => exact False.elim h
    | .ok .brk, h => exact False.elim h
    | .ok .cont, h => exact False.elim h
  cases hk : K.lookup a with
  | some o =>
    have e := kin a o hk
    rw [ha] at e
    cases e
    refine run (fun _ => none) (fun _ => .inl rfl) (.inr ⟨_, vs.toArray, _, hk, rfl, rfl, rfl, ?_, by simpa using rv⟩) (fun b u z => (nomatch z)) (fun b u z => (nomatch z))
    rw [List.size_toArray, hi.length]
    exact hl
  | none =>
    have at_a : ∀ b u, (if b = a then some (HO.frz { cls := .type "list", data := .seq vs.toArray } (.lst (ns.map V.int))) else none) = some u → b = a ∧ u = HO.frz { cls := .type "list", data := .seq vs.toArray } (.lst (ns.map V.int)) := fun b u z => by
      by_cases hb : b = a
      · rw [if_pos hb] at z
        exact ⟨hb, (Option.some.inj z).symm⟩
      · rw [if_neg hb] at z
        cases z
    refine run (fun b => if b = a then some (.frz { cls := .type "list", data := .seq vs.toArray } (.lst (ns.map V.int))) else none) (fun b => ?_) (.inl (.inr ⟨_, if_pos rfl⟩)) (fun b u z => ?_) fun b u z => ⟨(at_a b u z).1, hk⟩
    · by_cases hb : b = a
      · exact .inr ⟨_, _, if_pos hb⟩
      · exact .inl (if_neg hb)
    · obtain ⟨e1, e2⟩ := at_a b u z
      subst e1
      subst e2
      exact ⟨ha, by rw [List.length_map]; exact hl, vs, _, rv, ha⟩
theorem walk_g {l : PySem.W.OpenLaw} {n k : Nat} {q : Program} {loose : List Str} {XP : (Str → Option Value) → Heap → Prop} {YP : World → Heap → Prop} {d : DefRec} {K : Params → PySem.W.Frag} {sp : World → Sp} {x : Str}
    (hn : l.most = some n) (hn2 : n ≤ sizeLine) (hdf : d.params.defaults = []) (hr : Room k callerA) (hY : ∀ (w : World) (h : Heap), YP w h → (K w.params).In h)
    (F : ∀ (w : World) (mg : Str → Option Value) (fa : Addr) (h : Heap), (K w.params).In h → h.Ns mainGlobals mg → mg d.name = some (.ref fa) →
      ∃ fd : FuncData, (∀ (s : Shared) (u : Value), BindsTo s fd ⟨[u], []⟩ [(x, u)]) ∧ ∀ base : Heap, (K w.params).In base → base.Ns mainGlobals mg → FnG l.prog w (K w.params) mg base k fa fd [x] (sp w))
    (hsp : ∀ (w : World) (H : Hp) (a : Addr) (ns : List Int), ns.length ≤ n → Only H → SqL (K w.params) H a (ns.map V.int) → sp w [.ref a] H (fun v _ => v = .bl true) fun _ _ _ => False) :
    PySem.W.WalkO q loose XP YP l.row.toRowW d [] (fun f vs => PySem.call f vs) := by
  refine Att.attach_call hn hdf fun w s₀ s₁ mg mb fa o pm cd doc a vs ns G Y ho hd hcd hmg hobj hints hlen hg => ?_
  obtain ⟨fd, h1, h2⟩ := F w mg fa _ (hY w _ Y) G.T.g hmg
  exact law_g (hY w _ Y) G.T.g G.T.b G.T.builtins G.T.nolimit hg hobj hints (Nat.le_trans hlen hn2) hr h2 h1 fun H hO hS => hsp w H a ns hlen hO hS
end Tl
end S_Ru
section S_Su
namespace Tl
open PySem PySem.Spec PyProof.Rows L2
/-! ### a method of a class that begins with super().__init__(..) -/
/-- names of such a def: locals first, no cell, the class's own cell free -/
structure SuScope (N P : List Str) (sc : Scope) : Prop where
  kind : sc.kind = .function
  co : sc.isCoroutine = false
  gen : sc.isGenerator = false
  nd : N.Nodup
  pre : N.take P.length = P
  par : ∀ x ∈ P, sc.names.lookup x = some .local
  nocell : ∀ y ∈ sc.names, y.2 ≠ .cell
  free : ∀ y ∈ sc.names, y.2 = .free → y.1 = "__class__"
  cls : sc.names.lookup ("__class__" : Str) = some .free
  sup : sc.names.lookup ("super" : Str) = some .globalImplicit
/-- the context of such a def's body -/
def suCx (P : Program) (w : World) (K : PySem.W.Frag) (mg : Str → Option Value) (base : Heap) (N : List Str) (qual : Str) (scope : Scope) (f : Addr) (cd : Value) (cc : Addr) (A : Around) (outer : List Env) (s : Shared) (H : Hp) (E : XK) : Cx where
  prog := P
  w := w
  K := K
  mg := mg
  base := base
  A := A.deeper (PySem.W.ksEnv qual scope s.heap.objs.size f cd cc)
  N := N
  s_0 := s
  H_0 := H
  env := PySem.W.ksEnv qual scope s.heap.objs.size f cd cc
  outer := outer
  stack := PySem.W.ksEnv qual scope s.heap.objs.size f cd cc :: outer
  ex := []
  calm := true
  fn := fun _ => false
  pn := []
  xe := fun _ _ => False
theorem lookup_rev {ps : List Str} {us : List Value} (nd : ps.Nodup) {i : Nat} {y : Str} {u : Value} (h1 : ps[i]? = some y) (h2 : us[i]? = some u) : (ps.zip us).reverse.lookup y = some u := by
  have hm : (y, u) ∈ (ps.zip us).reverse := by
    rw [List.mem_reverse]
    refine List.mem_of_getElem? (i := i) ?_
    rw [List.getElem?_zip_eq_some]
    exact ⟨h1, h2⟩
  have key : ∀ (l : List (Str × Value)), (l.map (·.1)).Nodup → (y, u) ∈ l → l.lookup y = some u := by
    intro l
    induction l with
    | nil => intro _ h; cases h
    | cons p r ih =>
      intro hn h
      rw [List.map_cons, List.nodup_cons] at hn
      rcases List.mem_cons.mp h with e | e
      · rw [← e, List.lookup_cons, beq_self_eq_true]
      · have hne : y ≠ p.1 := fun z => hn.1 (z ▸ List.mem_map_of_mem (f := (·.1)) e)
        rw [List.lookup_cons, beq_eq_false_iff_ne.mpr hne]
        exact ih hn.2 e
  refine key _ ?_ hm
  rw [List.map_reverse]
  refine List.pairwise_reverse.mpr (List.Pairwise.imp (fun h => Ne.symm h) ?_)
  refine (nd.sublist ?_)
  clear hm key h1 h2 nd
  induction ps generalizing us with
  | nil => exact List.Sublist.refl _
  | cons p r ih =>
    cases us with
    | nil => exact List.nil_sublist _
    | cons v t => exact (ih (us := t)).cons₂ p
theorem su_start {P : Program} {w : World} {K : PySem.W.Frag} {mg : Str → Option Value} {base : Heap} {N ps : List Str} {qual : Str} {scope : Scope} {f cc D : Addr} {cd cl : Value} {cld : Option Addr} {csl : Array (Option Value)} {A : Around} {outer : List Env} {s : Shared} {h₁ : Heap} {tk : Nat} {H : Hp} {E : XK} {us : List Value} {vs : List V}
    (S : SuScope N ps scope) (hcell : K.lookup cc = some ⟨cl, cld, .cell (some (.ref D)), csl⟩) (hd : A.handled = none) (e0 : Env0 P w K mg base A outer s H) (hl : vs.length = ps.length) (r : Vals vs us)
    (hns : h₁.Ns s.heap.objs.size fun x => (ps.zip us).reverse.lookup x) (kp : ∀ b o, s.heap.get? b = some o → h₁.get? b = some o) :
    Inv (suCx P w K mg base N qual scope f cd cc A outer s H E) [] (L2.start N vs) H { s with heap := h₁, toks := tk } := by
  have hpl : ps.length ≤ N.length := by
    have := congrArg List.length S.pre
    rw [List.length_take] at this
    omega
  have hcc : base.get? cc = some ⟨cl, cld, .cell (some (.ref D)), csl⟩ := e0.mod.kin _ _ hcell
  have one : ∀ {y : Str} {c : Addr}, ([("__class__", cc)] : List (Str × Addr)).lookup y = some c → y = "__class__" ∧ c = cc := fun {y c} h => by
    rw [List.lookup_cons] at h
    split at h
    · rename_i e
      exact ⟨beq_iff_eq.mp e, (Option.some.inj h).symm⟩
    · cases h
  have noA : ∀ b : Addr, b ∉ (suCx P w K mg base N qual scope f cd cc A outer s H E).ex := fun b z => (nomatch (show b ∈ ([] : List Addr) from z))
  refine ⟨⟨e0.mod, S.kind, rfl, rfl, Nat.le_refl _, fun y z c h1 h2 => ?_, fun y hy => ?_, fun y c h => ?_, fun _ => hd, Around.frames_deeper e0.frames, .inr ⟨rfl, rfl⟩, fun b z => absurd z (noA b), e0.bs, e0.bsz, fun b _ _ => noA b, fun b z => absurd z (noA b), e0.funs, e0.frf⟩,
    rfl, e0.bare, Un.kept kp, ⟨_, hns, fun i y v h1 h2 h3 => ?_⟩, fun y c h => ?_, e0.hok.fresh (Nat.le_refl _), fun y c h => ?_, fun p hp => (nomatch (show p ∈ ([] : List (Addr × Obj)) from hp)), e0.hok.kept kp, ?_⟩
  · exact (one h1).1.trans (one h2).1.symm
  · have hy : scope.names.lookup y = some .cell ∨ scope.names.lookup y = some .free := hy
    rcases hy with hy | hy
    · exact absurd rfl (S.nocell _ (PySem.mem_of_lookup hy))
    · have e := S.free _ (PySem.mem_of_lookup hy) rfl
      have e : y = "__class__" := e
      subst e
      exact ⟨cc, rfl⟩
  · cases (show false = true from h)
  · have hi : i < vs.length := by
      apply Classical.byContradiction
      intro hi
      unfold L2.start at h2
      rw [List.getElem?_append_right (by simpa using hi), List.getElem?_replicate] at h2
      split at h2 <;> cases h2
    have ha : vs[i]? = some v := by
      unfold L2.start at h2
      rw [List.getElem?_append_left (by simpa using hi), List.getElem?_map] at h2
      cases e : vs[i]? with
      | none => rw [e] at h2; cases h2
      | some a => rw [e] at h2; cases h2; rfl
    obtain ⟨u, hu, rv⟩ := r.get ha
    have hp : ps[i]? = some y := by
      rw [← S.pre, List.getElem?_take_of_lt (by omega)]
      exact h1
    have ndP : ps.Nodup := by
      rw [← S.pre]
      exact S.nd.sublist (List.take_sublist _ _)
    exact ⟨u, rv, .inl ⟨S.par y (List.mem_of_getElem? hp), lookup_rev ndP hp hu⟩⟩
  · obtain ⟨_, e2⟩ := one h
    subst e2
    exact ⟨_, _, kp _ _ (e0.bs _ _ hcc).1, rfl⟩
  · obtain ⟨_, e2⟩ := one h
    subst e2
    exact (e0.bs _ _ hcc).2
  · unfold L2.start
    show _ = N.length
    rw [List.length_append, List.length_map, List.length_replicate]
    omega
/-- what is told of the class D's def: its own cell, its code's file, the class and the next def above it -/
structure SuFacts (P : Program) (K : PySem.W.Frag) (f f2 D C cc cda : Addr) (fd : FuncData) (self : Str) : Prop where
  look : ∃ (oc : Value) (od : Option Addr) (osl : Array (Option Value)), K.lookup f = some ⟨oc, od, .func fd, osl⟩
  head : ∃ ar, (fd.params.posonlyargs ++ fd.params.args).head? = some ar ∧ ar.arg = self
  code : ∃ (ccl : Value) (cdd : Option Addr) (vs : Array Value) (ccs : Array (Option Value)) (file : Str) (tf : Tok), K.lookup cda = some ⟨ccl, cdd, .fields vs, ccs⟩ ∧ vs[2]? = some (.str file tf) ∧ ((P.main.file : Str) == file) = true
  cell : ∃ (cl : Value) (cld : Option Addr) (csl : Array (Option Value)), K.lookup cc = some ⟨cl, cld, .cell (some (.ref D)), csl⟩
  clsD : ∃ cd, PySem.W.clsIn K D = some cd
  sub : PySem.W.mroIn K C (.ref D) = some true
  opq : PySem.W.nsIn K cStatics "thirdparty.any" = some none
  above : PySem.W.ks_superIn K C D "__init__" = some (some (.ref f2))
  ty : PySem.W.typeIn K (.ref f2) = some (.type "function")
  fi : PySem.W.fnIn K f2 = true
  top : (P.main.scope.names.lookup ("super" : Str)).isSome = false
  notC : PySem.W.clsIn K C ≠ none
section
variable {P : Program} {w : World} {K : PySem.W.Frag} {mg : Str → Option Value} {base : Heap}
/-- its promise: first what stands in the arguments, then the def above, then the rest of the body -/
theorem fn_super {f f2 D C cc cda : Addr} {name qual : Str} {params : Arguments} {scope : Scope} {dV kV doc pm ct : Value} {an : Option Addr} {N ps : List Str} {self : Str} {k : Nat} {sp sp2 : Sp} {e1 : Expr} {es : List Expr} {rest : List Stmt} {p0 p1 apos pos spos : Pos}
    (B : SuFacts P K f f2 D C cc cda (PySem.W.ksFn name qual params (.Expr (.Call (.Attribute (.Call (.Name "super" p0) [] [] p1) "__init__" apos) (e1 :: es) [] pos) spos :: rest) scope dV kV doc pm an (.ref cda) ct cc) self)
    (hcd : PySem.W.codeIn K (.ref cda) qual = true) (S : SuScope N ps scope) (h0 : ps[0]? = some self) (ms : mg "super" = none)
    (F2 : FnR P w K mg base CX0 k f2 sp2) (len : ∀ {vs H Q E}, sp vs H Q E → vs.length = ps.length)
    (hbody : ∀ (A : Around) (outer : List Env) (s : Shared) (H : Hp) (vs : List V) (Q : VK) (E : XK), Room k (A.deeper (PySem.W.ksEnv qual scope s.heap.objs.size f (.ref cda) cc)) → sp vs H Q E →
      ∃ ta t x dx fs, PA (suCx P w K mg base N qual scope f (.ref cda) cc A outer s H E) (e1 :: es) ta ∧ PSs (suCx P w K mg base N qual scope f (.ref cda) cc A outer s H E) rest t ∧ vs[0]? = some (.ref x) ∧ H x = some (.ins C dx fs) ∧
        ∀ q, H q = none → ta (L2.start N vs) (upd H q (.met f2 x)) fun us H1 => H1 q = some (.met f2 x) ∧ sp2 (.ref x :: us) H1 (fun _ H2 => t { nx := fun _ H' => Q .non H', rt := Q } (L2.start N vs) H2) E0)
    {pl : Sem Bool} (hev : ∀ env : Env, eval (.Call (.Attribute (.Call (.Name "super" p0) [] [] p1) "__init__" apos) (e1 :: es) [] pos) env = (do
      let ov ← attributeBase (.Call (.Name "super" p0) [] [] p1) "__init__" env (eval (.Call (.Name "super" p0) [] [] p1) env)
      standAt apos.atName
      let (f, first) ← holding [ov] (getMethod ov "__init__" pl)
      callWith pos f first (backTo pos (starEach (e1 :: es) env)) []))
    (hsw : ∀ env : Env, swapsWith (.Call (.Attribute (.Call (.Name "super" p0) [] [] p1) "__init__" apos) (e1 :: es) [] pos) none spos.line env = pure false)
    (hst : ∀ env : Env, starEach (e1 :: es) env = (false, eval e1 env) :: starEach es env) (hpl : ∀ env : Env, ((backTo pos (starEach (e1 :: es) env)).any (·.1) || (backToKw pos (keywordEach [] env)).any (·.1.isNone)) = false) :
    FnOk P w K mg base CX0 (k + 1) f (PySem.W.ksFn name qual params (.Expr (.Call (.Attribute (.Call (.Name "super" p0) [] [] p1) "__init__" apos) (e1 :: es) [] pos) spos :: rest) scope dV kV doc pm an (.ref cda) ct cc) ps sp := by
  obtain ⟨⟨oc, od, osl, lk⟩, ⟨ar, har, hself⟩, ⟨ccl, cdd, cvs, ccs, file, tf, lkc, hvs, hfile⟩, ⟨cl, cld, csl, lkcell⟩, ⟨cdD, hclsD⟩, hsub, hopq, habove, hty, hfi, htop, hnotC⟩ := B
  refine ⟨fun _ _ _ _ h => len h, fun A outer s H args us vs Q E hr e0 hb r hsp => ?_⟩
  have kin : K.In s.heap := e0.mod.kin.keeps fun b o e => (e0.bs b o e).1
  have nl : s.heap.NoLimit := e0.mod.nolimit.keeps fun b o e => (e0.bs b o e).1
  have hl := len hsp
  refine ks_codeAny_call_defAt (fd := PySem.W.ksFn name qual params _ scope dV kV doc pm an (.ref cda) ct cc) (binds := ps.zip us) hr.depth (kin _ _ lk) rfl nl (PySem.W.codeRec_of kin hcd) rfl hb (fun y hy => S.nocell y hy) (fun y hy => S.par y.1 (List.of_mem_zip (a := y.1) (b := y.2) hy).1) (fun h₁ hns kp => ?_) S.co S.gen S.kind
  obtain ⟨ta, t, x, dx, fs, ha, ht, hx0, hx, hq⟩ := hbody A outer s H vs Q E (hr.deeper _) hsp
  have I : Inv (suCx P w K mg base N qual scope f (.ref cda) cc A outer s H E) [] (L2.start N vs) H { s with heap := h₁, toks := s.toks + (ps.zip us).length } := su_start S lkcell hr.hd e0 hl r hns kp
  have kin1 : K.In h₁ := I.kIn
  obtain ⟨oD, hD1, hD2⟩ : ∃ oD, h₁.get? D = some oD ∧ oD.data = .cls cdD := by
    unfold PySem.W.clsIn at hclsD
    split at hclsD
    · rename_i ho
      cases hclsD
      exact ⟨_, kin1 _ _ ho, rfl⟩
    · cases hclsD
  obtain ⟨mA, O, _⟩ := ins_get I.hok hx
  obtain ⟨u0, hu0, ru0⟩ := r.get hx0
  cases (show u0 = Value.ref x from ru0)
  have hsv : (ps.zip us).reverse.lookup ar.arg = some (.ref x) := by
    rw [hself]
    refine lookup_rev ?_ h0 hu0
    rw [← S.pre]
    exact S.nd.sublist (List.take_sublist _ _)
  have hsl : scope.names.lookup ar.arg = some .local := by
    rw [hself]
    exact S.par _ (List.mem_of_getElem? h0)
  have hxC : x ≠ C := by
    intro e
    cases hcl : PySem.W.clsIn K C with
    | none => exact hnotC hcl
    | some cdC =>
      unfold PySem.W.clsIn at hcl
      split at hcl
      · rename_i ho
        have e2 := kin1 _ _ ho
        rw [← e, O.obj] at e2
        cases e2
      · cases hcl
  obtain ⟨mb, hnb, hbb⟩ := I.ok.mod.blt
  refine ks_wpAt_execs_cons (ks_wpAt_Expr_any (ks_wpAt_MethodCall (pl := pl) (ks_wpAt_super_base (env := PySem.W.ksEnv qual scope s.heap.objs.size f (.ref cda) cc) S.sup S.cls (by decide) rfl (kin1 _ _ lk) rfl har rfl (kin1 _ _ lkc) rfl hvs hfile htop ?_) (hev _)) I.quiet (hsw _))
  refine PySem.W.ks_loadName_global S.kind S.sup (PySem.Calls.loadGlobal_builtin (env := PySem.W.ksEnv qual scope s.heap.objs.size f (.ref cda) cc) (I.ok.mod.glob.keeps I.bk) ms (hnb.keeps I.bk) ((hbb _ (by decide +kernel)).trans (by decide +kernel)) ⟨rfl, ?_⟩)
  refine wpAny_loadName_free S.kind S.cls rfl ⟨_, kin1 _ _ lkcell, rfl⟩ ?_
  refine wpAny_loadName_local S.kind hsl hns hsv ?_
  refine ks_wpAny_isType_cls hD1 hD2 ⟨rfl, ?_⟩
  refine ks_wpAny_call_super hD1 hD2 O.obj rfl (fun c e => by cases e) (PySem.W.looks_mroIn kin1 hsub) (fun h2 e2 k2 => ?_)
  have I2 := I.kept (t' := s.toks + (ps.zip us).length) k2
  have kin2 : K.In h2 := I2.kIn
  obtain ⟨of, hof, hofc⟩ : ∃ of, h2.get? f2 = some of ∧ of.cls = .type "function" := by
    have ht' : (K.lookup f2).map (·.cls) = some (.type "function") := hty
    cases z : K.lookup f2 with
    | none => rw [z] at ht'; cases ht'
    | some of => rw [z] at ht'; exact ⟨of, kin2 _ _ z, Option.some.inj ht'⟩
  cases hcl : PySem.W.clsIn K C with
  | none => exact absurd hcl hnotC
  | some cdC =>
    unfold PySem.W.ks_superIn at habove
    rw [hcl] at habove
    refine ks_wpAny_getMethod_super e2 (PySem.W.looks_opaque kin2 hopq) (l₀ := cdC.mro) (fun A Q E s k q => wpAny_bind ((PySem.W.looks_clsIn kin2 hcl) A _ E s k (wpAny_pure q))) rfl kin2 habove hof hofc hxC (by decide) ?_
    have hfree : H h2.objs.size = none := I2.hok.fresh (Nat.le_refl _)
    have I3 := I2.laid (a := h2.objs.size) (o := .met f2 x) (h' := h2.push { cls := .type "method", data := .fields #[.ref f2, .ref x] }) (t' := s.toks + (ps.zip us).length + 1) (fun b u e => Heap.get?_push_of_some _ e) (Nat.le_refl _) (Heap.get?_push_size _ rfl)
    have hx3 := hq _ hfree
    refine callwith_met (X := suCx P w K mg base N qual scope f (.ref cda) cc A outer s H E) (a := x) (hpl _) hfi ?_
    rw [hst]
    refine Calls.evalArgs_plain ?_
    have hrun := ha.run pos [] _ (L2.start N vs) _ _ I3 hx3
    rw [hst] at hrun
    refine wpAny_mono hrun (fun us4 s4 h4 => ?_) fun _ _ z => z.elim
    obtain ⟨vs4, H4, I4, rv4, hm4, hsp4⟩ := h4
    have hr4 : Room k (suCx P w K mg base N qual scope f (.ref cda) cc A outer s H E).A := hr.deeper _
    refine ⟨met_P I4 hm4, wpAny_call (PySem.W.method_call (met_P I4 hm4).1 (codeAny_mono (run_fnR (X := suCx P w K mg base N qual scope f (.ref cda) cc A outer s H E) (vs := V.ref x :: vs4) (us := Value.ref x :: us4) F2 hr4 pass0 I4 (.cons rfl rv4) hsp4) fun r5 s5 h5 => ?_))⟩
    match r5, h5 with
    | .ok (.ret u), h5 =>
      obtain ⟨v5, H5, I5, _, q5⟩ := h5
      refine wpAt_of_wpAny (wpAny_mono (ht.run [] s5 _ H5 _ I5 q5) (fun fl s' hs => ?_) fun _ _ z => z.elim)
      cases fl with
      | ret u =>
        obtain ⟨v, σ', H', J, rv, q⟩ := hs
        exact ⟨v, H', J.os, J.bare, J.base, J.hok, rv, q⟩
      | next =>
        obtain ⟨σ', H', J, q⟩ := hs
        exact ⟨.non, H', J.os, J.bare, J.base, J.hok, rfl, q⟩
      | brk => exact hs.elim fun _ h => h.elim fun _ h => h.2.elim
      | cont => exact hs.elim fun _ h => h.elim fun _ h => h.2.elim
    | .error e, h5 => exact False.elim h5
    | .ok .next, h5 => exact False.elim h5
    | .ok .brk, h5 => exact False.elim h5
    | .ok .cont, h5 => exact False.elim h5
end
end Tl
end S_Su
section S_Bo
namespace Tl
open PySem PySem.Spec PyProof.Rows L2
theorem plain_bool_new : plainId "bool.__new__" = true := by decide +kernel
section
variable {P : Program} {w : World} {A : Around} {E : Value → Shared → Prop} {s : Shared}
theorem code_bool_new {v : Value} {Q₁ : Value → Shared → Prop} (h : wpAny (model P w) A.in1 (truthy v) (fun b s' => Q₁ (.bool b) s') E s) :
    codeAny (model P w) A (.call (.builtin "bool.__new__") ⟨[.type "bool", v], []⟩) (wants Q₁ E) s := by
  refine codeAny_of_tree ?_
  show wpAny _ A.in1 (do checkBuiltinCall "bool.__new__" ⟨[.type "bool", v], []⟩; again (.builtin "bool.__new__" ⟨[.type "bool", v], []⟩)) _ _ s
  refine wpAny_bind (wpAny_of_eq (F.newCall_bool_1 v) (wpAny_pure ⟨plainId_quiet plain_bool_new _, codeAny_builtin F.entry_bool_new ?_⟩))
  rw [Around.under_plainId plain_bool_new _]
  unfold Builtin.«bool.__new__»
  have f1 := F.conv_sub_bool
  obtain ⟨hp, g, d, tk, os⟩ := s
  wp_walk
  show wpAny (model P w) A.in1 (truthy v) _ _ _
  exact wpAny_mono h (fun b s' hb => wpAny_pure hb) fun _ _ e => e
/-- bool(v), by what truth gives -/
theorem call_bool_by {v : Value} {Q : Value → Shared → Prop} (h : wpAny (model P w) A.in1.in1 (truthy v) (fun b s' => Q (.bool b) s') E s) : wpAny (model P w) A (call (.type "bool") [v]) Q E s := by
  refine callType_codes (Q₁ := fun obj s₁ => (∃ b, obj = .bool b) ∧ Q obj s₁) F.called_bool (F.typeCall_bool_1 v) F.entry_object_init (code_bool_new (wpAny_mono h (fun b s' hb => ⟨⟨b, rfl⟩, hb⟩) fun _ _ e => e)) fun obj s₁ hq => ?_
  obtain ⟨⟨b, rfl⟩, hq⟩ := hq
  exact ⟨PySem.typeIs_bool _ _, F.args_object_init_2 _ v, object_init_meets F.called_bool.init.lookup F.called_bool.made F.newNe_bool P w A.in1 _ s₁ ⟨PySem.typeIs_bool _ _, rfl, hq⟩⟩
end
/-- bool(o) of an instance whose class has its own __bool__ at f -/
theorem call_boolO {X : Cx} {CX : CXT} {k : Nat} {C f : Addr} {fd : FuncData} {ps : List Str} {sp : Sp} {E : XK} (F : FnOk X.prog X.w X.K X.mg X.base CX k f fd ps sp) (hr : Room (k + 2) X.A) (hb : Binds X.K fd ps []) (hx : Passes CX X E)
    (hs : PySem.W.findIn X.K (.ref C) "__bool__" = some (some (.ref f))) (hf : PySem.W.isFn X.K (.ref f) = true) :
    CallR X (.type "bool") (fun xs H Q => ∃ a dx fs, xs = [.ref a] ∧ H a = some (.ins C dx fs) ∧ sp [.ref a] H (fun v H1 => ∃ b, v = .bl b ∧ Q (.bl b) H1) E) := by
  intro pins s σ H xs us Q I r h
  obtain ⟨a, dx, fs, rfl, ha, hsp⟩ := h
  obtain rfl := Vals.ref1 r
  obtain ⟨mA, O, _⟩ := ins_get I.hok ha
  obtain ⟨od, J, _⟩ := O.look
  obtain ⟨m, hF⟩ := I.fr
  refine call_bool_by (PySem.W.truthy_K hF I.ok.mod.kin J hs hf ?_)
  have hl := F.len _ _ _ _ hsp
  have r2 : Vals [V.ref a] [Value.ref a] := .cons rfl .nil
  refine wpAny_call (codeAny_mono (F.run X.A.in1.in1 X.stack s H ⟨[.ref a], []⟩ [.ref a] [.ref a] _ E hr.in1.in1 I.env0.in1.in1 (by
    have := hb s [.ref a] I.kIn (by simpa using hl)
    simpa using this) r2 hsp) fun r s' hq => ?_)
  match r, hq with
  | .error e, hq => exact hx pins σ H s e s' I hq
  | .ok (.ret u), hq =>
    obtain ⟨z, H', I', rz, b, ez, q⟩ := I.after hq
    subst ez
    cases rz
    exact ⟨.bl b, H', I', rfl, q⟩
  | .ok .next, hq => exact False.elim hq
  | .ok .brk, hq => exact False.elim hq
  | .ok .cont, hq => exact False.elim hq
end Tl
end S_Bo
section S_Zp
namespace Tl
open PySem PySem.Spec PyProof.Rows L2
/-! ### dict(zip(t, u)) of two tuples -/
/-- what one asks of an iterator at i: it gives v, from S to S'; it ends in S -/
abbrev Gives1 (P : Program) (w : World) (i : Addr) (v : Value) (S S' : Heap → Prop) : Prop := ∀ (A : Around) (E : Value → Shared → Prop) (s : Shared) (Q : Value → Shared → Prop), S s.heap →
  (∀ h', S' h' → Heap.SameBut i s.heap h' → Q v { s with heap := h' }) → wpAny (model P w) A (Builtin.SmallTypes.nextOf (.ref i)) Q E s
abbrev Ends1 (P : Program) (w : World) (i : Addr) (S : Heap → Prop) : Prop := ∀ (A : Around) (E : Value → Shared → Prop) (s : Shared) (Q : Value → Shared → Prop), A.handled = none → S s.heap →
  (∀ h' e, Heap.ExtBut i s.heap h' → (∃ o, h'.get? e = some o ∧ o.cls = .type "StopIteration") → E (.ref e) { s with heap := h' }) → wpAny (model P w) A (Builtin.SmallTypes.nextOf (.ref i)) Q E s
/-- it stays where one object alone changes -/
abbrev Off (b : Addr) (S : Heap → Prop) : Prop := ∀ h h', Heap.SameBut b h h' → S h → S h'
section
variable {P : Program} {w : World} {A : Around} {E : Value → Shared → Prop} {s : Shared}
theorem held_item {z TI TO T i1 i2 : Addr} {f : Bool} {oT : Obj} {x y : Value} {S1 S1' S2 S2' : Heap → Prop} {Q : Value → Shared → Prop} (hz : IsZipHeld s.heap z TI TO T f) (hT : s.heap.get? T = some oT) (hTI : IsPair s.heap TI (.ref i1) (.ref i2)) (z1 : i1 ≠ z) (z2 : i2 ≠ z)
    (n1 : Gives1 P w i1 x S1 S1') (n2 : Gives1 P w i2 y S2 S2') (s1 : S1 s.heap) (s2 : S2 s.heap) (o1 : Off z S1) (o2 : Off z S2) (o21 : Off i1 S2) (o12 : Off i2 S1')
    (hQ : ∀ h', IsZipHeld h' z TI TO T true → S1' h' → S2' h' → h'.objs.size = s.heap.objs.size → (∀ c o, c ≠ z → c ≠ i1 → c ≠ i2 → s.heap.get? c = some o → h'.get? c = some o) →
      Q (.ref h'.objs.size) { s with heap := h'.push { cls := .type "tuple", data := .seq #[x, y] } }) :
    wpAny (model P w) A (Builtin.«zip.__next__» ⟨[.ref z], []⟩) (fun fin s' => ∃ v, fin = .done (.ret v) ∧ Q v s') E s := by
  show wpAny _ _ (field (.ref z) 2 >>= _) _ _ _
  refine wpAny_bind (wpAny_field hz rfl (x := .bool false) rfl (show wpAny _ _ (field (.ref z) 3 >>= _) _ _ _ from wpAny_bind (wpAny_field hz rfl (x := .ref TI) rfl (wpAny_bind (wpAny_seqItems hTI rfl ?_)))))
  show wpAny _ _ (Builtin.SmallTypes.ownedTupleIsFree (.ref z) >>= _) _ _ _
  refine wpAny_bind (wpAny_tupleHeld_zip hz hT fun ha hza sa => ?_)
  simp only [Bool.false_eq_true, if_false]
  refine wpAny_bind ?_
  rw [← Array.forIn_toList]
  simp only [List.forIn_cons, List.forIn_nil]
  refine wpAny_bind (wpAny_bind (wpAny_holding (show wpAny _ _ (Builtin.SmallTypes.nextOf (.ref i1) >>= _) _ _ _ from wpAny_bind (n1 _ _ { s with heap := ha } _ (o1 _ _ sa s1) fun hb sb1 sb => wpAny_pure (wpAny_pure ?_)))))
  refine wpAny_bind (wpAny_bind (wpAny_holding (show wpAny _ _ (Builtin.SmallTypes.nextOf (.ref i2) >>= _) _ _ _ from wpAny_bind (n2 _ _ { s with heap := hb } _ (o21 _ _ sb (o2 _ _ sa s2)) fun hc sc2 sc => wpAny_pure (wpAny_pure (wpAny_pure ?_))))))
  refine (show wpAny _ _ (newTuple [x, y] >>= _) _ _ _ from wpAny_bind (wpAny_newTuple (wpAny_pure ⟨_, rfl, ?_⟩)))
  exact hQ hc (sc.extBut _ _ z2.symm (sb.extBut _ _ z1.symm hza)) (o12 _ _ sc sb1) sc2 (by rw [sc.1, sb.1, sa.1]) fun c o c1 c2 c3 e => sc.extBut _ _ c3 (sb.extBut _ _ c2 (sa.extBut _ _ c1 e))
/-- the first one ends -/
theorem held_end {z TI TO T i1 i2 : Addr} {f : Bool} {oT : Obj} {S1 : Heap → Prop} {Q : Fin → Shared → Prop} (hh : A.handled = none) (hz : IsZipHeld s.heap z TI TO T f) (hT : s.heap.get? T = some oT) (hTI : IsPair s.heap TI (.ref i1) (.ref i2))
    (n1 : Ends1 P w i1 S1) (s1 : S1 s.heap) (o1 : Off z S1) (hE : ∀ h' e, (∀ c o, c ≠ z → c ≠ i1 → s.heap.get? c = some o → h'.get? c = some o) → (∃ o, h'.get? e = some o ∧ o.cls = .type "StopIteration") → E (.ref e) { s with heap := h' }) :
    wpAny (model P w) A (Builtin.«zip.__next__» ⟨[.ref z], []⟩) Q E s := by
  show wpAny _ _ (field (.ref z) 2 >>= _) _ _ _
  refine wpAny_bind (wpAny_field hz rfl (x := .bool false) rfl (show wpAny _ _ (field (.ref z) 3 >>= _) _ _ _ from wpAny_bind (wpAny_field hz rfl (x := .ref TI) rfl (wpAny_bind (wpAny_seqItems hTI rfl ?_)))))
  show wpAny _ _ (Builtin.SmallTypes.ownedTupleIsFree (.ref z) >>= _) _ _ _
  refine wpAny_bind (wpAny_tupleHeld_zip hz hT fun ha hza sa => ?_)
  simp only [Bool.false_eq_true, if_false]
  refine wpAny_bind ?_
  rw [← Array.forIn_toList]
  simp only [List.forIn_cons, List.forIn_nil]
  refine wpAny_bind (wpAny_bind (wpAny_holding (show wpAny _ _ (Builtin.SmallTypes.nextOf (.ref i1) >>= _) _ _ _ from wpAny_bind (n1 _ _ { s with heap := ha } _ hh (o1 _ _ sa s1) fun hb e sb he => ?_))))
  exact hE hb e (fun c o c1 c2 q => sb _ _ c2 (sa.extBut _ _ c1 q)) he
theorem next_by {z : Addr} {Q : Option Value → Shared → Prop} (hTy : s.TypeIs (.ref z) "zip") (h : wpAny (model P w) A.in1 (Builtin.«zip.__next__» ⟨[.ref z], []⟩) (fun fin s' => ∃ v, fin = .done (.ret v) ∧ Q (some v) s') (fun e s' => (∃ a o, e = .ref a ∧ s'.heap.get? a = some o ∧ o.cls = .type "StopIteration") ∧ Q none s') s) :
    wpAny (model P w) A (pyNext (.ref z)) Q E s := by
  unfold pyNext
  refine wpAny_bind (wpAny_attempt (wpAny_callSpecial?_slot (name := Str.ofString "__next__") hTy F.slot_zip_next (wpAny_call_entry F.slot_zip_next hTy F.entry_zip_next (wpAny_mono h (fun fin s' hf => ?_) fun e s' he => ?_) (F.args_zip_next_1 _))))
  · obtain ⟨v, rfl, hq⟩ := hf
    exact ⟨v, rfl, wpAny_pure hq⟩
  · obtain ⟨⟨a, o, rfl, ho, hc⟩, hq⟩ := he
    exact wpAny_bind (wpAny_isInstance (T := "StopIteration") (b := true) ⟨o, ho, hc⟩ isSubtype_stop (wpAny_pure hq))
end
/-- such an iterator of a tuple -/
abbrev TI1 (i l : Addr) (xs : Array Value) (k : Nat) (h : Heap) : Prop := h.IsTupleIter i l k ∧ h.IsTuple l xs
theorem ti_gives {P : Program} {w : World} {i l : Addr} {xs : Array Value} {k : Nat} {v : Value} (hne : l ≠ i) (hv : xs[k]? = some v) : Gives1 P w i v (TI1 i l xs k) (TI1 i l xs (k + 1)) := fun A E s Q hs hq =>
  RZ.nextOf_tuple_item hs.1 hs.2 hv fun h' a b => hq h' ⟨a, hs.2.extBut b.extBut hne⟩ b
theorem ti_ends {P : Program} {w : World} {i l : Addr} {xs : Array Value} {k : Nat} (hv : xs[k]? = none) : Ends1 P w i (TI1 i l xs k) := fun A E s Q hh hs hq => RZ.nextOf_tuple_end hh hs.1 hs.2 hv hq
theorem ti_off {b i l : Addr} {xs : Array Value} {k : Nat} (h1 : i ≠ b) (h2 : l ≠ b) : Off b (TI1 i l xs k) := fun h h' sb hs => ⟨hs.1.extBut sb.extBut h1, hs.2.extBut sb.extBut h2⟩
theorem ti_at {i l : Addr} {xs : Array Value} {k : Nat} {h h' : Heap} (hs : TI1 i l xs k h) (h1 : ∀ o, h.get? i = some o → h'.get? i = some o) (h2 : ∀ o, h.get? l = some o → h'.get? l = some o) : TI1 i l xs k h' := ⟨hs.1.at h1, hs.2.at h2⟩
/-- what stands where the zip of two tuples was made -/
def ZOk (z TI TO i1 i2 l1 l2 : Addr) (xs ys : Array Value) (h : Heap) : Prop := IsZip h z TI TO .none ∧ IsPair h TI (.ref i1) (.ref i2) ∧ (∃ a b, IsPair h TO a b) ∧ TI1 i1 l1 xs 0 h ∧ TI1 i2 l2 ys 0 h
/-- what stands at turn k, while a dict is filled at d -/
def ZSt (z TI TO i1 i2 l1 l2 : Addr) (xs ys : Array Value) (d : Addr) (k : Nat) (h : Heap) : Prop := IsPair h TI (.ref i1) (.ref i2) ∧ TI1 i1 l1 xs k h ∧ TI1 i2 l2 ys k h ∧
  ((IsZip h z TI TO .none ∧ ∃ a b, IsPair h TO a b) ∨ ∃ T f oT, IsZipHeld h z TI TO T f ∧ h.get? T = some oT ∧ T ≠ z ∧ T ≠ i1 ∧ T ≠ i2 ∧ T ≠ d)
theorem pair_arg_zip {P : Program} {w : World} {z TI TO i1 i2 l1 l2 : Addr} (D : ZipApart z TI TO i1 i2 l1 l2) {xs ys : Array Value} (hsz : ys.size = xs.size) :
    PairArg P w "zip" z [z, TI, TO, i1, i2, l1, l2] [z, TO, i1, i2] xs.size (fun i k v => xs[i]? = some k ∧ ys[i]? = some v) (ZOk z TI TO i1 i2 l1 l2 xs ys) := by
  refine { type := fun s ok => ⟨_, ok.1, rfl⟩, notDict := by decide, keep := fun h h' ok hk => ?_, there := fun h ok b hb => ?_, sub := fun b hb => ?_, noKeys := fun A s Q E hA ok h => getAttrOr_miss_zip ok.1 rfl rfl rfl zip_no_keys (by decide +kernel) hA h, iter := fun A s d Q E hA ok hd hdf h => ?_ }
  · obtain ⟨a1, a2, ⟨x, y, a3⟩, a4, a5⟩ := ok
    exact ⟨hk _ _ a1, hk _ _ a2, ⟨x, y, hk _ _ a3⟩, ti_at a4 (fun o => hk _ o) (fun o => hk _ o), ti_at a5 (fun o => hk _ o) fun o => hk _ o⟩
  · obtain ⟨a1, a2, ⟨x, y, a3⟩, ⟨⟨o1, b1, _⟩, ⟨o2, b2, _⟩⟩, ⟨⟨o3, b3, _⟩, ⟨o4, b4, _⟩⟩⟩ := ok
    simp only [List.mem_cons, List.not_mem_nil, or_false] at hb
    rcases hb with e | e | e | e | e | e | e <;> subst e <;> first | exact ⟨_, a1⟩ | exact ⟨_, a2⟩ | exact ⟨_, a3⟩ | exact ⟨_, b1⟩ | exact ⟨_, b2⟩ | exact ⟨_, b3⟩ | exact ⟨_, b4⟩
  · simp only [List.mem_cons, List.not_mem_nil, or_false] at hb ⊢
    rcases hb with e | e | e | e <;> simp [e]
  · obtain ⟨a1, a2, a3, a4, a5⟩ := ok
    simp only [List.mem_cons, List.not_mem_nil, or_false, not_or] at hdf
    obtain ⟨dz, dTI, dTO, di1, di2, dl1, dl2⟩ := hdf
    refine wpAny_pyIter_zip a1 (h z [z, TO, i1, i2] (ZSt z TI TO i1 i2 l1 l2 xs ys d) s.heap s.toks ?_ ⟨a2, a4, a5, .inl ⟨a1, a3⟩⟩ (fun _ _ e => e) fun b hb => .inl hb)
    refine { off := fun hm => ?_, frame := fun i g g' st hk => ?_, item := fun i s1 Q1 E1 hi st hds hQ => ?_, done := fun s1 Q1 E1 st hQ => ?_ }
    · simp only [List.mem_cons, List.not_mem_nil, or_false] at hm
      rcases hm with e | e | e | e
      · exact dz e
      · exact dTO e
      · exact di1 e
      · exact di2 e
    · obtain ⟨b1, b2, b3, b4⟩ := st
      refine ⟨hk _ _ (Ne.symm dTI) b1, ti_at b2 (fun o => hk _ o (Ne.symm di1)) (fun o => hk _ o (Ne.symm dl1)), ti_at b3 (fun o => hk _ o (Ne.symm di2)) (fun o => hk _ o (Ne.symm dl2)), ?_⟩
      rcases b4 with ⟨c1, x, y, c2⟩ | ⟨T, f, oT, c1, c2, c3, c4, c5, c6⟩
      · exact .inl ⟨hk _ _ (Ne.symm dz) c1, x, y, hk _ _ (Ne.symm dTO) c2⟩
      · exact .inr ⟨T, f, oT, hk _ _ (Ne.symm dz) c1, hk _ _ c6 c2, c3, c4, c5, c6⟩
    · obtain ⟨b1, b2, b3, b4⟩ := st
      have ex := Array.getElem?_eq_getElem (xs := xs) hi
      have ey := Array.getElem?_eq_getElem (xs := ys) (i := i) (by omega)
      have lt : ∀ {c : Addr} {o : Obj}, s1.heap.get? c = some o → s1.heap.objs.size ≠ c := fun e => Nat.ne_of_gt (Heap.lt_size e)
      have m1 : s1.heap.objs.size ≠ i1 := b2.1.elim fun _ e => lt e.1
      have m2 : s1.heap.objs.size ≠ i2 := b3.1.elim fun _ e => lt e.1
      rcases b4 with ⟨c1, x, y, c2⟩ | ⟨T, f, oT, c1, c2, c3, c4, c5, c6⟩
      · refine RZ.pyNext_zipT_item D c1 b1 c2 b2.1 b3.1 b2.2 b3.2 ex ey fun g' e1 e2 e3 e4 e5 _ hk => ?_
        refine hQ s1.heap.objs.size _ _ g' s1.toks ⟨ex, ey⟩ (.inl ⟨_, e5, rfl, _, rfl⟩) ⟨hk _ _ D.TIz D.TITO D.TIi1 D.TIi2 b1, ⟨e3, b2.2.at fun o => hk _ o D.l1z D.l1TO D.l1i1 D.l1i2⟩, ⟨e4, b3.2.at fun o => hk _ o D.l2z D.l2TO D.l2i1 D.l2i2⟩, .inr ⟨s1.heap.objs.size, false, _, e1, e5, lt c1, m1, m2, Nat.ne_of_gt hds⟩⟩ fun c o hc e => ?_
        simp only [List.mem_cons, List.not_mem_nil, or_false, not_or] at hc
        exact hk c o hc.1 hc.2.1 hc.2.2.1 hc.2.2.2 e
      · refine next_by ⟨_, c1, rfl⟩ (wpAny_mono (held_item c1 c2 b1 D.i1z D.i2z (ti_gives D.l1i1 ex) (ti_gives D.l2i2 ey) b2 b3 (ti_off D.i1z D.l1z) (ti_off D.i2z D.l2z) (ti_off D.i12.symm D.l2i1) (ti_off D.i12 D.l1i2) fun g' e1 e2 e3 e4 hk => ?_) (fun _ _ q => q) fun _ _ q => q)
        have up : ∀ (c : Addr) (o : Obj), g'.get? c = some o → (g'.push { cls := .type "tuple", data := .seq #[xs[i], ys[i]] }).get? c = some o := fun c o e => Heap.get?_push_of_some _ e
        refine hQ g'.objs.size _ _ _ s1.toks ⟨ex, ey⟩ (.inl ⟨_, Heap.get?_push_size _ rfl, rfl, _, rfl⟩) ⟨up _ _ (hk _ _ D.TIz D.TIi1 D.TIi2 b1), ti_at e2 (up _) (up _), ti_at e3 (up _) (up _), .inr ⟨T, true, oT, up _ _ e1, up _ _ (hk _ _ c3 c4 c5 c2), c3, c4, c5, c6⟩⟩ fun c o hc e => ?_
        simp only [List.mem_cons, List.not_mem_nil, or_false, not_or] at hc
        exact up _ _ (hk c o hc.1 hc.2.2.1 hc.2.2.2 e)
    · obtain ⟨b1, b2, b3, b4⟩ := st
      have ex : xs[xs.size]? = none := Array.getElem?_eq_none (Nat.le_refl _)
      rcases b4 with ⟨c1, x, y, c2⟩ | ⟨T, f, oT, c1, c2, c3, c4, c5, c6⟩
      · refine RZ.pyNext_zipT_end hA D c1 b1 c2 b2.1 b3.1 b2.2 b3.2 (.inl ex) fun g' hk => hQ g' s1.toks fun c o hc e => ?_
        simp only [List.mem_cons, List.not_mem_nil, or_false, not_or] at hc
        exact hk c o hc.1 hc.2.1 hc.2.2.1 hc.2.2.2 e
      · refine next_by ⟨_, c1, rfl⟩ (wpAny_mono (held_end (S1 := TI1 i1 l1 xs xs.size) (Q := fun _ _ => False) hA c1 c2 b1 (ti_ends ex) b2 (ti_off D.i1z D.l1z) fun g' e hk he => ?_) (fun _ _ q => q.elim) fun _ _ q => q)
        obtain ⟨o, ho, hc⟩ := he
        refine ⟨⟨e, o, rfl, ho, hc⟩, hQ g' s1.toks fun c o hc e => ?_⟩
        simp only [List.mem_cons, List.not_mem_nil, or_false, not_or] at hc
        exact hk c o hc.1 hc.2.2.1 e
end Tl
end S_Zp
section S_Ya
namespace Tl
open PySem PySem.Spec PyProof.Rows L2
/-! ### sorted(t) of a tuple of ints -/
section
variable {prog : Program} {w : World} {A : Around} {E : Value → Shared → Prop} {s : Shared}
abbrev heapL (h : Heap) (zs : List Value) : Heap := (h.push (seqObj "list" #[] 0)).update h.objs.size (Obj.mapSeq (· ++ zs.toArray))
theorem collect_tup {l : Addr} {zs : List Value} {Q : List Value → Shared → Prop} (hl : s.heap.IsTuple l zs.toArray) (hz : zs.length ≤ sizeLine)
    (h : Q zs { s with heap := heapL s.heap zs }) : wpAny (model prog w) A (collect (.ref l)) Q E s := by
  obtain ⟨ob, hob, hcl, m, hdt⟩ := id hl
  unfold collect
  refine wpAny_bind (wpAny_runValue (codeAny_builtin entry_proto_collect' ?_))
  show wpAny _ _ (do again (.builtin "list.__iadd__" ⟨[← newList [], .ref l], []⟩)) _ _ s
  refine wpAny_bind (wpAny_newList (wpAny_pure ⟨Code.quiet_builtin _ (by decide +kernel), codeAny_builtin entry_list_iadd' ?_⟩))
  show wpAny _ _ (Builtin.List.listExtendWith (.ref s.heap.objs.size) (.ref l) (.ref s.heap.objs.size)) _ _ { s with heap := s.heap.push (seqObj "list" #[] 0) }
  unfold Builtin.List.listExtendWith
  have hob' : (s.heap.push (seqObj "list" #[] 0)).get? l = some ob := Heap.get?_push_of_some _ hob
  refine wpAny_bind (wpAny_typeOf (T := "tuple") ⟨ob, hob', hcl⟩ ?_)
  have h1 : (Value.type "tuple" == Value.type "list") = false := by rfl
  have h2 : (Value.type "tuple" == Value.type "tuple") = true := by rfl
  rw [if_pos (by rw [h1, h2]; simp)]
  refine wpAny_bind (listItems_at hob' hdt ?_)
  refine wpAny_bind (listItems_at (xs := #[]) (n := 0) (Heap.get?_push_size _ rfl) rfl ?_)
  rw [if_neg (by simp)]
  refine wpAny_bind (listUpdate_at (xs := #[]) (n := 0) (Heap.get?_push_size _ rfl) rfl ?_ (Nat.zero_le _) (by
    show (#[] ++ zs.toArray).size ≤ sizeLine + 1
    simp only [Array.size_append, List.size_toArray, List.length_nil]
    omega))
  refine wpAny_pure ?_
  refine (show wpAny (model prog w) A (load s.heap.objs.size >>= _) Q E { s with heap := heapL s.heap zs } from wpAny_bind (wpAny_load (get?_update_seq (Heap.get?_push_size _ rfl) _) ?_))
  show wpAny _ _ (pure ((#[] : Array Value) ++ zs.toArray).toList) Q E _
  have e : ((#[] : Array Value) ++ zs.toArray).toList = zs := by simp
  rw [e]
  exact wpAny_pure h
theorem sorted_tup {l : Addr} {zs : List Value} {lt : Value → Value → Bool} {Q : Value → Shared → Prop} (O : SrtO.Swo lt) (hl : s.heap.IsTuple l zs.toArray) (hz : zs.length ≤ sizeLine)
    (hS : 2 ≤ zs.length → ∀ (g : Heap) (a : Addr), g.get? a = some (seqObj "list" zs.toArray 0) → (∀ b o, s.heap.get? b = some o → b ≠ a ∧ g.get? b = some o) → SrtO.SortableO prog w A.in1.in1 { s with heap := g } a zs lt)
    (h : ∀ out : List Value, SrtO.Srtd lt out → SrtO.Stb lt out zs → Q (.ref (s.heap.objs.size + 1)) { s with heap := sortedAll s.heap zs out.toArray }) :
    wpAny (model prog w) A (call (.builtin "sorted") [.ref l]) Q E s := by
  refine Calls.call_function_entry kind_sorted plain_sorted entry_sorted (args_sorted1 _) ?_
  unfold Builtin.«sorted»
  refine wpAny_bind (m := checkCount "sorted" 1 1 _) (wpAny_pure (wpAny_bind (collect_tup hl hz (wpAny_bind (wpAny_newList ?_ hz)))))
  have sz : (heapL s.heap zs).objs.size = s.heap.objs.size + 1 := by
    show ((s.heap.push (seqObj "list" #[] 0)).update s.heap.objs.size (Obj.mapSeq (· ++ zs.toArray))).objs.size = _
    rw [Heap.size_update, size_push']
  have at1 : ((heapL s.heap zs).push (seqObj "list" zs.toArray 0)).get? (s.heap.objs.size + 1) = some (seqObj "list" zs.toArray 0) := by
    rw [← sz]
    exact Heap.get?_push_size _ rfl
  have up : ∀ b o, s.heap.get? b = some o → b ≠ s.heap.objs.size + 1 ∧ ((heapL s.heap zs).push (seqObj "list" zs.toArray 0)).get? b = some o := fun b o q => by
    have lt : b < s.heap.objs.size := Heap.lt_size q
    refine ⟨Nat.ne_of_lt (Nat.lt_succ_of_lt lt), Heap.get?_push_of_some _ ?_⟩
    show ((s.heap.push (seqObj "list" #[] 0)).update s.heap.objs.size (Obj.mapSeq (· ++ zs.toArray))).get? b = some o
    rw [Heap.get?_update_ne _ _ _ _ (Nat.ne_of_lt lt)]
    exact Heap.get?_push_of_some _ q
  show wpAny _ _ _ _ _ { s with heap := (heapL s.heap zs).push (seqObj "list" zs.toArray 0) }
  rw [sz]
  refine wpAny_bind (wpAny_holding (wpAny_call_entry slot_list_sort ⟨_, at1, rfl⟩ entry_list_sort (SrtO.list_sort_ord O at1 hz (fun h2 => hS h2 _ _ at1 up) fun out a b => ⟨_, rfl, ?_⟩) (args_list_sort _)))
  exact wpAny_pure ⟨_, rfl, h out a b⟩
end
def rSortedU (K : PySem.W.Frag) : List V → Hp → VK → Prop := fun vs H Q => ∃ (a : Addr) (ns : List Int), vs = [V.ref a] ∧ (SqL K H a (ns.map V.int) ∨ SqT K H a (ns.map V.int)) ∧
  ∀ (ms : List Int) (p : Addr), ms.Perm ns → ms.Pairwise (· ≤ ·) → H p = none → Q (.ref p) (upd H p (.lst (ms.map V.int)))
/-- sorted(xs) of a list or a tuple of ints -/
theorem cr_sortedU {X : Cx} : CallR X (.builtin "sorted") (rSortedU X.K) := by
  intro pins s σ H vs us Q I r h
  obtain ⟨a, ns, rfl, hs | hs, q⟩ := h
  · exact cr_sortedI pins s σ H _ us Q I r ⟨a, ns, rfl, hs, q⟩
  · obtain ⟨its, rv, hl, hz⟩ := I.tuple hs
    rw [Vals.ref1 r]
    have hi := rv.ints
    refine sorted_tup SrtO.swo_int hl (by rw [← rv.length]; exact hz) (fun h2 g b _ _ => SrtO.ints_sortable hi h2) fun out h1 h2 => ?_
    obtain ⟨k1, k2, k3⟩ := SrtO.ints_out hi h1 h2
    obtain ⟨ep, hep⟩ := PyProof.Rows.sortedAll_at s.heap its out.toArray
    have hn : ((out.map SrtO.iv).map V.int).length ≤ sizeLine := by
      rw [List.length_map] at hz ⊢
      rw [k2.length_eq]
      exact hz
    exact ⟨.ref _, upd H (s.heap.objs.size + 1) (.lst ((out.map SrtO.iv).map V.int)), I.laid (t' := s.toks) (fun _ _ => PyProof.Rows.sortedAll_old) (Nat.le_succ _) ⟨hn, out, ep, vals_of_ints k1, hep⟩, rfl, q _ _ k2 k3 (I.hok.fresh (Nat.le_succ _))⟩
/-! ### enumerate(t) of a tuple -/
set_option maxHeartbeats 1000000 in
theorem enum_new1 {v : Value} {o : Obj} {G : Heap → Prop} (B : Begins v o G) :
    Meets (Builtin.«enumerate.__new__» ⟨[.type "enumerate", v], []⟩) (fun _ R z => G z.heap ∧
      R (.ok (.ret (.ref (z.heap.push o).objs.size))) { z with heap := (z.heap.push o).push { cls := .type "enumerate", data := .fields #[.none, .bool false, .ref z.heap.objs.size, rawInt 0, .none, .none] } }) :=
  .of_wp fun pr wo Ar R z h => by
    obtain ⟨hh, ge, dd, tt, oo⟩ := z
    obtain ⟨g1, h⟩ := h
    have sb := sub_enumerate
    have it1 : ∀ {A' : Around} {E : Value → Shared → Prop} {Q : Value → Shared → Prop}, Q (.ref hh.objs.size) ⟨hh.push o, ge, dd, tt, oo⟩ → wpAny (model pr wo) A' (pyIter v) Q E ⟨hh, ge, dd, tt, oo⟩ :=
      fun q => B.iter pr wo _ _ ⟨hh, ge, dd, tt, oo⟩ _ g1 q
    wp_walk using it1
    refine wpAny_stack_any fun st => wpAny_pure ?_
    split
    · rename_i c _ _ _ _ _
      cases (c == Value.type "enumerate") <;> (wp_walk using it1; exact ⟨_, rfl, h⟩)
    · wp_walk using it1
      exact ⟨_, rfl, h⟩
section
variable {prog : Program} {w : World} {A : Around} {E : Value → Shared → Prop} {s : Shared}
theorem enum_of {v : Value} {o : Obj} {G : Heap → Prop} {Q : Value → Shared → Prop} (B : Begins v o G) (g1 : G s.heap)
    (h : ∀ g, IsEnum g (s.heap.objs.size + 1) s.heap.objs.size 0 .none → g.get? s.heap.objs.size = some o → g.objs.size = s.heap.objs.size + 2 →
      (∀ b u, s.heap.get? b = some u → g.get? b = some u) → Q (.ref (s.heap.objs.size + 1)) { s with heap := g }) :
    wpAny (model prog w) A (call (.type "enumerate") [v]) Q E s := by
  refine callType_new F.called_enumerate (by decide) (F.typeCall_enumerate_1 _) (F.newCall_enumerate_1 _) (fun obj => F.args_object_init_2 obj _) F.entry_enumerate_new (enum_new1 B) ⟨g1, ?_⟩
  have z1 : (s.heap.push o).objs.size = s.heap.objs.size + 1 := Heap.size_push ..
  show _ ∧ _
  rw [z1]
  have he : IsEnum ((s.heap.push o).push { cls := .type "enumerate", data := .fields #[.none, .bool false, .ref s.heap.objs.size, rawInt 0, .none, .none] }) (s.heap.objs.size + 1) s.heap.objs.size 0 .none := z1 ▸ Heap.get?_push_size _ rfl
  exact ⟨⟨_, he, rfl⟩, h _ he (Heap.get?_push_of_some _ (Heap.get?_push_size _ B.free)) (by rw [Heap.size_push, z1]) fun b u x => Heap.get?_push_of_some _ (Heap.get?_push_of_some _ x)⟩
end
/-- the tuple at a as it stands at each turn, each item in a new pair -/
def IteT (K : PySem.W.Frag) (a : Addr) : It :=
  ⟨fun i H => ∃ (xs : List V) (x : V), SqT K H a xs ∧ xs[i]? = some x, fun i H v H' => ∃ T x, v = .ref T ∧ H T = none ∧ H' = upd H T (.tup [.int (i : Nat), x]) ∧ ∀ xs, SqT K H a xs → xs[i]? = some x, fun i H => ∃ xs : List V, SqT K H a xs ∧ xs.length ≤ i⟩
theorem tup_ne {h : Heap} {a b l : Addr} {k : Nat} {xs : Array Value} (p : h.IsTuple a xs) (q : h.IsTupleIter b l k) : a ≠ b := fun z => by
  obtain ⟨o, ho, hc, _⟩ := p
  obtain ⟨u, hu, hd, _⟩ := q
  rw [z, hu] at ho
  cases ho
  rw [hd] at hc
  exact absurd (Value.type.inj hc) (by decide)
theorem tup_ne2 {h : Heap} {a e it : Addr} {i : Int} {old : Value} {xs : Array Value} (p : h.IsTuple a xs) (q : IsEnum h e it i old) : a ≠ e := fun z => by
  obtain ⟨o, ho, hc, _⟩ := p
  rw [z, q] at ho
  cases ho
  exact absurd (Value.type.inj hc) (by decide)
abbrev EnT (a e it : Addr) (i : Nat) (h : Heap) : Prop := (∃ old, IsEnum h e it ((i : Nat) : Int) old) ∧ h.IsTupleIter it a i ∧ e ≠ it
theorem turn_enumT {P : Program} {w : World} {K : PySem.W.Frag} {elts : List Expr} {kk : Nat} {tpos : Pos} (a e it : Addr) : Turn P w K (.Tuple elts kk tpos) (IteT K a) [e, it] e (EnT a e it) where
  mem := List.mem_cons_self
  obj := fun i h st b hb => by
    obtain ⟨⟨old, he⟩, ⟨o, ho, hc, hd⟩, _⟩ := st
    rcases List.mem_cons.mp hb with z | z
    · rw [z]; exact ⟨_, he, fun v q => nomatch q⟩
    · rw [List.mem_singleton.mp z]; exact ⟨o, ho, fun v q => by rw [hd] at q; cases q⟩
  keep := fun i h h' st k => ⟨st.1.imp fun old he => k e (by simp) _ he, st.2.1.at fun o q => k it (by simp) o q, st.2.2⟩
  item := by
    intro X hP hw hK hc i pins s σ H E I hf st hg
    subst hP hw hK
    obtain ⟨⟨old, he⟩, hit, hne⟩ := st
    obtain ⟨xs, x, hq, hx⟩ := hg
    obtain ⟨its, rv, p, hz⟩ := I.tuple hq
    obtain ⟨u, hu, ru⟩ := rv.get hx
    have hai : a ≠ it := tup_ne p hit
    have hae : a ≠ e := tup_ne2 p he
    have le : e < s.heap.objs.size := Heap.lt_size he
    have li : it < s.heap.objs.size := by obtain ⟨_, q, _⟩ := hit; exact Heap.lt_size q
    have isz : i < its.toArray.size := by simpa using (List.getElem?_eq_some_iff.mp hu).1
    refine wpAny_pyNext_enum_itemC (Draws.tuple (show X.A.in1.handled = none from I.ok.hd hc) it a hai its.toArray) he ⟨hit, p⟩ isz hne (by simp [hne, Ne.symm hae]) fun y g tk hy ho hst hT hsz hk => ?_
    have ey : y = u := by
      rw [show its.toArray[i]? = its[i]? by simp, hu] at hy
      exact (Option.some.inj hy).symm
    subst ey
    refine ⟨_, rfl, wpAny_letOwnedTupleGo_enum (s := { s with heap := g, toks := tk + 1 }) ho fun g2 he' sb => ?_⟩
    have at2 : g2.get? s.heap.objs.size = some { cls := .type "tuple", data := .seq #[.int i tk, y] } := (sb.2 _ (Nat.ne_of_gt le)).trans hT
    have new : ObjOk X.prog X.w (upd H s.heap.objs.size (.tup [.int (i : Nat), x])) g2 s.heap.objs.size (.tup [.int (i : Nat), x]) :=
      ⟨by show 2 ≤ sizeLine; decide, [.int i tk, y], .cons ⟨_, rfl⟩ (.cons ru .nil), ⟨_, at2, rfl, _, rfl⟩⟩
    have old2 : ∀ b ob, b ∉ [e, it] → s.heap.get? b = some ob → g2.get? b = some ob := fun b ob hb q =>
      (sb.2 b fun z => hb (by simp [z])).trans (hk b ob (fun z => hb (by simp [z])) (fun z => hb (by simp [z])) q)
    have I1 : Inv X pins σ (upd H s.heap.objs.size (.tup [.int (i : Nat), x])) { s with heap := g2, toks := tk + 1 } := I.turnedNew (ch := [e, it]) old2 hf (Nat.le_refl _) new
    refine ⟨.ref s.heap.objs.size, _, I1, rfl, ⟨_, x, rfl, I.hok.fresh (Nat.le_refl _), rfl, fun ys hy => by rw [I.tuple_inj hy hq]; exact hx⟩, ⟨⟨y, ?_⟩, hst.1.at fun o q => (sb.2 it (Ne.symm hne)).trans q, hne⟩, fun b hb => ?_⟩
    · show IsEnum g2 e it ((i + 1 : Nat) : Int) y
      rw [show ((i + 1 : Nat) : Int) = (i : Int) + 1 by omega]
      exact he'
    · have lb : b < s.heap.objs.size := by
        rcases List.mem_cons.mp hb with z | z
        · rw [z]; exact le
        · rw [List.mem_singleton.mp z]; exact li
      rw [upd_ne (Nat.ne_of_lt lb)]
      exact (hf b hb).1
  done := by
    intro X hP hw hK hc i pins s σ H E I hf st hg
    subst hP hw hK
    obtain ⟨⟨old, he⟩, hit, hne⟩ := st
    obtain ⟨xs, hq, hx⟩ := hg
    obtain ⟨its, rv, p, hz⟩ := I.tuple hq
    obtain ⟨f0, f1, f2, f3, f4, f5⟩ := hf it (by simp)
    have hn := rv.length
    have hai : a ≠ it := tup_ne p hit
    have D : Draws X.prog X.w X.A.in1 it [it, a] i (fun _ _ => False) (fun j h => h.IsTupleIter it a j ∧ h.IsTuple a its.toArray ∧ j = i) :=
      { live := fun _ _ st => let ⟨o, ho, _⟩ := st.1; ⟨o, ho⟩
        frame := fun _ _ _ st hk => ⟨st.1.at fun o e => hk it (by simp) o e, st.2.1.at fun o e => hk a (by simp) o e, st.2.2⟩
        item := fun j s Q E hj st _ => absurd st.2.2 (Nat.ne_of_lt hj)
        done := fun s Q E st hE => RZ.nextOf_tuple_end (show X.A.in1.handled = none from I.ok.hd hc) st.1 st.2.1 (by simp; omega) hE }
    exact wpAny_pyNext_enum_endD D he ⟨hit, p, rfl⟩ fun g eb => ⟨rfl, I.turned (t' := s.toks) (fun b o hb q => eb b o hb q) f0 f1 f3 f4 f5⟩
  self := fun A i s Q E st h => let ⟨⟨_, he⟩, _⟩ := st; wpAny_pyIter_enum he h
def iEnumT (K : PySem.W.Frag) (ta : TA) : TI := fun σ H R => ta σ H fun vs H1 => ∃ a xs, vs = [.ref a] ∧ SqT K H1 a xs ∧ R (IteT K a) H1
theorem pi_enumT {X : Cx} {e : Expr} {ta : TA} {p pos tpos : Pos} {elts : List Expr} {kk : Nat} (hg : Gl X "enumerate") (hm : X.mg "enumerate" = none) (ha : PA X [e] ta) (hs : starEach [e] X.env = [(false, eval e X.env)] := by rfl) :
    PI X (.Tuple elts kk tpos) (.Call (.Name "enumerate" p) [e] [] pos) (iEnumT X.K ta) := by
  refine ⟨fun pins s σ H R I h => ?_⟩
  refine Call_ (ld_blt I hg hm boot_enumerate (PyProof.Rows.callWith_type1 (thn (ha.run pos pins s σ H _ I h) fun us s1 hv => ?_) hs rfl))
  obtain ⟨vs, H1, I1, r1, a, xs, rfl, hq, q⟩ := hv
  obtain rfl := Vals.ref1 r1
  obtain ⟨its, rv, p', hz⟩ := I1.tuple hq
  refine enum_of (begins_tuple a its.toArray) p' fun g he hit hsz hk => wpAny_pyIter_enum he ?_
  refine ⟨s1.heap.objs.size + 1, [s1.heap.objs.size + 1, s1.heap.objs.size], _, _, H1, rfl, I1.kept (t' := s1.toks) hk, turn_enumT a (s1.heap.objs.size + 1) s1.heap.objs.size, ⟨⟨.none, he⟩, ⟨_, hit, rfl, rfl⟩, Nat.succ_ne_self _⟩, fun b hb => ?_, q⟩
  have le : s1.heap.objs.size ≤ b := by
    rcases List.mem_cons.mp hb with z | z
    · rw [z]; exact Nat.le_add_right _ _
    · rw [List.mem_singleton.mp z]; exact Nat.le_refl _
  exact I1.fpOk le (I1.hok.fresh le)
end Tl
end S_Ya
section S_Yw
namespace Tl
open PySem PySem.Spec PyProof.Rows L2
open Evl
/-! ### walks that only lay new objects -/
/-- C holds what came between A and B -/
abbrev Since (A B C : Hp) : Prop := ∀ a o, A a = none → B a = some o → C a = some o
/-- what a for walks: n turns, told by Y, as long as what stood at H stays, and what is new -/
def EvI (wi : TI) (σ : L2.St) (H : Hp) (n : Nat) (Y : Nat → Hp → V → Hp → Prop) : Prop := ∀ H1, Ex H H1 → ∀ R : It → Hp → Prop,
  (∀ (J : It) (G : Hp → Prop) H2, Ex H1 H2 → Walk J n G Y → (∀ A, Ex H A → Since H1 H2 A → G A) → R J H2) → wi σ H1 R
/-- a value of which R holds, in each heap that has what stood at H and what is new -/
def EvN (te : TE) (σ : L2.St) (H : Hp) (R : V → Hp → Prop) : Prop := ∀ H1, Ex H H1 → ∀ Q : VK, (∀ v H2, Ex H1 H2 → (∀ H3, Ex H H3 → Since H1 H2 H3 → R v H3) → Q v H2) → te σ H1 Q
/-- a new list: what it holds is told by L -/
def EvNL (te : TE) (σ : L2.St) (H : Hp) (L : List V → Hp → Prop) : Prop := ∀ H1, Ex H H1 → ∀ Q : VK,
  (∀ p xs H2, H1 p = none → Ex H1 H2 → H2 p = some (.lst xs) → (∀ H3, Ex H H3 → (∀ a o, a ≠ p → H1 a = none → H2 a = some o → H3 a = some o) → L xs H3) → Q (.ref p) H2) → te σ H1 Q
/-- the target's stores -/
def Aims (g : TG) (n : Nat) (Y : Nat → Hp → V → Hp → Prop) (s : Nat → L2.St → L2.St) : Prop := ∀ i σ H x H', i < n → Y i H x H' → Ex H H' ∧ ∀ Q : L2.St → Hp → Prop, Q (s i σ) H' → g x σ H' Q
theorem aims_at {xs : List V} {j : Nat} : Aims (gName j) xs.length (YAt xs) (fun i σ => σ.set j (some (xs.getD i .non))) := fun i σ H x H' hi y => by
  obtain ⟨rfl, hx⟩ := y
  obtain rfl : xs.getD i .non = x := by rw [List.getD_eq_getElem?_getD, hx]; rfl
  exact ⟨Ex.refl _, fun Q q => q⟩
theorem aims_fn {f : Nat → V} {n j : Nat} : Aims (gName j) n (YFn f) (fun i σ => σ.set j (some (f i))) := fun i σ H x H' hi y => by
  obtain ⟨rfl, rfl⟩ := y
  exact ⟨Ex.refl _, fun Q q => q⟩
/-- a pair of the turn's number and the item -/
theorem aims_enum {K : PySem.W.Frag} {xs : List V} {j1 j2 : Nat} : Aims (gTup K 2 (gCons (gName j1) (gCons (gName j2) gNil))) xs.length (YPair (fun i => some (.int (i : Nat))) (fun i => xs[i]?))
    (fun i σ => (σ.set j1 (some (.int (i : Nat)))).set j2 (some (xs.getD i .non))) := fun i σ H v H' hi y => by
  obtain ⟨T, x, y, rfl, hT, rfl, h1, h2⟩ := y
  cases h1
  have h3 : xs[i]? = some y := h2
  obtain rfl : xs.getD i .non = y := by rw [List.getD_eq_getElem?_getD, h3]; rfl
  exact ⟨Ex.new hT, fun Q q => ⟨T, _, rfl, st_of upd_same, rfl, _, _, rfl, _, _, rfl, rfl, q⟩⟩
section
variable {K : PySem.W.Frag} {σ : L2.St} {H : Hp}
theorem ei_list {a : Addr} {xs : List V} {tl : TE} (h : Ev tl σ H (.ref a)) (hx : SqL K H a xs) : EvI (iList K tl) σ H xs.length (YAt xs) := fun H1 e R k =>
  h H1 e _ fun H2 e2 => ⟨a, rfl, ⟨xs, ex_l (e.trans e2) hx⟩, k _ _ H2 e2 walk_list fun A ab _ => ex_l ab hx⟩
theorem ei_listN {xs : List V} {tl : TE} (h : EvL tl σ H xs) : EvI (iList K tl) σ H xs.length (YAt xs) := fun H1 e R k =>
  h H1 e _ fun a H2 ha e2 hx => ⟨a, rfl, ⟨xs, sq_of hx⟩, k _ _ H2 e2 walk_list fun A _ ab => sq_of (ab _ _ ha hx)⟩
theorem ei_tup {a : Addr} {xs : List V} {tl : TE} (h : Ev tl σ H (.ref a)) (hx : SqT K H a xs) : EvI (iTup K tl) σ H xs.length (YAt xs) := fun H1 e R k =>
  h H1 e _ fun H2 e2 => ⟨a, rfl, ⟨xs, ex_t (e.trans e2) hx⟩, k _ _ H2 e2 walk_tup fun A ab _ => ex_t ab hx⟩
theorem walk_enumT {a : Addr} {xs : List V} : Walk (IteT K a) xs.length (fun H => SqT K H a xs) (YPair (fun i => some (.int (i : Nat))) (fun i => xs[i]?)) := by
  refine ⟨fun i _ hi q => ⟨xs, xs[i], q, by simp [hi]⟩, fun _ q => ⟨xs, q, Nat.le_refl _⟩, fun i H v H' _ q y => ?_⟩
  obtain ⟨T, x, h1, h2, h3, h4⟩ := y
  exact ⟨T, .int (i : Nat), x, h1, h2, h3, rfl, h4 xs q⟩
theorem ei_enum {a : Addr} {xs : List V} {ta : TA} (h : EvA ta σ H [.ref a]) (hx : SqL K H a xs) : EvI (iEnum K ta) σ H xs.length (YPair (fun i => some (.int (i : Nat))) (fun i => xs[i]?)) := fun H1 e R k =>
  h H1 e _ fun H2 e2 => ⟨a, xs, rfl, ex_l (e.trans e2) hx, k _ _ H2 e2 walk_enum fun A ab _ => ex_l ab hx⟩
theorem ei_enumT {a : Addr} {xs : List V} {ta : TA} (h : EvA ta σ H [.ref a]) (hx : SqT K H a xs) : EvI (iEnumT K ta) σ H xs.length (YPair (fun i => some (.int (i : Nat))) (fun i => xs[i]?)) := fun H1 e R k =>
  h H1 e _ fun H2 e2 => ⟨a, xs, rfl, ex_t (e.trans e2) hx, k _ _ H2 e2 walk_enumT fun A ab _ => ex_t ab hx⟩
theorem ei_rng1 {ta : TA} {j : Int} (h : EvA ta σ H [.int j]) (h0 : 0 ≤ j) (h1 : j ≤ 100000) : EvI (iRng1 ta) σ H j.toNat (YFn fun i => .int (0 + i)) := fun H1 e R k =>
  h H1 e _ fun H2 e2 => ⟨j, rfl, by omega, by omega, k _ _ H2 e2 walk_range fun _ _ _ => trivial⟩
theorem ei_rng2 {ta : TA} {i j : Int} (h : EvA ta σ H [.int i, .int j]) (h0 : -100000 ≤ i ∧ i ≤ 100000) (h1 : -100000 ≤ j ∧ j ≤ 100000) : EvI (iRng2 ta) σ H (j - i).toNat (YFn fun k => .int (i + k)) := fun H1 e R k =>
  h H1 e _ fun H2 e2 => ⟨i, j, rfl, ⟨by omega, by omega, by omega, by omega⟩, k _ _ H2 e2 walk_range fun _ _ _ => trivial⟩
theorem en_v {te : TE} {v : V} (h : Ev te σ H v) : EvN te σ H (fun u _ => u = v) := fun H1 e Q q => h H1 e Q fun H2 e2 => q v H2 e2 fun _ _ _ => rfl
theorem en_l {te : TE} {xs : List V} (h : EvL te σ H xs) : EvN te σ H (fun u H' => ∃ a, u = .ref a ∧ H' a = some (.lst xs)) := fun H1 e Q q => h H1 e Q fun p H2 hp e2 h2 => q _ H2 e2 fun H3 _ s => ⟨p, rfl, s _ _ hp h2⟩
theorem en_u {te : TE} {xs : List V} (h : ∀ H1, Ex H H1 → ∀ Q : VK, (∀ p H2, H1 p = none → Ex H1 H2 → H2 p = some (.tup xs) → Q (.ref p) H2) → te σ H1 Q) : EvN te σ H (fun u H' => ∃ a, u = .ref a ∧ H' a = some (.tup xs)) := fun H1 e Q q => h H1 e Q fun p H2 hp e2 h2 => q _ H2 e2 fun H3 _ s => ⟨p, rfl, s _ _ hp h2⟩
theorem en_nl {te : TE} {L : List V → Hp → Prop} (h : EvNL te σ H L) : EvN te σ H (fun u H' => ∃ a xs, u = .ref a ∧ H' a = some (.lst xs) ∧ L xs H') := fun H1 e Q q => h H1 e Q fun p xs H2 hp e2 h2 hL => q _ H2 e2 fun H3 e3 s => ⟨p, xs, rfl, s _ _ hp h2, hL H3 e3 fun a o _ ha hb => s a o ha hb⟩
/-- what the comprehension's list holds: what R tells, turn by turn -/
def Holds (R : Nat → V → Hp → Prop) (n : Nat) (xs : List V) (H : Hp) : Prop := xs.length = n ∧ ∀ i v, xs[i]? = some v → R i v H
theorem snoc_at {xs : List V} {v u : V} {i : Nat} (h : (xs ++ [v])[i]? = some u) : (i < xs.length ∧ xs[i]? = some u) ∨ (i = xs.length ∧ v = u) := by
  rcases Nat.lt_or_ge i xs.length with hi | hi
  · rw [List.getElem?_append_left hi] at h
    exact .inl ⟨hi, h⟩
  · rw [List.getElem?_append_right hi] at h
    have e : i - xs.length = 0 := by
      have := (List.getElem?_eq_some_iff.mp h).1
      simp at this
      omega
    rw [e] at h
    cases h
    exact .inr ⟨by omega, rfl⟩
theorem en_lc {wi : TI} {g : TG} {te : TE} {vs : List Nat} {n : Nat} {Y : Nat → Hp → V → Hp → Prop} {s : Nat → L2.St → L2.St} (hw : EvI wi σ H n Y) (aim : Aims g n Y s) (hs : ∀ i, wipe (s i (wipe σ vs)) vs = wipe σ vs) (hn : n ≤ 90000)
    (R : Nat → V → Hp → Prop) (he : ∀ i, i < n → EvN te (s i (wipe σ vs)) H (R i)) : EvNL (tLc wi g tYes te vs) σ H (Holds R n) := fun H1 e Q q =>
  hw H1 e _ fun J G H2 e2 w sG D hD => lc_it w (fun i H' => Ex H2 H' ∧ ∃ acc, H' D = some (.lst acc) ∧ acc.length = i ∧ ∀ k v, acc[k]? = some v → ∀ H3, Ex H H3 → (∀ a o, a ≠ D → H1 a = none → H' a = some o → H3 a = some o) → R k v H3)
    ⟨Ex.new hD, [], upd_same, rfl, fun i v h => by simp at h⟩ (fun i H' _ p => sG H' ((e.trans e2).trans p.1) fun a o _ ha => p.1 _ _ ha)
    (fun i x A B hi p y => by
      obtain ⟨p1, acc, p3, p4, p5⟩ := p
      obtain ⟨ab, k⟩ := aim i (wipe σ vs) A x B hi y
      refine k _ ⟨hs i, ?_⟩
      show te (s i (wipe σ vs)) B _
      have hHB : Ex H B := ((e.trans e2).trans p1).trans ab
      refine he i hi B hHB _ fun v C eC hv => ⟨acc, eC _ _ (ab _ _ p3), sz_lt (by omega), ?_, acc ++ [v], upd_same, by rw [List.length_append, p4] <;> rfl, fun k u hk H3 h3 keep => ?_⟩
      · exact ((p1.trans ab).trans eC).mut hD
      · have at4 : ∀ a o, a ≠ D → H1 a = none → C a = some o → H3 a = some o := fun a o hne hn hc => keep a o hne hn (by rw [upd_ne hne]; exact hc)
        rcases snoc_at hk with ⟨hlt, hk⟩ | ⟨rfl, rfl⟩
        · exact p5 k u hk H3 h3 fun a o hne hn ha => at4 a o hne hn (eC _ _ (ab _ _ ha))
        · rw [p4]
          refine hv H3 h3 fun a o hb hc => at4 a o (fun z => ?_) (fresh_back ((e2.trans p1).trans ab) hb) hc
          rw [z, ab _ _ p3] at hb
          cases hb)
    (fun H' p => by
      obtain ⟨p1, acc, p3, p4, p5⟩ := p
      exact q D acc H' (fresh_back e2 hD) (e2.trans p1) p3 fun H3 h3 keep => ⟨p4, fun i v hv => p5 i v hv H3 h3 keep⟩)
/-- two walks, one in another: what the list holds is told by the row of b's -/
def Row2 {β : Type} (Rb : β → V → Hp → Prop) (bs : List β) (xs : List V) (H : Hp) : Prop := xs.length = bs.length ∧ ∀ (k : Nat) (b : β) (v : V), bs[k]? = some b → xs[k]? = some v → Rb b v H
def els {β : Type} (m : Nat → Nat) (f : Nat → Nat → Bool) (b : Nat → Nat → β) (i : Nat) : List β := ((List.range (m i)).filter (f i)).map (b i)
def rows {β : Type} (m : Nat → Nat) (f : Nat → Nat → Bool) (b : Nat → Nat → β) (n : Nat) : List β := (List.range n).flatMap (els m f b)
theorem rows_succ {β : Type} {m : Nat → Nat} {f : Nat → Nat → Bool} {b : Nat → Nat → β} {n : Nat} : rows m f b (n + 1) = rows m f b n ++ els m f b n := by
  unfold rows
  rw [List.range_succ, List.flatMap_append]
  simp
def part {β : Type} (f : Nat → Bool) (b : Nat → β) (j : Nat) : List β := ((List.range j).filter f).map b
theorem part_succ {β : Type} {f : Nat → Bool} {b : Nat → β} {j : Nat} : part f b (j + 1) = part f b j ++ (if f j = true then [b j] else []) := by
  unfold part
  rw [List.range_succ, List.filter_append, List.map_append]
  congr 1
  cases h : f j <;> simp [h]
theorem part_le {β : Type} {f : Nat → Bool} {b : Nat → β} {j k : Nat} (h : j ≤ k) : (part f b j).length ≤ (part f b k).length := by
  induction k with
  | zero => rw [Nat.le_zero.mp h] <;> exact Nat.le_refl _
  | succ k ih =>
    rcases Nat.lt_or_ge k j with h2 | h2
    · rw [show j = k + 1 by omega] <;> exact Nat.le_refl _
    · rw [part_succ, List.length_append]
      exact Nat.le_trans (ih h2) (Nat.le_add_right _ _)
theorem rows_le {β : Type} {m : Nat → Nat} {f : Nat → Nat → Bool} {b : Nat → Nat → β} {j k : Nat} (h : j ≤ k) : (rows m f b j).length ≤ (rows m f b k).length := by
  induction k with
  | zero => rw [Nat.le_zero.mp h] <;> exact Nat.le_refl _
  | succ k ih =>
    rcases Nat.lt_or_ge k j with h2 | h2
    · rw [show j = k + 1 by omega] <;> exact Nat.le_refl _
    · rw [rows_succ, List.length_append]
      exact Nat.le_trans (ih h2) (Nat.le_add_right _ _)
theorem en_lc2 {β : Type} {wi wi1 : TI} {g g1 : TG} {tt1 : TT} {te : TE} {vs vs1 : List Nat} {n : Nat} {m : Nat → Nat} {Y : Nat → Hp → V → Hp → Prop} {Y1 : Nat → Nat → Hp → V → Hp → Prop} {s : Nat → L2.St → L2.St} {s1 : Nat → Nat → L2.St → L2.St}
    (hw : EvI wi σ H n Y) (aim : Aims g n Y s) (hs : ∀ i, wipe (s i (wipe σ vs)) vs = wipe σ vs)
    (hw1 : ∀ i, i < n → EvI wi1 (s i (wipe σ vs)) H (m i) (Y1 i)) (aim1 : ∀ i, Aims g1 (m i) (Y1 i) (s1 i)) (hs1 : ∀ i j, wipe (s1 i j (wipe (s i (wipe σ vs)) vs1)) vs1 = wipe (s i (wipe σ vs)) vs1)
    (f : Nat → Nat → Bool) (b : Nat → Nat → β) (Rb : β → V → Hp → Prop) (ht : ∀ i j, i < n → j < m i → EvT tt1 (s1 i j (wipe (s i (wipe σ vs)) vs1)) H (f i j))
    (he : ∀ i j, i < n → j < m i → f i j = true → EvN te (s1 i j (wipe (s i (wipe σ vs)) vs1)) H (Rb (b i j))) (hz : (rows m f b n).length ≤ 90000) :
    EvNL (tLc2 wi g tYes wi1 g1 tt1 te vs vs1) σ H (Row2 Rb (rows m f b n)) := fun H1 e Q q => by
  refine hw H1 e _ fun J G H2 e2 w sG D hD => ?_
  -- what stands while ds are made
  let St : List β → Hp → Prop := fun ds H' => Ex H2 H' ∧ ∃ acc, H' D = some (.lst acc) ∧ acc.length = ds.length ∧ ∀ (k : Nat) (d : β) (v : V), ds[k]? = some d → acc[k]? = some v → ∀ H3, Ex H H3 → (∀ a o, a ≠ D → H1 a = none → H' a = some o → H3 a = some o) → Rb d v H3
  have grow : ∀ {ds : List β} {A B : Hp}, St ds A → Ex A B → St ds B := fun {ds A B} p ab => by
    obtain ⟨p1, acc, p3, p4, p5⟩ := p
    exact ⟨p1.trans ab, acc, ab _ _ p3, p4, fun k d v h1 h2 H3 h3 keep => p5 k d v h1 h2 H3 h3 fun a o hne hn ha => keep a o hne hn (ab _ _ ha)⟩
  refine ⟨fun i k H' => k = n - i ∧ i ≤ n ∧ St (rows m f b i) H', ⟨n, by simp, Nat.zero_le _, Ex.new hD, [], upd_same, rfl, fun k d v h => by simp [rows] at h⟩, ?_⟩
  rintro i k A ⟨rfl, hin, p⟩
  have gA : G A := sG A ((e.trans e2).trans p.1) fun a o _ ha => p.1 _ _ ha
  by_cases hi : i < n
  · refine .inr ⟨w.goes i A hi gA, St (rows m f b (i + 1)), fun H' p' => ⟨n - (i + 1), by omega, rfl, hi, p'⟩, fun x B yl => ?_⟩
    have y := w.yields i A x B hi gA yl
    obtain ⟨ab, k⟩ := aim i (wipe σ vs) A x B hi y
    refine k _ ⟨hs i, ?_⟩
    have pB := grow p ab
    refine hw1 i hi B (((e.trans e2).trans p.1).trans ab) _ fun J1 G1 C bC w1 sG1 => ?_
    refine ⟨fun j k H' => k = m i - j ∧ j ≤ m i ∧ St (rows m f b i ++ part (f i) (b i) j) H' ∧ Since B C H', ⟨m i, by simp, Nat.zero_le _, ?_, fun _ _ _ h => h⟩, ?_⟩
    · simpa [part] using grow pB bC
    · rintro j k H' ⟨rfl, hj, pj, sj⟩
      have gj : G1 H' := sG1 H' ((e.trans e2).trans pj.1) sj
      by_cases hlt : j < m i
      · refine .inr ⟨w1.goes j H' hlt gj, fun H4 => St (rows m f b i ++ part (f i) (b i) (j + 1)) H4 ∧ Since B C H4, fun H4 p4 => ⟨m i - (j + 1), by omega, rfl, hlt, p4⟩, fun x1 B1 y1 => ?_⟩
        obtain ⟨ab1, k1⟩ := aim1 i j (wipe (s i (wipe σ vs)) vs1) H' x1 B1 hlt (w1.yields j H' x1 B1 hlt gj y1)
        refine k1 _ ⟨hs1 i j, ?_⟩
        have pB1 := grow pj ab1
        refine ht i j hi hlt B1 ((e.trans e2).trans pB1.1) _ fun H6 e6 => ?_
        have p6 := grow pB1 e6
        have s6 : Since B C H6 := fun a o ha hc => e6 _ _ (ab1 _ _ (sj a o ha hc))
        rw [part_succ]
        cases hf : f i j with
        | false =>
          show St _ H6 ∧ Since B C H6
          rw [if_neg (by decide), List.append_nil]
          exact ⟨p6, s6⟩
        | true =>
          refine he i j hi hlt hf H6 ((e.trans e2).trans p6.1) _ fun v C6 eC hv => ?_
          obtain ⟨q1, acc, q3, q4, q5⟩ := p6
          have small : acc.length < 90000 := by
            rw [q4, List.length_append]
            have a1 : (rows m f b (i + 1)).length ≤ 90000 := Nat.le_trans (rows_le hi) hz
            rw [rows_succ, List.length_append] at a1
            have a2 : (part (f i) (b i) (j + 1)).length ≤ (els m f b i).length := part_le (f := f i) (b := b i) (show j + 1 ≤ m i from hlt)
            rw [part_succ, hf, List.length_append] at a2
            simp at a2
            omega
          refine ⟨acc, eC _ _ q3, sz_lt (by omega), ⟨(q1.trans eC).mut hD, acc ++ [v], upd_same, ?_, ?_⟩, ?_⟩
          · rw [if_pos rfl, ← List.append_assoc, List.length_append, List.length_append, q4, List.length_append]
            rfl
          · intro k d u hd hu H3 h3 keep
            have at4 : ∀ a o, a ≠ D → H1 a = none → C6 a = some o → H3 a = some o := fun a o hne hn hc => keep a o hne hn (by rw [upd_ne hne]; exact hc)
            rw [if_pos rfl, ← List.append_assoc] at hd
            rcases snoc_at hu with ⟨hlt2, hu2⟩ | ⟨rfl, rfl⟩
            · rw [q4] at hlt2
              rw [List.getElem?_append_left hlt2] at hd
              exact q5 k d u hd hu2 H3 h3 fun a o hne hn ha => at4 a o hne hn (eC _ _ ha)
            · rw [q4, List.getElem?_append_right (Nat.le_refl _), Nat.sub_self] at hd
              cases hd
              refine hv H3 h3 fun a o hb hc => at4 a o (fun z => ?_) (fresh_back (e2.trans q1) hb) hc
              rw [z, q3] at hb
              cases hb
          · intro a o ha hc
            rw [upd_ne (fun z => ?_)]
            · exact eC _ _ (s6 a o ha hc)
            · obtain ⟨acc0, r3, _⟩ := pB.2
              rw [z, r3] at ha
              cases ha
      · have ej : j = m i := by omega
        subst ej
        refine .inl ⟨w1.stops H' gj, ?_⟩
        show St (rows m f b (i + 1)) H'
        rw [rows_succ]
        exact pj
  · have ei : i = n := by omega
    subst ei
    refine .inl ⟨w.stops A gA, ?_⟩
    obtain ⟨p1, acc, p3, p4, p5⟩ := p
    exact q D acc A (fresh_back e2 hD) (e2.trans p1) p3 fun H3 h3 keep => ⟨p4, fun k d v h1 h2 => p5 k d v h1 h2 H3 h3 keep⟩
/-- the dict of the first keys, each with True -/
def dOf (kf : Nat → Int) : Nat → List (L2.Key × V)
  | 0 => []
  | i + 1 => putK (dOf kf i) (.inl (kf i)) (.bl true)
theorem dOf_len (kf : Nat → Int) : ∀ n, (dOf kf n).length ≤ n
  | 0 => Nat.le_refl _
  | n + 1 => Nat.le_trans (length_putK _ _ _) (Nat.succ_le_succ (dOf_len kf n))
theorem dOf_at (kf : Nat → Int) (x : Int) : ∀ n, (valV (dOf kf n) (.inl x)).isSome = true ↔ ∃ i, i < n ∧ kf i = x
  | 0 => ⟨fun h => (by cases h), fun ⟨i, h, _⟩ => absurd h (Nat.not_lt_zero i)⟩
  | n + 1 => by
    show (valV (putK (dOf kf n) (.inl (kf n)) (.bl true)) (.inl x)).isSome = true ↔ _
    rw [valV_put]
    by_cases e : (Sum.inl x : L2.Key) = .inl (kf n)
    · rw [if_pos e]
      exact ⟨fun _ => ⟨n, Nat.lt_succ_self n, (Sum.inl.inj e).symm⟩, fun _ => rfl⟩
    · rw [if_neg e, dOf_at kf x n]
      constructor
      · rintro ⟨i, h1, h2⟩
        exact ⟨i, Nat.lt_succ_of_lt h1, h2⟩
      · rintro ⟨i, h1, h2⟩
        refine ⟨i, Nat.lt_of_le_of_ne (Nat.le_of_lt_succ h1) fun z => ?_, h2⟩
        rw [z] at h2
        exact e (by rw [h2])
theorem en_dc {wi : TI} {g : TG} {tk tv : TE} {vs : List Nat} {n : Nat} {Y : Nat → Hp → V → Hp → Prop} {s : Nat → L2.St → L2.St} {kf : Nat → Int} (hw : EvI wi σ H n Y) (aim : Aims g n Y s) (hs : ∀ i, wipe (s i (wipe σ vs)) vs = wipe σ vs) (hn : n ≤ 90000)
    (hk : ∀ i, i < n → Ev tk (s i (wipe σ vs)) H (.int (kf i))) (hv : ∀ i, i < n → Ev tv (s i (wipe σ vs)) H (.bl true)) : EvN (tDc wi g tYes tk tv vs) σ H (fun u H' => ∃ d, u = .ref d ∧ H' d = some (.dK (dOf kf n))) := fun H1 e Q q =>
  hw H1 e _ fun J G H2 e2 w sG D hD => by
    refine ⟨fun i m H' => m = n - i ∧ i ≤ n ∧ Ex H2 H' ∧ H' D = some (.dK (dOf kf i)), ⟨n, by simp, Nat.zero_le _, Ex.new hD, upd_same⟩, ?_⟩
    rintro i m A ⟨rfl, hin, p1, p2⟩
    have gA : G A := sG A ((e.trans e2).trans p1) fun a o _ ha => p1 _ _ ha
    by_cases hi : i < n
    · refine .inr ⟨w.goes i A hi gA, fun H' => Ex H2 H' ∧ H' D = some (.dK (dOf kf (i + 1))), fun H' p' => ⟨n - (i + 1), by omega, rfl, hi, p'⟩, fun x B yl => ?_⟩
      obtain ⟨ab, k⟩ := aim i (wipe σ vs) A x B hi (w.yields i A x B hi gA yl)
      refine k _ ⟨hs i, ?_⟩
      refine hk i hi B (((e.trans e2).trans p1).trans ab) _ fun C eC => ?_
      refine hv i hi C ((((e.trans e2).trans p1).trans ab).trans eC) _ fun C2 eC2 => ?_
      have := dOf_len kf i
      exact ⟨dOf kf i, .inl (kf i), rfl, eC2 _ _ (eC _ _ (ab _ _ p2)), sz_lt (by omega), (((p1.trans ab).trans eC).trans eC2).mut hD, upd_same⟩
    · have ei : i = n := by omega
      subst ei
      refine .inl ⟨w.stops A gA, q _ A (e2.trans p1) fun H3 h3 keep => ⟨D, rfl, keep _ _ (fresh_back e2 hD) p2⟩⟩
theorem ev_din {ty td : TE} {d : Addr} {kvs : List (L2.Key × V)} {x : Int} (h1 : Ev ty σ H (.int x)) (h2 : Ev td σ H (.ref d)) (hd : H d = some (.dK kvs)) : Ev (tDIn ty td) σ H (.bl (valV kvs (.inl x)).isSome) := fun H1 e Q q =>
  h1 H1 e _ fun H2 e2 => h2 H2 (e.trans e2) _ fun H3 e3 => ⟨d, _, rfl, DGet.k (k := Sum.inl x) (((e.trans e2).trans e3) _ _ hd), q H3 (e2.trans e3)⟩
end
end Tl
end S_Yw
section S_Wa
namespace Hk
open PySem PySem.Spec PyProof.Rows L2
/-! ### a caught error that is kept behind its try -/
/-- at a stands an error of the class cls, whose own dict is d -/
def ErrAt (cls : Value) (d : Option Addr) (a : Addr) : HO := .ext fun h => ∃ (oe : Obj) (vs : Array Value), h.get? a = some oe ∧ Zc cls d oe ∧ oe.data = .fields vs
section
variable {X : Cx} {pins : List (Addr × Obj)} {σ : L2.St} {H : Hp} {s : Shared}
/-- what stands at a, new since the entry, is told of from now on -/
theorem told_at {a : Addr} {oe : Obj} {vs : Array Value} {cls : Value} {d : Option Addr} (I : Inv X pins σ H s) (at_ : s.heap.get? a = some oe) (z : Zc cls d oe) (hd : oe.data = .fields vs) (na : H a = none) (n0 : X.s_0.heap.get? a = none) (nL : a ≠ X.env.locals)
    (np : ∀ p ∈ X.pn ++ pins, p.1 ≠ a) : Inv X pins σ (upd H a (ErrAt cls d a)) s where
  ok := I.ok
  os := I.os
  bare := I.bare
  base :=
    { keep := I.base.keep, slot := I.base.slot, there := I.base.there
      free := fun b o e n x => by
        have hb : b ≠ a := fun q => by rw [q, n0] at e; cases e
        rw [upd_ne hb]; exact I.base.free b o e n x
      tups := fun b xs e => by
        have q := I.base.tups b xs e
        rw [upd_ne (ne_of_none q na)]; exact q
      frzs := fun b o xs e => by
        have q := I.base.frzs b o xs e
        rw [upd_ne (ne_of_none q na)]; exact q
      tbls := fun b ps e => by
        obtain ⟨m, q⟩ := I.base.tbls b ps e
        exact ⟨m, by rw [upd_ne (ne_of_none q na)]; exact q⟩ }
  loc := I.loc
  cell := I.cell
  free := by rw [upd_ne (Ne.symm nL)]; exact I.free
  freeC := fun x c e => by
    have hb : c ≠ a := fun q => by
      obtain ⟨v, o, ho, hc⟩ := I.cell x c e
      rw [q, at_] at ho
      cases ho
      rw [hd] at hc
      cases hc
    rw [upd_ne hb]; exact I.freeC x c e
  pin := fun p hp => by
    obtain ⟨h1, h2, h3⟩ := I.pin p hp
    exact ⟨h1, by rw [upd_ne (np p hp)]; exact h2, h3⟩
  hok := fun b u e => by
    by_cases hb : b = a
    · subst hb
      rw [upd_same] at e
      cases e
      exact ⟨⟨oe, vs, at_, z, hd⟩, ⟨oe, at_⟩, fun _ _ ⟨o, v, q, r⟩ k => ⟨o, v, k o q, r⟩⟩
    · rw [upd_ne hb] at e
      exact (I.hok b u e).stay (fun _ _ _ q => q) (fun c q => by rw [upd_ne (ne_of_none q na)]; exact q) fun c xs q => by rw [upd_ne (ne_of_none q na)]; exact q
  len := I.len
/-- the wish of the body of such a try: the clause takes every error of the body; the slot i is the clause's name's -/
def wKeep (K : PySem.W.Frag) (c : Value) (i : Nat) (ts : Addr → Value → Option Addr → TS) (D : Ends) : WX := fun cls d σ H =>
  PySem.W.exmOne K cls c = some true ∧ ∀ a, H a = none → ts a cls d { nx := fun σ' H' => H' a = none → D.nx (σ'.set i none) (upd H' a (ErrAt cls d a)), rt := fun _ _ => False, bk := fun _ _ => False, ct := fun _ _ => False } (σ.set i (some (.ref a))) H
theorem ps_keep {x n : Str} {c : Value} {i : Nat} {body suite : List Stmt} {b₀ : Stmt} {np pos pos' : Pos} {tb : WX → TS} {ts : Addr → Value → Option Addr → TS}
    (hst : X.stack = X.env :: X.outer) (hf : X.env.frame = some X.env.locals) (hex : X.ex = []) (nd : X.N.Nodup) (hi : X.N[i]? = some n) (kn : X.env.kindOf n = some .local) (hc : Names X x c)
    (hb : ∀ (W : WX) (pn : List (Addr × Obj)) (xe : Value → Shared → Prop), Takes (X.tr pn xe) W → PassesOwn (model X.prog X.w) X.A X.env xe → PSs (X.tr pn xe) body (tb W))
    (hsu : ∀ (a : Addr) (oe : Obj) (cls : Value) (d : Option Addr) (pn : List (Addr × Obj)), Zc cls d oe → (∃ vs, oe.data = .fields vs) → PSs (X.suite a ((a, oe) :: pn)) (b₀ :: suite) (ts a cls d)) :
    PS X (.Try body [.ExceptHandler (some (.Name x np)) (some n) (b₀ :: suite) pos'] [] [] pos) (fun D σ H => tb (wKeep X.K c i ts D) D σ H) := by
  constructor
  intro pins s σ H D I h
  have frs_ : X.A.frames = some (X.env :: X.outer) := by rw [I.ok.frames, hst]
  have ok := I.ok
  refine wpAny_Try_except (wpAny_mono ((hb (wKeep X.K c i ts D) (X.pn ++ pins) (fun e s₁ => wpAny (model X.prog X.w) X.A (noteFrame e X.env) (fun _ s₂ => wpAny (model X.prog X.w) X.A (setFlight e none) (fun _ s₃ =>
    wpAny (model X.prog X.w) X.A (handleBy e X.env [.ExceptHandler (some (.Name x np)) (some n) (b₀ :: suite) pos']) (SP X pins D) X.xe s₃) X.xe s₂) X.xe s₁) (fun u s' air => ?_) PassesOwn.looking).run [] s σ H D (I.toTry _) h) (fun f s1 hsp => ?_) fun _ _ z => z)
  · obtain ⟨a, B, sI, pins', σ', H', cls, d, rfl, J0, nb, up, sky, na, os, ag, hexm, hts⟩ := air
    have J : Inv X pins σ' H' sI := J0.ofTry ok
    have Ba : B.get? a = none := by
      rcases sky with q | q | q
      · exact q.2.1
      · exact q.2.1
      · exact q.2.1
    rw [hst] at sky
    show wpAny (model X.prog X.w) X.A (noteFrame (.ref a) X.env) _ _ _
    refine Sky.land Zc.steady frs_ hf sky fun h3 fl3 up3 => ?_
    have J3 : Inv X pins σ' H' { s' with heap := h3 } := J.landed nb fl3.1 (up.trans up3) os ag
    obtain ⟨o3, v3, at3, z3, d3⟩ := fl3.there
    have off : ∀ {hh : Heap} {o : Obj} {vs : Array Value}, hh.FunFrames B (X.env :: X.outer) → hh.get? a = some o → o.data = .fields vs → a ∉ frs (X.env :: X.outer) := by
      intro hh o vs ff e dd hm
      obtain ⟨_, o', e', q⟩ := ff.mem hm
      rw [e] at e'
      cases e'
      exact q _ dd
    have offa := off fl3.2.2.1 at3 d3
    have nL : a ≠ X.env.locals := fun q => offa (List.mem_filterMap.mpr ⟨X.env, List.mem_cons_self, by rw [hf, q]⟩)
    have nF : a ∉ X.fs := fun hm => by
      obtain ⟨e, he, q⟩ := List.mem_filterMap.mp hm
      exact offa (List.mem_filterMap.mpr ⟨e, List.mem_cons_of_mem _ he, q⟩)
    -- a is new: nothing of the state without it stands there
    have nI : sI.heap.get? a = none := by
      cases q : sI.heap.get? a with
      | none => rfl
      | some o =>
        have z := nb a o q (by rw [hst]; exact offa)
        rw [Ba] at z
        cases z
    have n0 : a ∉ X.ex → X.s_0.heap.get? a = none := fun nx => by
      cases q : X.s_0.heap.get? a with
      | none => rfl
      | some o =>
        obtain ⟨o', z⟩ := J.base.there a o q nx
        rw [nI] at z
        cases z
    have npin : ∀ p ∈ X.pn ++ pins, p.1 ≠ a := fun p hp q => by
      have z := (J.pin p hp).1
      rw [q, nI] at z
      cases z
    have S3 := J3.suite at3 d3 na nL nF
    refine wpAny_handleBy_cons (codeAny_handlers_test ?_) (fun q => nomatch q)
    have LT : PySem.W.Looks (model X.prog X.w) h3 (typeOf (.ref a)) cls := fun A Q E s k q => wpAny_typeOf_ref (k _ _ at3) (by rw [z3.1]; exact q)
    have LM := PySem.W.exm_one (M := model X.prog X.w) (J3.kIn) LT hexm
    have look : ∀ {Q : Value → Shared → Prop} {E : Value → Shared → Prop}, Q c { s' with heap := h3 } → wpAny (model X.prog X.w) (X.A.mark (some (.ref a))) (eval (.Name x np) X.env) Q E { s' with heap := h3 } := by
      intro Q E q
      rcases hc with ⟨hg, hdb, hm | ⟨hm, hv, hnn⟩⟩
      · exact ld_glob (X := X.suite a ((a, o3) :: (X.pn ++ pins))) S3 hg hm q hdb
      · exact ld_blt (X := X.suite a ((a, o3) :: (X.pn ++ pins))) S3 hg hm hv q hnn hdb
    refine look (LM.here (codeAny_handlers_suite_as (HandSPX.lands_againZ fl3 fun h4 fl4 up4 => ?_)))
    have J4 : Inv X pins σ' H' { s' with heap := h4 } := J.landed nb fl4.1 ((up.trans up3).trans up4) os ag
    obtain ⟨o4, v4, at4, z4, d4⟩ := fl4.there
    refine store_ok (X := X.suite a ((a, o4) :: (X.pn ++ pins))) (v := .ref a) (J4.suite at4 d4 na nL nF) nd hi (.inl kn) rfl (fun s5 S5 => ?_) (.inr kn)
    refine wpAny_mono ((hsu a o4 cls d (X.pn ++ pins) z4 ⟨_, d4⟩).run [] s5 _ H' _ S5 (hts a na)) (fun f s6 hsp => ?_) (fun _ _ z => False.elim z)
    cases f with
    | next =>
      obtain ⟨σ6, H6, S6, q6⟩ := hsp
      obtain ⟨at6, na6, _⟩ := S6.pin (a, o4) (List.mem_append_left _ List.mem_cons_self)
      have T6 := told_at (S6.unsuite ok) at6 z4 d4 na6 (n0 (by rw [hex]; exact fun z => nomatch z)) nL npin
      exact gone_ok T6 nd hi kn fun s7 J7 => ⟨_, _, J7, q6 na6⟩
    | brk => exact hsp.elim fun _ q => q.elim fun _ q => q.2.elim
    | cont => exact hsp.elim fun _ q => q.elim fun _ q => q.2.elim
    | ret u =>
      obtain ⟨_, _, _, _, _, q⟩ := hsp
      exact q.elim
  · cases f with
    | next =>
      obtain ⟨σ', H', J', q⟩ := hsp
      exact wpAny_execs_nil ⟨σ', H', J'.ofTry ok, q⟩
    | ret u =>
      obtain ⟨v, σ', H', J', r, q⟩ := hsp
      exact ⟨v, σ', H', J'.ofTry ok, r, q⟩
    | brk =>
      obtain ⟨σ', H', J', q⟩ := hsp
      exact ⟨σ', H', J'.ofTry ok, q⟩
    | cont =>
      obtain ⟨σ', H', J', q⟩ := hsp
      exact ⟨σ', H', J'.ofTry ok, q⟩
end
end Hk
end S_Wa
section S_Wb
namespace Hk
open PySem PySem.Spec PyProof.Rows L2
/-- what the written part must say of an own error's class at D, whose errors are asked about -/
structure ErrC (K : PySem.W.Frag) (D : Addr) : Prop where
  ga : PySem.W.findIn K (.ref D) "__getattribute__" = some (some (.builtin "BaseException.__getattribute__"))
  gg : PySem.W.findIn K (.ref D) "__getattr__" = some none
  ex : PySem.W.subIn K (.ref D) (.type "BaseException") = some true
  hd : PySem.W.hasDictIn K D = true
  ci : PySem.W.isClsIn K D = true
  ha : PySem.W.findIn K (.ref D) "__class__" = some (some (.builtin "object.__class__"))
  hn : PySem.W.specialIn K (.builtin "object.__class__") "__get__" = some (some (.builtin "getset_descriptor.__get__"))
  ht : PySem.W.takesIn K (.builtin "object.__class__") = some true
  hm : PySem.W.mroIn K D (.type "object") = some true
/-- the error's own dict, if it has one, is told of -/
def DictAt (H : Hp) (d : Option Addr) (fs : List (Str × V)) : Prop := ∃ dd, d = some dd ∧ H dd = some (.xd fs)
/-- isinstance(e, c) of a kept error -/
def rIsK (K : PySem.W.Frag) : List V → Hp → VK → Prop := fun xs H Q => ∃ (a D : Addr) (d : Option Addr) (fs : List (Str × V)) (c : V) (u : Value) (b : Bool), xs = [.ref a, c] ∧ H a = some (ErrAt (.ref D) d a) ∧ DictAt H d fs ∧ ErrC K D ∧ ClsV c u ∧ PySem.W.kitOne K (.ref D) u = some b ∧ Q (.bl b) H
section
variable {X : Cx} {pins : List (Addr × Obj)} {σ : L2.St} {H : Hp} {s : Shared}
theorem at_inst {a D : Addr} {d : Option Addr} {fs : List (Str × V)} (I : Inv X pins σ H s) (ha : H a = some (ErrAt (.ref D) d a)) (hd : DictAt H d fs) :
    ∃ (oe od : Obj) (mA : Str → Option Value), PySem.W.InstAt s.heap a oe D (some od) ∧ (∀ name, PySem.W.lookIn name od = some (mA name)) ∧ ∀ f, RelO (fs.lookup f) (mA f) := by
  obtain ⟨⟨oe, vs, he, hz, hv⟩, _, _⟩ := (show ObjOk X.prog X.w H s.heap a (ErrAt (.ref D) d a) from I.hok a _ ha)
  obtain ⟨dd, rfl, hdd⟩ := hd
  obtain ⟨mA, hns, hr⟩ := (show ObjOk X.prog X.w H s.heap dd (.xd fs) from I.hok dd _ hdd)
  obtain ⟨od, ho, hl⟩ := lookIn_ns hns
  exact ⟨oe, od, mA, ⟨he, hz.1, by unfold PySem.W.notCls; rw [hv] <;> rfl, by rw [hz.2]; exact ho⟩, hl, hr⟩
theorem call_isKept : CallR X (.builtin "isinstance") (rIsK X.K) := by
  intro pins s σ H xs us Q I r h
  obtain ⟨a, D, d, fs, c, u, b, rfl, ha, hd, C, hc, e, q⟩ := h
  cases r with
  | cons rx rr =>
    cases rr with
    | cons rt rr =>
      cases rr
      cases rx
      have ec := hc.eq rt
      subst ec
      obtain ⟨oe, od, mA, J, _, _⟩ := at_inst I ha hd
      exact PySem.W.kia_one (PySem.W.kitx_exc C.ci C.ga C.gg C.ex C.ha C.hn C.ht C.hm) I.kIn J e (fun z => nomatch z) fun tk => ⟨.bl b, H, I.kept (t' := tk) fun _ _ z => z, rfl, q⟩
/-- of either -/
theorem call_isAny : CallR X (.builtin "isinstance") (fun xs H Q => rIsi X.K xs H Q ∨ rIsK X.K xs H Q) := by
  intro pins s σ H xs us Q I r h
  rcases h with h | h
  · exact call_isi _ _ _ _ _ _ _ I r h
  · exact call_isKept _ _ _ _ _ _ _ I r h
/-- e.f, e a kept error -/
def tKeptF (K : PySem.W.Frag) (f : Str) (te : TE) : TE := fun σ H Q => te σ H fun x H1 => ∃ (a D : Addr) (d : Option Addr) (fs : List (Str × V)) (v : V), x = .ref a ∧ H1 a = some (ErrAt (.ref D) d a) ∧ DictAt H1 d fs ∧ ErrC K D ∧ PySem.W.findIn K (.ref D) f = some none ∧ fs.lookup f = some v ∧ Q v H1
theorem pe_keptF {e : Expr} {te : TE} {pos : Pos} {f : Str} (he : PE X e te) (hb : attributeBase e f X.env (eval e X.env) = eval e X.env := by rfl) : PE X (.Attribute e f pos) (tKeptF X.K f te) := by
  refine ⟨fun pins s σ H Q I h => attr_of hb (thn (he.run pins s σ H _ I h) fun u s1 hh => ?_)⟩
  obtain ⟨x, H1, I1, rx, a, D, d, fs, v, rfl, ha, hd, C, hno, hl, q⟩ := hh
  obtain rfl : u = Value.ref a := rx
  obtain ⟨oe, od, mA, J, look, rel⟩ := at_inst I1 ha hd
  obtain ⟨w, hw, rw_⟩ := RelO.some_of (v := v) (o := mA f) (by rw [← hl]; exact rel f)
  exact HandSPX.exc_get I1.kIn J C.ga C.gg C.ex (PySem.W.findObj_own C.hd hno rfl (by rw [look, hw])) (handed_of rw_) ⟨v, H1, I1.tok _, rw_, q⟩
end
end Hk
end S_Wb
section S_Wc
set_option maxHeartbeats 2000000
namespace PySem
namespace PartX
open PySem.W PySem.Calls PyProof.Rows PySem.HandSPX
/-! ### the text of __init__ -/
def iA (p1 p2 : Pos) : Arguments := { posonlyargs := [], args := [{ arg := "self", annotation := none, pos := p1 }, { arg := "part", annotation := none, pos := p2 }], vararg := none, kwonlyargs := [], kw_defaults := [], kwarg := none, defaults := [] }
def iB (q1 q2 q3 q4 : Pos) : List Stmt := [.Assign [.Attribute (.Name "self" q1) "part" q2] (.Name "part" q3) q4]
def iS : Scope := { kind := .function, names := [(PySem.Str.ofString "self", .local), (PySem.Str.ofString "part", .local)], isGenerator := false, isCoroutine := false, more := [] }
/-- what the written part says of Low, at C, and of its __init__, at fI -/
structure PartTxt (K : Frag) (mg : Str → Option Value) (nmE qI : Str) (C fI : Addr) : Prop where
  gC : mg nmE = some (.ref C)
  cls : ∃ nm q N bs bm sn sub ab col dd k0 k1 k2 k3 k5, K.lookup C = some (excClassObj nm q C N bs bm true sn sub ab col dd k0 k1 k2 k3 k5 "ValueError.__new__") ∧ refsVE bm = true
  sa : findIn K (.ref C) "__setattr__" = some (some (.builtin "object.__setattr__"))
  ga : findIn K (.ref C) "__getattribute__" = some (some (.builtin "BaseException.__getattribute__"))
  gg : findIn K (.ref C) "__getattr__" = some none
  noN : findIn K (.ref C) "part" = some none
  iC : findIn K (.ref C) "__init__" = some (some (.ref fI))
  tC : typeIn K (.ref fI) = some (.type "function")
  kC : keepIn K (.ref C) = true
  exC : subIn K (.ref C) (.type "BaseException") = some true
  tyC : typeIn K (.ref C) = some (.type "type")
  hdC : hasDictIn K C = true
  fn : ∃ (oc : Value) (od : Option Addr) (doc pm : Value) (an : Option Addr) (cdv ct : Value) (osl : Array (Option Value)) (p1 p2 q1 q2 q3 q4 : Pos),
    K.lookup fI = some ⟨oc, od, .func (fnOf "__init__" qI (iA p1 p2) (iB q1 q2 q3 q4) iS .none .none doc pm an cdv ct), osl⟩ ∧ codeIn K cdv qI = true
theorem one_size (v : Value) : [v].length ≤ sizeLine := by
  rw [sizeLine_eq]
  exact (by decide : 1 ≤ 16777216)
theorem kept_but {K : Frag} {h h' : Heap} {x : Addr} (X : K.In h) (hx : K.lookup x = none) (k : ∀ b o, b ≠ x → h.get? b = some o → h'.get? b = some o) : K.In h' := fun a o e =>
  k a o (fun z => by rw [z, hx] at e; cases e) (X a o e)
theorem ldC {M : Model} {s : Shared} {name : Str} {scope : Scope} {L a : Addr} {cd : Value} {m : Str → Option Value} {x : Str} {pos : Pos} {v : Value} {Q : Value → Shared → Prop} {A : Around} {E : Value → Shared → Prop} (hn : s.heap.Ns L m) (hv : m x = some v) (h : Q v s)
    (hk : scope.kind = .function := by rfl) (hl : (envOfC name scope L a cd).kindOf x = some .local := by rfl) (hd : (x == ("__debug__" : Str)) = false := by decide) :
    wpAny M A (eval (.Name x pos) (envOfC name scope L a cd)) Q E s := wpAny_Name (wpAny_loadName_local hk hl hn hv h) hd
/-- what __init__ leaves of a fresh exception at x -/
structure InitEnd (h h' : Heap) (x C dx t1 : Addr) (v : Value) : Prop where
  keep : ∀ b o, b ≠ x → h.get? b = some o → h'.get? b = some o
  obj : h'.get? x = some { cls := .ref C, dict := some dx, data := .fields #[.ref t1, .none, .none, .none, .bool false, .none] }
  dbig : h.objs.size ≤ dx
  dne : dx ≠ x
  ns : h'.Ns1 dx (fun y => if y = "part" then some v else none)
/-- a made Low -/
structure OwnMade (h h' : Heap) (e C d : Addr) (v : Value) : Prop where
  keep : ∀ b o, h.get? b = some o → h'.get? b = some o
  new : h.objs.size ≤ e
  obj : ∃ oe vs, h'.get? e = some oe ∧ oe.cls = .ref C ∧ oe.dict = some d ∧ oe.data = .fields vs ∧ vs[1]? = some .none
  dbig : h.objs.size ≤ d
  dne : d ≠ e
  ns : h'.Ns1 d (fun y => if y = "part" then some v else none)
section
variable {prog : Program} {w : World} {A : Around} {E : Value → Shared → Prop} {R : Result → Shared → Prop} {s : Shared} {K : Frag} {mg : Str → Option Value} {nmE qI : Str} {C fI : Addr}
theorem part_init (T : PartTxt K mg nmE qI C fI) {x t0 : Addr} {v : Value} (X : K.In s.heap) (hlim : s.heap.NoLimit) (hx : s.heap.get? x = some (excO C t0)) (hnx : K.lookup x = none) (hroom : A.depth < recursionLimit)
    (hq : ∀ h' tk dx, InitEnd s.heap h' x C dx t0 v → R (.ok (.ret .none)) { s with heap := h', toks := tk }) :
    codeAny (model prog w) A (.call (.ref fI) ⟨[.ref x, v], []⟩) R s := by
  obtain ⟨oc, od, doc, pm, an, cdv, ct, osl, p1, p2, q1, q2, q3, q4, ho, hcd⟩ := T.fn
  obtain ⟨nm, q, N, bs, bm, sn, sub, ab, col, dd, k0, k1, k2, k3, k5, hC, hbm⟩ := T.cls
  have hcl : clsIn K C = some { name := nm, bases := bs, mro := .ref C :: bm, ns := N, qualname := q, hasDict := true, slotNames := sn, subclasses := sub, abstract := ab, collection := col, hasDel := false } := by unfold clsIn; rw [hC] <;> rfl
  refine Att.call_fn (binds := [("self", .ref x), ("part", v)]) X hlim ho hcd hroom (BindsTo.of_eq (by first | rfl | with_unfolding_all rfl)) (by first | rfl | decide | with_unfolding_all rfl) (fun s₁ IC => ?_) rfl rfl rfl
  obtain ⟨h₁, tk₁, rfl⟩ := IC.toInCall.same
  have k : ∀ b o, s.heap.get? b = some o → h₁.get? b = some o := IC.toInCall.keep
  have hn := IC.toInCall.ns
  have hxL : s.heap.objs.size ≠ x := Nat.ne_of_gt (Heap.lt_size hx)
  have X₁ : K.In h₁ := X.keeps k
  have hx₁ := k _ _ hx
  -- self.by = by
  show wpAny _ _ (execs _ _) _ _ _
  refine wpAny_execs_cons (plainObj_wpAny_Assign_Attribute ?_)
  refine ldC (v := v) hn (by first | rfl | with_unfolding_all rfl | kernel_rfl) (ldC (v := .ref x) hn (by first | rfl | with_unfolding_all rfl | kernel_rfl) ?_)
  refine set_plain X₁ (ox := excO C t0) (od := none) ⟨hx₁, rfl, rfl, trivial⟩ T.sa ?_
  refine exc_osa X₁ hx₁ hcl (show refsVE (.ref C :: bm) = true from hbm) rfl T.noN (fun h₃ tk₃ dx k₃ dn dne hx₃ hn₃ => ?_)
  show wpAny _ _ (execs _ _) _ _ _
  have z : s.heap.objs.size < h₁.objs.size := hn.lt
  exact wpAny_execs_nil (hq h₃ tk₃ dx ⟨fun b o hb e => k₃ b o hb (k b o e), hx₃, Nat.le_of_lt (Nat.lt_of_lt_of_le z dn), dne, hn₃⟩)
theorem part_made (T : PartTxt K mg nmE qI C fI) {v : Value} (X : K.In s.heap) (hlim : s.heap.NoLimit) (hroom : A.depth + 1 < recursionLimit)
    (hq : ∀ h' tk e d, OwnMade s.heap h' e C d v → R (.ok (.ret (.ref e))) { s with heap := h', toks := tk }) :
    codeAny (model prog w) A (.call (.ref C) ⟨[v], []⟩) R s := by
  obtain ⟨nm, q, N, bs, bm, sn, sub, ab, col, dd, k0, k1, k2, k3, k5, hC, hbm⟩ := T.cls
  obtain ⟨hp, g, dr, tk, os⟩ := s
  have k : ∀ b o, hp.get? b = some o → ((hp.push (kdv_tup [v])).push (excO C hp.objs.size)).get? b = some o := fun b o e => Heap.get?_push_of_some _ (Heap.get?_push_of_some _ e)
  have hget : ((hp.push (kdv_tup [v])).push (excO C hp.objs.size)).get? (hp.objs.size + 1) = some (excO C hp.objs.size) := by heap_get
  have hnx : K.lookup (hp.objs.size + 1) = none := by
    cases e : K.lookup (hp.objs.size + 1) with
    | none => rfl
    | some o =>
      have z : hp.get? (hp.objs.size + 1) = some o := X _ _ e
      exact absurd (Nat.lt_of_succ_lt (Heap.lt_size z)) (Nat.lt_irrefl _)
  refine call_own F.excBase_ValueError (fun X => refsVE_contains X bm hbm) (X _ _ hC) (looks_findIn X T.iC) (fun self => bind_fn X self T.tC) (one_size v) ?_
  refine part_init (s := ⟨(hp.push (kdv_tup [v])).push (excO C hp.objs.size), g, dr, tk, os⟩) T (X.keeps k) (hlim.keeps k) hget hnx ?_ fun h' tk' dx ⟨k', hx, dn, dne, hns⟩ => ?_
  · show A.depth + 1 < recursionLimit
    exact hroom
  · have old : ∀ b o, hp.get? b = some o → h'.get? b = some o := fun b o e => k' b o (Nat.ne_of_lt (Nat.lt_succ_of_lt (Heap.lt_size e))) (k b o e)
    have z : hp.objs.size + 1 + 1 ≤ dx := by
      first
        | (simpa only [Heap.size_push] using dn)
        | exact dn
        | (have q := dn; rw [Heap.size_push, Heap.size_push] at q; exact q)
    exact ⟨rfl, hq h' tk' (hp.objs.size + 1) dx ⟨old, Nat.le_succ _, ⟨_, _, hx, rfl, rfl, rfl, rfl⟩, Nat.le_trans (Nat.le_trans (Nat.le_succ _) (Nat.le_succ _)) z, dne, hns⟩⟩
end
end PartX
end PySem
namespace L2
open PySem PySem.Spec PyProof.Rows
theorem relO_part {v : V} {v' : Value} (r : RelV v v') (f : Str) : RelO (List.lookup f [(("part" : Str), v)]) (if f = "part" then some v' else none) := by
  by_cases hw : f = "part"
  · subst hw
    rw [if_pos rfl]
    have q : List.lookup ("part" : Str) [(("part" : Str), v)] = some v := by simp [List.lookup]
    rw [q]
    exact r
  · rw [if_neg hw]
    have qw : (f == ("part" : Str)) = false := by simpa using hw
    have q2 : List.lookup f [(("part" : Str), v)] = none := by simp [List.lookup, qw]
    rw [q2]
    trivial
section
variable {X : Cx} {nmE qI : Str} {C fI : Addr}
/-- Low(e) -/
def tMkPart (C : Addr) (ta : TA) : St → Hp → XK → Prop := fun σ H Q => ta σ H fun vs H1 => ∃ v, vs = [v] ∧ ∀ d, H1 d = none → Q (.ref C) (some d) (upd H1 d (.xd [(("part" : Str), v)]))
theorem pmk_part {a : Expr} {ta : TA} {p pos : Pos} {k : Nat} (T : PySem.PartX.PartTxt X.K X.mg nmE qI C fI) (hr : Room k X.A) (ha : PA X [a] ta) (hg : Gl X nmE) (hdb : (nmE == ("__debug__" : Str)) = false := by decide)
    (he : starEach (a :: []) X.env = (false, eval a X.env) :: starEach [] X.env := by rfl) (hpl : (backTo pos (starEach [] X.env)).any (·.1) = false := by rfl) :
    PMk X (.Call (.Name nmE p) [a] [] pos) (tMkPart C ta) := by
  intro pins s σ H Q I h
  refine wpAny_Call_Name_kw (ld_glob I hg T.gC ?_ hdb)
  refine PySem.W.callWith_K (h₀ := X.base) I.ok.mod.kin T.kC (thn (ha.run pos pins s σ H _ I h) fun us s1 hh => ?_) he hpl
  obtain ⟨vs, H1, I1, r1, v, ev, q1⟩ := hh
  subst ev
  refine ⟨I1.kIn, ?_⟩
  cases r1 with
  | cons rv rn =>
    rename_i v' us'
    cases rn
    show wpAny _ _ (call (.ref C) [v']) _ _ _
    have hlim := I1.nolimit
    obtain ⟨hp, g, dr, tk, os⟩ := s1
    refine wpAny_call (PySem.PartX.part_made T I1.kIn hlim (by have := hr.dp; omega) fun h' tk' e d M => ?_)
    show MkP X pins σ Q (.ref e) ⟨h', g, dr, tk', os⟩
    obtain ⟨oe, fv, hoe, hc, hd, hdat, h1⟩ := M.obj
    have hns := M.ns
    obtain ⟨G', g1, g2⟩ := restrict h' fun b => decide (b ≠ e)
    have gk : ∀ b, b ≠ e → G'.get? b = h'.get? b := fun b hb => g1 b (decide_eq_true hb)
    have ge : G'.get? e = none := g2 e (by simp)
    have old : ∀ b o, hp.get? b = some o → G'.get? b = some o := fun b o q => (gk b (Nat.ne_of_lt (Nat.lt_of_lt_of_le (Heap.lt_size q) M.new))).trans (M.keep b o q)
    have ob : ObjOk X.prog X.w (upd H1 d (.xd [(("part" : Str), v)])) G' d (.xd [(("part" : Str), v)]) :=
      ⟨_, hns.at (fun o q => (gk d M.dne).trans q), fun f => relO_part rv f⟩
    have J : Inv X pins σ (upd H1 d (.xd [(("part" : Str), v)])) ⟨G', g, dr, tk', os⟩ := I1.laid (t' := tk') old M.dbig ob
    refine ⟨e, oe, fv, ⟨G', g, dr, tk', os⟩, _, .ref C, some d, rfl, J, fun b o q => ?_, ge, hoe, ⟨hc, hd⟩, hdat, h1, ?_, rfl, I1.bare, raises_own T.exC T.tyC, q1 d (I1.hok.fresh M.dbig)⟩
    · by_cases hb : b = e
      · have q' : G'.get? b = some o := q
        rw [hb, ge] at q'; cases q'
      · exact (gk b hb).symm.trans q
    · rw [upd_ne (Ne.symm M.dne)]
      exact I1.hok.fresh M.new
/-- raise Low(e) -/
def tRaisePart (C : Addr) (W : WX) (ta : TA) : TS := fun _ σ H => tMkPart C ta σ H fun cls d H' => W cls d σ H'
theorem ps_raisePart {a : Expr} {ta : TA} {W : WX} {p pos pos2 : Pos} {k : Nat} (hc : X.calm = true) (T : PySem.PartX.PartTxt X.K X.mg nmE qI C fI) (hr : Room k X.A) (tk : Takes X W) (ha : PA X [a] ta) (hg : Gl X nmE) (hdb : (nmE == ("__debug__" : Str)) = false := by decide)
    (he : starEach (a :: []) X.env = (false, eval a X.env) :: starEach [] X.env := by rfl) (hpl : (backTo pos (starEach [] X.env)).any (·.1) = false := by rfl) :
    PS X (.Raise (some (.Call (.Name nmE p) [a] [] pos)) none pos2) (tRaisePart C W ta) := ps_raise hc tk (pmk_part T hr ha hg hdb he hpl)

end
end L2
end S_Wc
section S_Wd
namespace Hk
open PySem PySem.Spec PyProof.Rows L2 LamX
theorem takes_len {X : Cx} {W : WX} (tk : L2.Takes X W) : L2.Takes X (fun cls d σ H => σ.length = X.N.length → W cls d σ H) := fun u s' ⟨a, B, sI, pins, σ, H, cls, d, e, I, nb, up, sky, na, os, ag, w⟩ =>
  tk u s' ⟨a, B, sI, pins, σ, H, cls, d, e, I, nb, up, sky, na, os, ag, w I.len⟩
abbrev nAsk : List Str := ["ask", "caught", "error"]
/-- caught = None / try: ask() / except E as error: caught = error / return ret -/
def THeard (K : PySem.W.Frag) (CS : Addr) (tr : TE) : (XK → Hp → VK → Prop) → Hp → VK → Prop := fun tl H Q => ∀ f : Addr,
  tl (fun cls d H' => PySem.W.exmOne K cls (.ref CS) = some true ∧ ∀ a, H' a = none → ∀ σ' : L2.St, σ'.length = 3 → σ'[1]? = some (some (.ref a)) → tr σ' (upd H' a (ErrAt cls d a)) Q) H
    fun _ H' => tr [some (.ref f), some .non, none] H' Q
abbrev cxA (X : Cx) (x : Str) (sg : Scope) (g : Addr) (cdg : Value) (A : Around) (s : Shared) (H : Hp) : Cx := (cxOf C8.CX0 X.prog X.w X.K X.mg X.base nAsk x sg g cdg A X.stack s H C8.E0).nox
theorem heard_gives {X : Cx} {x e q : Str} {sg : Scope} {g CS : Addr} {cdg : Value} {j : Nat} {rt : Expr} {tr : TE} {p1 p2 p3 p4 p5 p6 p7 p8 p9 r1 r2 r3 r4 : Pos} (Sg : FnScope nAsk ["ask"] sg) (k1 : sg.names.lookup ("caught" : Str) = some NameKind.local) (k2 : sg.names.lookup ("error" : Str) = some NameKind.local)
    (hge : sg.names.lookup e = some .globalImplicit) (hme : X.mg e = some (.ref CS)) (hde : (e == ("__debug__" : Str)) = false)
    (hrt : ∀ (A : Around) (s : Shared) (H : Hp), PE (cxA X x sg g cdg A s H) rt tr) :
    GivesTo X nAsk x sg g cdg [.Assign [.Name "caught" p1] (.Constant .none j p2) p3, .Try [.Expr (.Call (.Name "ask" r1) [] [] r2) r3] [.ExceptHandler (some (.Name e p4)) (some "error") [.Assign [.Name "caught" p5] (.Name "error" p6) p7] p8] [] [] p9, .Return (some rt) r4] "ask" q (THeard X.K CS tr) := by
  intro f c' s H Q tl act hc h
  have gE : Gl (cxA X x sg g cdg X.A s H) e := hge
  have l1 : ∀ {Y : Cx}, Y.env.scope = sg → (Y.fn "caught" = true ∨ Y.env.scope.names.lookup ("caught" : Str) = some NameKind.local) := fun e => .inr (by rw [e]; exact k1)
  refine ⟨_, pss_cons (ps_set (X := cxA X x sg g cdg X.A s H) (i := 1) Sg.nd rfl (Or.inl k1) pe_non rfl (l1 rfl)) (pss_cons (ps_keep (X := cxA X x sg g cdg X.A s H) (i := 2) (c := .ref CS) (ts := fun _ _ _ => tAsg (tVar 2) (gName 1))
      (tb := fun W D σ H => ∃ Ech : XK, (∀ cls d σ' H', Ech cls d H' → σ'.length = 3 → W cls d σ' H') ∧ σ[0]? = some (some (.ref f)) ∧ H c' = some (CodeO c' q) ∧ tl Ech H (fun _ H' => D.nx σ H'))
      rfl rfl rfl Sg.nd rfl k2 ⟨gE, hde, Or.inl hme⟩ (fun W pn xe tk _ => ?_) (fun a oe cls d pn _ _ => pss_one (ps_set (i := 1) Sg.nd rfl (Or.inl k1) (pe_var (i := 2) rfl (Or.inl k2)) rfl (l1 rfl)))) (pss_one (ps_ret (hrt X.A s H)))), ?_⟩
  · refine ⟨fun pins s' σ H' D I h' => ?_⟩
    obtain ⟨Ech, hW, h1, h2, h3⟩ := h'
    have hp := act (fun cls d σ H => σ.length = nAsk.length → W cls d σ H) pn xe Ech r1 r2 (takes_len tk) hW
    exact (pss_one (ps_expr (pos := r3) hp)).run pins s' σ H' D I ⟨h1, h2, h3⟩
  · have h' : tl (fun cls d H' => PySem.W.exmOne X.K cls (.ref CS) = some true ∧ ∀ a, H' a = none → ∀ σ' : L2.St, σ'.length = 3 → σ'[1]? = some (some (.ref a)) → tr σ' (upd H' a (ErrAt cls d a)) Q) H (fun _ H' => tr [some (V.ref f), some .non, none] H' Q) := h f
    refine ⟨fun cls d H' => PySem.W.exmOne X.K cls (.ref CS) = some true ∧ ∀ a, H' a = none → ∀ σ' : L2.St, σ'.length = 3 → σ'[1]? = some (some (.ref a)) → tr σ' (upd H' a (ErrAt cls d a)) Q, ?_, rfl, hc, h'⟩
    intro cls d σ' H' hh hl
    obtain ⟨he, hk⟩ := hh
    refine ⟨he, fun a na => ?_⟩
    exact ⟨.ref a, by rw [List.getElem?_set_self (by omega)] <;> rfl, fun na' => hk a na' _ (by simp [hl]) (by rw [List.getElem?_set_ne (by decide), List.getElem?_set_self (by simp [hl])] <;> rfl)⟩
end Hk
end S_Wd
section S_We
namespace Hk
open PySem PySem.Spec PyProof.Rows L2 LamX Tl
/-- the law's own call where no repr is under way, its code object's table tracked -/
theorem law_gT {P : Program} {w : World} {K : PySem.W.Frag} {mg mb : Str → Option Value} {k : Nat} {fa a c T : Addr} {fd : FuncData} {x : Str} {sp : Sp} {s₁ : Shared} {vs : List Value} {ns : List Int}
    (kin : K.In s₁.heap) (hns : s₁.heap.Ns mainGlobals mg) (hb : s₁.heap.Ns builtinsNs mb) (hbb : ∀ x : Str, x ≠ "__name__" → mb x = bootBuiltins x) (hlim : s₁.heap.NoLimit) (hg : s₁.gens = #[])
    (hT : s₁.heap.get? T = some { cls := .none, data := .fields #[] }) (nT : K.lookup T = none) (hC : PySem.W.CodeHd s₁.heap c T)
    (hbm : ∃ (bm : Addr) (ob : Obj), mg "__builtins__" = some (.ref bm) ∧ bm ≠ builtinsNs ∧ s₁.heap.get? bm = some ob ∧ ob.cls = .type "module" ∧ ob.dict = some builtinsNs ∧ ob.data = .plain)
    (ha : s₁.heap.get? a = some { cls := .type "list", data := .seq vs.toArray }) (hi : IntsAre vs ns) (hl : ns.length ≤ sizeLine) (hr : Room k callerA)
    (F : ∀ base : Heap, K.In base → base.Ns mainGlobals mg → TabB base mg c T → FnG P w K mg base k fa fd [x] sp) (hbind : ∀ (s : Shared) (u : Value), BindsTo s fd ⟨[u], []⟩ [(x, u)])
    (hsp : ∀ H : Hp, H T = some (.tbl #[]) → SqL K H a (ns.map V.int) → sp [.ref a] H (fun v _ => v = .bl true) fun _ _ _ => False) :
    codeAny (model P w) callerA (.call (.ref fa) ⟨[.ref a], []⟩) (fun r s' => r = .ok (.ret (.bool true)) ∧ OldK s₁.heap s'.heap ∧ s'.os = s₁.os ∧ AllBare s'.gens) s₁ := by
  have rv := vals_ints hi
  have aT : a ≠ T := fun z => by
    rw [z, hT] at ha
    have z' : Data.fields #[] = Data.seq vs.toArray _ := congrArg Obj.data (Option.some.inj ha)
    cases z'
  have run : ∀ H : Hp, H T = some (.tbl #[]) → SqL K H a (ns.map V.int) → HOk P w H s₁.heap → (∀ b u, H b = some u → b = T ∨ (b = a ∧ K.lookup a = none ∧ ∃ o xs, u = .frz o (.lst xs))) →
      codeAny (model P w) callerA (.call (.ref fa) ⟨[.ref a], []⟩) (fun r s' => r = .ok (.ret (.bool true)) ∧ OldK s₁.heap s'.heap ∧ s'.os = s₁.os ∧ AllBare s'.gens) s₁ := by
    intro H hHT hS hok hA
    have keepB : ∀ {b : Addr} {o : Obj}, s₁.heap.get? b = some o → (∀ vs n, o.data ≠ .seq vs n) → o.data ≠ .fields #[] → (hidT s₁.heap H).get? b = some o := fun {b o} e h1 h2 => by
      refine hidT_get e ?_
      cases q : H b with
      | none => rfl
      | some u =>
        rcases hA b u q with e1 | ⟨e1, _⟩
        · rw [e1, hT] at e
          cases e
          exact absurd rfl h2
        · rw [e1, ha] at e
          cases e
          exact absurd rfl (h1 _ _)
    have ns_of : ∀ {b : Addr} {m : Str → Option Value}, s₁.heap.Ns b m → (hidT s₁.heap H).Ns b m := fun {b m} hm => by
      obtain ⟨o, es, ep, e, d, r⟩ := hm
      exact ⟨o, es, ep, keepB e (fun vs n z => by rw [d] at z; cases z) (fun z => by rw [d] at z; cases z), d, r⟩
    have kb : K.In (hidT s₁.heap H) := fun b o e => hidT_get (kin b o e) (by
      cases q : H b with
      | none => rfl
      | some u =>
        rcases hA b u q with e1 | ⟨e1, e2, _⟩
        · rw [e1, nT] at e
          cases e
        · rw [e1, e2] at e
          cases e)
    have hM : Mod K mg (hidT s₁.heap H) := ⟨kb, ns_of hns, ⟨mb, ns_of hb, hbb⟩, hlim.elim fun mc h => ⟨mc, ns_of h.1, h.2⟩⟩
    have e0 : Env0 P w K mg (hidT s₁.heap H) callerA [] s₁ H := ⟨rfl, hM, fun _ _ e => of_hidT e, by rw [hidT_size] <;> exact Nat.le_refl _, trivial, fun _ hb => (nomatch hb), hok, .of_eq hg⟩
    have TB : TabB (hidT s₁.heap H) mg c T := by
      refine ⟨?_, ?_, fun z => ?_⟩
      · obtain ⟨o, us, file, tf, flags, tg, inF, text, tt, e1, r1, r2, r3, r4⟩ := hC
        exact ⟨o, us, file, tf, flags, tg, inF, text, tt, keepB e1 (fun vs n z => by rw [r2] at z; cases z) (fun z => by rw [r2] at z; cases z; simp at r3), r1, r2, r3, r4⟩
      · obtain ⟨bm, ob, b1, b2, b3, b4, b5, b6⟩ := hbm
        refine ⟨bm, ob, b1, b2, fun q => ?_, fun q => ?_, keepB b3 (fun vs n z => by rw [b6] at z; cases z) (fun z => by rw [b6] at z; cases z), b4, b5, b6⟩
        · obtain ⟨o, es, ep, e, hd, _⟩ := hns
          rw [q, e] at b3
          cases b3
          rw [hd] at b6
          cases b6
        · rw [q, hT] at b3
          cases b3
          cases b6
      · obtain ⟨o, es, ep, e, hd, _⟩ := hns
        rw [z, hT] at e
        cases e
        cases hd
    refine codeAny_mono ((F _ kb (ns_of hns) TB).go rfl hr e0 (us := [.ref a]) (hbind s₁ (.ref a)) (vs := [.ref a]) (.cons rfl .nil) (hsp H hHT hS)) fun r s' h => ?_
    match r, h with
    | .ok (.ret u), h =>
      obtain ⟨v, H', os, bare, un, hok', r', q⟩ := h
      cases (show v = .bl true from q)
      cases (show u = Value.bool true from r')
      obtain ⟨more, zT⟩ := un.tbls T #[] hHT
      have grown : s'.heap.get? T = some { cls := .none, data := .fields more } := by
        have q := hok' T _ zT
        rw [Array.empty_append] at q
        exact q
      have others : ∀ b o, b ≠ T → s₁.heap.get? b = some o → s'.heap.get? b = some o := fun b o nb e => by
        cases q : H b with
        | none => exact un.keep b o e q (fun y => (nomatch y)) (fun y => (nomatch y))
        | some u =>
          rcases hA b u q with z | ⟨_, _, ob, xs, rfl⟩
          · exact absurd z nb
          · obtain ⟨e1, _⟩ := hok b _ q
            obtain ⟨e2, _⟩ := hok' b _ (un.frzs b ob _ q)
            rw [e] at e1
            cases e1
            exact e2
      refine ⟨rfl, ⟨fun b o e => ?_, fun b o e => ?_⟩, os, bare⟩
      · by_cases hb : b = T
        · subst hb
          rw [hT] at e
          cases e
          exact .inr (.inl ⟨(hC.tab hT).isCodeTable, rfl, #[], more, rfl, by rw [Array.empty_append]; exact grown⟩)
        · exact .inl (others b o hb e)
      · by_cases hb : b = T
        · subst hb
          exact ⟨_, grown⟩
        · exact ⟨o, others b o hb e⟩
    | .error e, h => exact False.elim h
    | .ok .next, h => exact False.elim h
    | .ok .brk, h => exact False.elim h
    | .ok .cont, h => exact False.elim h
  have tT : (if T = T then some (HO.tbl #[]) else none) = some (HO.tbl #[]) := if_pos rfl
  cases hk : K.lookup a with
  | some o =>
    have e := kin a o hk
    rw [ha] at e
    cases e
    refine run (fun b => if b = T then some (.tbl #[]) else none) tT (.inr ⟨_, vs.toArray, _, hk, rfl, rfl, rfl, ?_, by simpa using rv⟩) (fun b u z => ?_) (fun b u z => ?_)
    · rw [List.size_toArray, hi.length]
      exact hl
    · dsimp only at z
      by_cases hb : b = T
      · rw [if_pos hb] at z
        cases z
        rw [hb]
        exact hT
      · rw [if_neg hb] at z
        cases z
    · skip
      by_cases hb : b = T
      · exact .inl hb
      · rw [if_neg hb] at z
        cases z
  | none =>
    refine run (fun b => if b = T then some (.tbl #[]) else if b = a then some (.frz { cls := .type "list", data := .seq vs.toArray } (.lst (ns.map V.int))) else none) (if_pos rfl) (.inl (.inr ⟨_, by dsimp only; rw [if_neg aT, if_pos rfl]⟩)) (fun b u z => ?_) fun b u z => ?_
    · dsimp only at z
      by_cases hb : b = T
      · rw [if_pos hb] at z
        cases z
        rw [hb]
        exact hT
      · rw [if_neg hb] at z
        by_cases hb2 : b = a
        · rw [if_pos hb2] at z
          cases z
          subst hb2
          exact ⟨ha, by rw [List.length_map]; exact hl, vs, _, rv, ha⟩
        · rw [if_neg hb2] at z
          cases z
    · skip
      by_cases hb : b = T
      · exact .inl hb
      · rw [if_neg hb] at z
        by_cases hb2 : b = a
        · rw [if_pos hb2] at z
          cases z
          exact .inr ⟨hb2, hk, _, _, rfl⟩
        · rw [if_neg hb2] at z
          cases z
theorem walk_gT {l : PySem.W.OpenLaw} {n k : Nat} {q : Program} {loose : List Str} {XP : (Str → Option Value) → Heap → Prop} {YP : World → Heap → Prop} {d : DefRec} {K : Params → PySem.W.Frag} {x : Str}
    (hn : l.most = some n) (hn2 : n ≤ sizeLine) (hdf : d.params.defaults = []) (hr : Room k callerA) (hrec : ((recsOf q).any fun e => e.name == d.name) = true) (hY : ∀ (w : World) (h : Heap), YP w h → (K w.params).In h)
    (F : ∀ (w : World) (mg : Str → Option Value) (fa : Addr) (h : Heap), (K w.params).In h → h.Ns mainGlobals mg → mg d.name = some (.ref fa) →
      ∃ (fd : FuncData) (T c : Addr) (o : Obj) (sp : Sp) (e : Value) (dd : Option Addr) (vs : Array Value) (sl : Array (Option Value)), (K w.params).lookup fa = some o ∧ o.data = .func fd ∧ fd.code = .ref c ∧ (K w.params).lookup c = some ⟨e, dd, .fields vs, sl⟩ ∧ vs[11]? = some (.ref T) ∧ (K w.params).lookup T = none ∧ (∀ (s : Shared) (u : Value), BindsTo s fd ⟨[u], []⟩ [(x, u)]) ∧
        (∀ (H : Hp) (a : Addr) (ns : List Int), ns.length ≤ n → H T = some (.tbl #[]) → SqL (K w.params) H a (ns.map V.int) → sp [.ref a] H (fun v _ => v = .bl true) fun _ _ _ => False) ∧
        ∀ base : Heap, (K w.params).In base → base.Ns mainGlobals mg → TabB base mg c T → FnG l.prog w (K w.params) mg base k fa fd [x] sp) :
    PySem.W.WalkO q loose XP YP l.row.toRowW d [] (fun f vs => PySem.call f vs) := by
  refine Att.attach_call hn hdf fun w s₀ s₁ mg mb fa o pm cd doc a vs ns G Y ho hd hcd hmg hobj hints hlen hg => ?_
  have kin := hY w _ Y
  obtain ⟨fd, T, c, o1, sp, e, dd, us, sl, k1, k2, k3, k4, k5, nT, h1, hs, h2⟩ := F w mg fa _ kin G.T.g hmg
  obtain ⟨dL, hm, hn1⟩ := List.any_eq_true.mp hrec
  have hn2' : dL.name = d.name := beq_iff_eq.mp hn1
  obtain ⟨a', o', fd', c', P', g1, g2, g3, g4, g5, g6⟩ := G.T.tab dL hm
  rw [hn2', hmg] at g1
  cases g1
  have q1 := kin _ _ k1
  rw [q1] at g2
  cases g2
  rw [k2] at g3
  cases g3
  rw [k3] at g4
  cases g4
  have hC := PySem.W.CodeHd.of g5 g6
  obtain ⟨⟨oc, vc, e1, _, e3, e4⟩, hP⟩ := g6
  have q2 := kin _ _ k4
  rw [q2] at e1
  cases e1
  cases e3
  rw [k5] at e4
  cases e4
  exact law_gT kin G.T.g G.T.b G.T.builtins G.T.nolimit hg hP nT hC G.T.bmain hobj hints (Nat.le_trans hlen hn2) hr h2 h1 fun H hHT hS => hs H a ns hlen hHT hS
end Hk
end S_We
section S_Ja
namespace P61
open PySem PySem.Spec PyProof.Rows L2 Tl Hk
def topS (i : Nat) : Stmt := PySem.Challenge.pw_threelanes_k61_two_labels_tell_by_themse.main.body.getD i (.Pass ⟨0, 0, 0, 0⟩)
abbrev sInteger : Stmt := topS 1
abbrev sWithin : Stmt := topS 2
abbrev sList : Stmt := topS 3
abbrev sRow : Stmt := topS 4
abbrev sNumberIn : Stmt := topS 11
abbrev sIsSeat : Stmt := topS 15
abbrev sLabelText : Stmt := topS 19
abbrev sAreTied : Stmt := topS 20
abbrev sLabelIn : Stmt := topS 21
abbrev sSayTied : Stmt := topS 22
abbrev sWanted : Stmt := topS 23
abbrev sSmallSeat : Stmt := topS 24
abbrev sNearPieces : Stmt := topS 25
abbrev sNearPiece : Stmt := topS 26
abbrev sSignOf : Stmt := topS 27
abbrev sTells : Stmt := topS 28
abbrev sTub : Stmt := topS 30
abbrev sScoop : Stmt := topS 31
abbrev sPick : Stmt := topS 32
abbrev sLTells : Stmt := topS 33
abbrev sLTied : Stmt := topS 34
abbrev sLSigns : Stmt := topS 35
abbrev sLLabel : Stmt := topS 36
abbrev sLText : Stmt := topS 37
abbrev sLNear : Stmt := topS 38
abbrev sLaw : Stmt := topS 39
/-- a plain value and the name of its type -/
inductive Ty7 (K : PySem.W.Frag) (H : Hp) : V → String → Prop where
  | non : Ty7 K H .non "NoneType"
  | bl (b : Bool) : Ty7 K H (.bl b) "bool"
  | int (i : Int) : Ty7 K H (.int i) "int"
  | str (s : Str) : Ty7 K H (.str s) "str"
  | lst {a : Addr} {xs : List V} (h : SqL K H a xs) : Ty7 K H (.ref a) "list"
  | tup {a : Addr} {xs : List V} (h : SqT K H a xs) : Ty7 K H (.ref a) "tuple"
  | dK {a : Addr} {kvs : List (L2.Key × V)} (h : H a = some (.dK kvs)) : Ty7 K H (.ref a) "dict"
section
variable {K : PySem.W.Frag} {H H' : Hp} {x : V} {n : String}
theorem Ty7.tyx (h : Ty7 K H x n) : TyX K H x (.type n) := by
  cases h with
  | non => exact .base .non
  | bl b => exact .base (.bl b)
  | int i => exact .base (.int i)
  | str s => exact .base (.str s)
  | lst h =>
    rcases h with (h | ⟨o, h⟩) | ⟨o, its, m, h1, h2, _⟩
    · exact .base (.lst h)
    · exact .base (.frz h)
    · exact .kList h1 h2
  | tup h =>
    rcases h with (h | ⟨o, h⟩) | ⟨o, its, m, h1, h2, _⟩
    · exact .base (.tup h)
    · exact .fTuple h
    · exact .kTuple h1 h2
  | dK h => exact .base (.dK h)
theorem Ty7.ex (h : Ty7 K H x n) (e : Evl.Ex H H') : Ty7 K H' x n := by
  cases h with
  | non => exact .non
  | bl b => exact .bl b
  | int i => exact .int i
  | str s => exact .str s
  | lst h => exact .lst (Evl.ex_l e h)
  | tup h => exact .tup (Evl.ex_t e h)
  | dK h => exact .dK (e _ _ h)
/-- isinstance of one built-in class -/
def is7 (n c : String) : Bool := (L2.kitB n c).getD false
theorem Ty7.kit (h : Ty7 K H x n) {c : String} (hc : c = "int" ∨ c = "bool" ∨ c = "list" ∨ c = "tuple") : PySem.W.kitOne K (.type n) (.type c) = some (is7 n c) := by
  refine kit_ty ?_
  rcases hc with rfl | rfl | rfl | rfl <;> cases h <;> decide +kernel
theorem Ty7.isInt (h : Ty7 K H x n) : (is7 n "int" && !is7 n "bool") = decide (n = "int") := by
  cases h <;> decide +kernel
theorem Ty7.isSeq (h : Ty7 K H x n) : (is7 n "list" || is7 n "tuple") = (decide (n = "list") || decide (n = "tuple")) := by
  cases h <;> decide +kernel
theorem rc_isi (h : Ty7 K H x n) {c : String} (hc : c = "int" ∨ c = "bool" ∨ c = "list" ∨ c = "tuple") : Evl.RC (rIsi K) [x, .ty c] H (.bl (is7 n c)) :=
  fun H1 e _ q => ⟨x, .ty c, .type n, .type c, is7 n c, rfl, .ty c, (h.ex e).tyx, (h.ex e).kit hc, q H1 (Evl.Ex.refl H1)⟩
theorem rv_isN : Evl.RV (fun x y H Q => y = .non ∧ Q (.bl (decide (x = .non))) H) x .non H (.bl (decide (x = .non))) := fun H1 _ _ q => ⟨rfl, q H1 (Evl.Ex.refl H1)⟩
end
/-- None, or an integer -/
def Bnd : V → Prop
  | .non => True
  | .int _ => True
  | _ => False
def okLo : V → Int → Bool
  | .int j, i => decide (j ≤ i)
  | _, _ => true
def okHi : V → Int → Bool
  | .int j, i => decide (i ≤ j)
  | _, _ => true
/-- whether it is an integer within the bounds -/
def wi : V → V → V → Bool
  | .int i, lo, hi => okLo lo i && okHi hi i
  | _, _, _ => false
def spInteger (K : PySem.W.Frag) : Sp := fun vs H Q _ => ∃ (x : V) (n : String), vs = [x] ∧ Ty7 K H x n ∧ ∀ H1, Evl.Ex H H1 → Q (.bl (decide (n = "int"))) H1
theorem spv_integer {K : PySem.W.Frag} {H : Hp} {x : V} {n : String} (h : Ty7 K H x n) : Evl.SpV (spInteger K) [x] H (.bl (decide (n = "int"))) := fun H1 e Q q E => ⟨x, n, rfl, h.ex e, q⟩
def spWithin (K : PySem.W.Frag) : Sp := fun vs H Q _ => ∃ (x lo hi : V) (n : String), vs = [x, lo, hi] ∧ Ty7 K H x n ∧ Bnd lo ∧ Bnd hi ∧ ∀ H1, Evl.Ex H H1 → Q (.bl (wi x lo hi)) H1
theorem spv_within {K : PySem.W.Frag} {H : Hp} {x lo hi : V} {n : String} (h : Ty7 K H x n) (h1 : Bnd lo) (h2 : Bnd hi) : Evl.SpV (spWithin K) [x, lo, hi] H (.bl (wi x lo hi)) := fun H1 e Q q E => ⟨x, lo, hi, n, rfl, h.ex e, h1, h2, q⟩
def spList (K : PySem.W.Frag) : Sp := fun vs H Q _ => ∃ (x : V) (n : String), vs = [x] ∧ Ty7 K H x n ∧ ∀ H1, Evl.Ex H H1 → Q (.bl (decide (n = "list") || decide (n = "tuple"))) H1
theorem spv_list {K : PySem.W.Frag} {H : Hp} {x : V} {n : String} (h : Ty7 K H x n) : Evl.SpV (spList K) [x] H (.bl (decide (n = "list") || decide (n = "tuple"))) := fun H1 e Q q E => ⟨x, n, rfl, h.ex e, q⟩
theorem scInteger : FnScope ["value"] ["value"] (defScope sInteger) := ⟨rfl, rfl, rfl, by decide +kernel, rfl, by decide +kernel, by decide +kernel⟩
theorem scWithin : FnScope ["value", "least", "most"] ["value", "least", "most"] (defScope sWithin) := ⟨rfl, rfl, rfl, by decide +kernel, rfl, by decide +kernel, by decide +kernel⟩
theorem scList : FnScope ["value"] ["value"] (defScope sList) := ⟨rfl, rfl, rfl, by decide +kernel, rfl, by decide +kernel, by decide +kernel⟩
section
variable {P : Program} {w : World} {K : PySem.W.Frag} {mg : Str → Option Value} {base : Heap}
theorem ok_integer {f : Addr} {fd : FuncData} {k : Nat} (F : Fun K "is_integer" "is_integer" sInteger f fd) (mi : mg "isinstance" = none) (mint : mg "int" = none) (mbool : mg "bool" = none) : FnOk P w K mg base CX0 (k + 1) f fd ["value"] (spInteger K) := by
  refine F.ok scInteger (fun vs H Q E h => ?_) (fun cdv A outer s H vs Q E hr h => ?_)
  · obtain ⟨x, n, rfl, _⟩ := h
    rfl
  · obtain ⟨x, n, rfl, h, q⟩ := h
    refine ⟨_, pss_one (ps_ret (pe_and (pe_callB call_isi (by rfl) mi (by decide +kernel) (pa_cons (pv 0) (pa_cons (pe_bltn (v := .ty "int") (by rfl) mint (by decide +kernel) rfl) pa_nil)))
      (pe_one (pe_not (pe_callB call_isi (by rfl) mi (by decide +kernel) (pa_cons (pv 0) (pa_cons (pe_bltn (v := .ty "bool") (by rfl) mbool (by decide +kernel) rfl) pa_nil))))))), ?_⟩
    refine Evl.s_ret (v := .bl (is7 n "int" && !is7 n "bool")) (Evl.ev_andV (Evl.ev_cb (Evl.ea_cons (Evl.ev_var rfl) (Evl.ea_cons Evl.ev_c Evl.ea_nil)) (rc_isi h (.inl rfl))) fun _ =>
      Evl.ev_notV (Evl.ev_cb (Evl.ea_cons (Evl.ev_var rfl) (Evl.ea_cons Evl.ev_c Evl.ea_nil)) (rc_isi h (.inr (.inl rfl))))) fun H1 e1 => ?_
    rw [h.isInt]
    exact q H1 e1
theorem ok_list {f : Addr} {fd : FuncData} {k : Nat} (F : Fun K "is_list" "is_list" sList f fd) (mi : mg "isinstance" = none) (ml : mg "list" = none) (mt : mg "tuple" = none) : FnOk P w K mg base CX0 (k + 1) f fd ["value"] (spList K) := by
  refine F.ok scList (fun vs H Q E h => ?_) (fun cdv A outer s H vs Q E hr h => ?_)
  · obtain ⟨x, n, rfl, _⟩ := h
    rfl
  · obtain ⟨x, n, rfl, h, q⟩ := h
    refine ⟨_, pss_one (ps_ret (pe_callB call_isiT (by rfl) mi (by decide +kernel) (pa_cons (pv 0) (pa_cons (pe_tup (pa_cons (pe_bltn (v := .ty "list") (by rfl) ml (by decide +kernel) rfl) (pa_cons (pe_bltn (v := .ty "tuple") (by rfl) mt (by decide +kernel) rfl) pa_nil))) pa_nil)))), ?_⟩
    refine ⟨x, rfl, (by show 2 ≤ sizeLine; decide), fun T hT => ⟨x, T, [.ty "list", .ty "tuple"], .type n, [.type "list", .type "tuple"], is7 n "list" || is7 n "tuple", rfl, upd_same, .cons (.ty _) (.cons (.ty _) .nil), (h.ex (Evl.Ex.new hT)).tyx, ?_, ?_⟩⟩
    · refine kitAny_cons (h.kit (.inr (.inr (.inl rfl)))) (fun hb => kitAny_cons (h.kit (.inr (.inr (.inr rfl)))) (fun hb2 => ?_) fun hb2 => ?_) fun hb => ?_
      · rw [hb, hb2]; exact kitAny_nil
      · rw [hb2, Bool.or_true]
      · rw [hb, Bool.true_or]
    · show Q _ _
      rw [h.isSeq]
      exact q _ (Evl.Ex.new hT)
theorem ok_within {f fI : Addr} {fd fdI : FuncData} {k : Nat} (F : Fun K "is_within" "is_within" sWithin f fd) (FI : Fun K "is_integer" "is_integer" sInteger fI fdI) (GI : FnOk P w K mg base CX0 k fI fdI ["value"] (spInteger K)) (bI : Binds K fdI ["value"] []) (gI : mg "is_integer" = some (.ref fI)) :
    FnOk P w K mg base CX0 (k + 1) f fd ["value", "least", "most"] (spWithin K) := by
  refine F.ok scWithin (fun vs H Q E h => ?_) (fun cdv A outer s H vs Q E hr h => ?_)
  · obtain ⟨x, lo, hi, n, rfl, _⟩ := h
    rfl
  · obtain ⟨x, lo, hi, n, rfl, h, hlo, hhi, q⟩ := h
    refine ⟨_, pss_cons (ps_if (pt_not (pt_val (pe_call GI hr (by rfl) gI FI.kp bI .nil pass0 (pa_cons (pv 0) pa_nil)))) (pss_one (ps_ret pe_bl)) pss_nil)
      (pss_one (ps_ret (pe_and (pe_or (pe_cmpR op_isN (pv 1) pe_non (nomark _)) (pe_one (pe_cmpR op_ge (pv 0) (pv 1) (nomark _)))) (pe_one (pe_or (pe_cmpR op_isN (pv 2) pe_non (nomark _)) (pe_one (pe_cmpR op_le (pv 0) (pv 2) (nomark _)))))))), ?_⟩
    refine Evl.q_when (Evl.et_not (Evl.et_B (Evl.ev_call (Evl.ea_cons (Evl.ev_var rfl) Evl.ea_nil) (spv_integer h)))) (fun hb H1 e1 => ?_) (fun hb H1 e1 => ?_)
    · refine Evl.s_ret Evl.ev_c fun H2 e2 => ?_
      have hw : wi x lo hi = false := by
        cases h with
        | int i => exact absurd hb (by decide)
        | _ => rfl
      rw [← hw]
      exact q H2 (e1.trans e2)
    · cases h with
      | int i =>
        have hA : Evl.Ev (tOrV (tOp (fun x y H Q => y = .non ∧ Q (.bl (decide (x = .non))) H) (tVar 1) (tC .non)) (tOp (rI0 fun i j => V.bl (decide (j ≤ i))) (tVar 0) (tVar 1))) (start ["value", "least", "most"] [.int i, lo, hi]) H1 (.bl (okLo lo i)) := by
          cases lo with
          | non => exact Evl.ev_is (Evl.ev_orV (b := true) (Evl.ev_op (Evl.ev_var rfl) Evl.ev_c rv_isN) fun z => absurd z (by decide)) rfl
          | int j => exact Evl.ev_is (Evl.ev_orV (Evl.ev_op (Evl.ev_var rfl) Evl.ev_c rv_isN) fun _ => Evl.ev_op (Evl.ev_var rfl) (Evl.ev_var rfl) Evl.rv_I0) (by rw [show decide (V.int j = V.non) = false from rfl] <;> rfl)
          | _ => exact hlo.elim
        have hB : Evl.Ev (tOrV (tOp (fun x y H Q => y = .non ∧ Q (.bl (decide (x = .non))) H) (tVar 2) (tC .non)) (tOp (rI0 fun i j => V.bl (decide (i ≤ j))) (tVar 0) (tVar 2))) (start ["value", "least", "most"] [.int i, lo, hi]) H1 (.bl (okHi hi i)) := by
          cases hi with
          | non => exact Evl.ev_is (Evl.ev_orV (b := true) (Evl.ev_op (Evl.ev_var rfl) Evl.ev_c rv_isN) fun z => absurd z (by decide)) rfl
          | int j => exact Evl.ev_is (Evl.ev_orV (Evl.ev_op (Evl.ev_var rfl) Evl.ev_c rv_isN) fun _ => Evl.ev_op (Evl.ev_var rfl) (Evl.ev_var rfl) Evl.rv_I0) (by rw [show decide (V.int j = V.non) = false from rfl] <;> rfl)
          | _ => exact hhi.elim
        exact Evl.s_ret (Evl.ev_andV hA fun _ => hB) fun H2 e2 => q H2 (e1.trans e2)
      | _ => exact absurd hb (by decide)
end

theorem ev_allN {K : PySem.W.Frag} {ta : TE} {σ : L2.St} {H : Hp} {bs : List Bool} (h : Evl.EvL ta σ H (bs.map V.bl)) : Evl.Ev (tCB (rAll K) (tCons ta tNil)) σ H (.bl (bs.all id)) := fun H1 e Q q =>
  h H1 e _ fun p H2 _ e2 h2 => ⟨p, bs, rfl, Evl.sq_of h2, q H2 e2⟩
/-- a comprehension over a tuple that stands -/
theorem el_lcT {K : PySem.W.Frag} {a : Addr} {xs : List V} {tl te : TE} {t : TT} {σ : L2.St} {H : Hp} {j : Nat} {vs : List Nat} (f : Nat → Bool) (v : Nat → V) (h : Evl.Ev tl σ H (.ref a)) (hx : SqT K H a xs) (hz : xs.length ≤ 40000)
    (hw : ∀ x, wipe ((wipe σ vs).set j (some x)) vs = wipe σ vs) (ht : ∀ (i : Nat) (x : V) H1, Evl.Ex H H1 → xs[i]? = some x → Evl.EvT t ((wipe σ vs).set j (some x)) H1 (f i))
    (he : ∀ (i : Nat) (x : V) H1, Evl.Ex H H1 → xs[i]? = some x → f i = true → Evl.Ev te ((wipe σ vs).set j (some x)) H1 (v i)) : Evl.EvL (tLc (iTup K tl) (gName j) t te vs) σ H (Evl.given xs.length f v) := by
  intro H0 e Q q
  refine h H0 e _ fun H1 e1 => ⟨a, rfl, ⟨xs, Evl.ex_t (e.trans e1) hx⟩, fun Dl hD => lc_tup (xs := xs) (Evl.Cw H1 f v Dl) ⟨hD, Evl.Ex.new hD, upd_same⟩ (fun i H' _ p => Evl.ex_t ((e.trans e1).trans p.2.1) hx) (fun i x H' hi p => ⟨hw x, ?_⟩) fun H' p => q Dl H' (Evl.fresh_back e1 p.1) (e1.trans p.2.1) p.2.2⟩
  have hlt := (List.getElem?_eq_some_iff.mp hi).1
  exact Evl.cw_turn p (by omega) (ht i x H1 (e.trans e1) hi) fun hf => he i x H1 (e.trans e1) hi hf

end P61
end S_Ja
section S_Jb
namespace P61
open PySem PySem.Spec PyProof.Rows L2 Tl Hk
theorem scScoop : FnScope ["clerk", "many", "rest", "at", "cell", "mixed"] ["clerk", "many"] (defScope sScoop) := ⟨rfl, rfl, rfl, by decide +kernel, rfl, by decide +kernel, by decide +kernel⟩

/-- all but the object at t is as it was -/
def Kept (t : Addr) (H H' : Hp) : Prop := ∀ a o, a ≠ t → H a = some o → H' a = some o
theorem Kept.refl (t : Addr) (H : Hp) : Kept t H H := fun _ _ _ h => h
theorem Kept.trans {t : Addr} {H H1 H2 : Hp} (a : Kept t H H1) (b : Kept t H1 H2) : Kept t H H2 := fun x o n h => b x o n (a x o n h)
theorem Kept.of {t : Addr} {H H' : Hp} (e : Same H H') : Kept t H H' := fun x o _ h => e x o h
theorem Kept.upd (t : Addr) (H : Hp) (o : HO) : Kept t H (upd H t o) := fun a u n e => by
  rw [upd_ne n]
  exact e
theorem Kept.seq {K : PySem.W.Frag} {t : Addr} {H H' : Hp} {c : Addr} {xs : List V} (k : Kept t H H') (n : c ≠ t) (h : SqL K H c xs) : SqL K H' c xs := by
  rcases h with (h | ⟨o, h⟩) | h
  · exact .inl (.inl (k _ _ n h))
  · exact .inl (.inr ⟨o, k _ _ n h⟩)
  · exact .inr h
/-- the drawer of numbers at t: its cells at c, its turn of n at most, its rest -/
def Tub (H : Hp) (t c : Addr) (n : Nat) : Prop := ∃ (cs : List Int) (turn rest : Int),
  H t = some (.lst [.ref c, .int turn, .int rest]) ∧ H c = some (.lst (cs.map V.int)) ∧ c ≠ t ∧ cs.length ≤ 56 ∧ 0 ≤ turn ∧ turn ≤ n ∧ 0 ≤ rest
theorem Tub.mono {H : Hp} {t c : Addr} {n m : Nat} (T : Tub H t c n) (h : n ≤ m) : Tub H t c m := by
  obtain ⟨cs, turn, rest, h1, h2, h3, h4, h5, h6, h7⟩ := T
  exact ⟨cs, turn, rest, h1, h2, h3, h4, h5, by omega, h7⟩
theorem Tub.same {H H' : Hp} {t c : Addr} {n : Nat} (T : Tub H t c n) (e : Same H H') : Tub H' t c n := by
  obtain ⟨cs, turn, rest, h1, h2, h3, h4, h5, h6, h7⟩ := T
  exact ⟨cs, turn, rest, e _ _ h1, e _ _ h2, h3, h4, h5, h6, h7⟩
theorem Tub.ne {H : Hp} {t c p : Addr} {n : Nat} (T : Tub H t c n) (h : H p = none) : p ≠ t ∧ p ≠ c := by
  obtain ⟨cs, turn, rest, h1, h2, _⟩ := T
  exact ⟨(ne_of_none h1 h).symm, (ne_of_none h2 h).symm⟩
/-- an object that is neither of the drawer's two may change -/
theorem Tub.upd {H : Hp} {t c p : Addr} {n : Nat} {o : HO} (T : Tub H t c n) (h1 : p ≠ t) (h2 : p ≠ c) : Tub (upd H p o) t c n := by
  obtain ⟨cs, turn, rest, a1, a2, h⟩ := T
  refine ⟨cs, turn, rest, ?_, ?_, h⟩
  · rw [upd_ne h1.symm]
    exact a1
  · rw [upd_ne h2.symm]
    exact a2
theorem same_new {H : Hp} {p : Addr} {o : HO} (h : H p = none) : Same H (upd H p o) := fun b x e => by
  rw [upd_ne (ne_of_none e h)]
  exact e

open Evl in
theorem kept_ex {t : Addr} {H H' : Hp} (e : Evl.Ex H H') : Kept t H H' := fun x o _ h => e x o h
theorem Tub.ex {H H' : Hp} {t c : Addr} {n : Nat} (T : Tub H t c n) (e : Evl.Ex H H') : Tub H' t c n := T.same e
section
open Evl
variable {K : PySem.W.Frag} {σ : L2.St} {H H' : Hp} {ta tb te : TE} {x y z v : V}
theorem ev_int {i : Int} (h : Ev ta σ H (.int i)) : Ev (tCB (fun xs H Q => (∃ i, xs = [V.int i] ∧ Q (V.int i) H) ∨ ∃ k, xs = [V.bl k] ∧ Q (V.int (if k = true then 1 else 0)) H) (tCons ta tNil)) σ H (.int i) :=
  ev_cb (ea_cons h ea_nil) fun H1 _ _ q => .inl ⟨i, rfl, q H1 (Ex.refl H1)⟩
theorem ev_intB {b : Bool} (h : Ev ta σ H (.bl b)) : Ev (tCB (fun xs H Q => (∃ i, xs = [V.int i] ∧ Q (V.int i) H) ∨ ∃ k, xs = [V.bl k] ∧ Q (V.int (if k = true then 1 else 0)) H) (tCons ta tNil)) σ H (.int (if b = true then 1 else 0)) :=
  ev_cb (ea_cons h ea_nil) fun H1 _ _ q => .inr ⟨b, rfl, q H1 (Ex.refl H1)⟩
theorem ev_abs {i : Int} (h : Ev ta σ H (.int i)) : Ev (tCB (fun xs H Q => ∃ i, xs = [V.int i] ∧ Q (V.int (if i < 0 then -i else i)) H) (tCons ta tNil)) σ H (.int (if i < 0 then -i else i)) :=
  ev_cb (ea_cons h ea_nil) fun H1 _ _ q => ⟨i, rfl, q H1 (Ex.refl H1)⟩
theorem dp_ints {c : Addr} : ∀ (cs : List Int), DpAll K H (cs.map V.int) (cs.map PyData.int)
  | [] => .nil
  | i :: r => .cons (.int i) (dp_ints (c := c) r)
/-- a list of ints is not the empty one -/
theorem ev_neNil {c : Addr} {cs : List Int} (h : Ev ta σ H (.ref c)) (hc : SqL K H c (cs.map V.int)) : Ev (tOp (rNeD K) ta (tLst tNil)) σ H (.bl (!cs.isEmpty)) :=
  ev_opL (xs := []) h (el_lst ea_nil (Nat.zero_le _)) fun p H1 hp e => fun H2 e2 Q q => by
    refine ⟨.list (cs.map PyData.int), .list [], .lst (ex_l (e.trans e2) hc) (dp_ints (c := c) cs), .lst (sq_of (e2 _ _ hp)) .nil, PySem.W.ke_shaped_ints cs, by decide +kernel, ?_⟩
    have e3 : PyData.eqv (.list (cs.map PyData.int)) (.list []) = cs.isEmpty := by cases cs <;> rfl
    rw [e3]
    exact q H2 (Ex.refl H2)
theorem fmod_pos {a b : Int} (hb : 1 ≤ b) : 0 ≤ a.fmod b ∧ a.fmod b < b := by
  rw [Int.fmod_eq_emod_of_nonneg a (by omega)]
  exact ⟨Int.emod_nonneg _ (by omega), Int.emod_lt_of_pos _ (by omega)⟩
theorem fdiv_pos {a b : Int} (ha : 0 ≤ a) (hb : 1 ≤ b) : 0 ≤ a.fdiv b := by
  rw [Int.fdiv_eq_ediv_of_nonneg a (by omega)]
  exact Int.ediv_nonneg ha (by omega)
theorem mix_a {x turn : Int} (hx0 : 0 ≤ x) (hx : x < 2147483648) (h0 : 0 ≤ turn) (h1 : turn ≤ 1000000) : (x + 39566 * turn + 8350).natAbs < 2 ^ 64 := by omega
theorem mix_b {m turn : Int} (hm0 : 0 ≤ m) (hm : m < 2147483648) (h0 : 0 ≤ turn) (h1 : turn ≤ 1000000) : (m * (2 * turn + 6096) + 58746 * turn * turn + 39566).natAbs < 2 ^ 64 := by
  have a1 : m * (2 * turn + 6096) ≤ 2147483648 * 2006096 := Int.mul_le_mul (by omega) (by omega) (by omega) (by omega)
  have a2 : 0 ≤ m * (2 * turn + 6096) := Int.mul_nonneg hm0 (by omega)
  have b1 : 58746 * turn * turn ≤ 58746000000 * 1000000 := Int.mul_le_mul (by omega) (by omega) (by omega) (by omega)
  have b2 : 0 ≤ 58746 * turn * turn := Int.mul_nonneg (by omega) (by omega)
  generalize m * (2 * turn + 6096) = p at *
  generalize 58746 * turn * turn = r at *
  omega
theorem cell_at (cs : List Int) (turn d : Int) (h0 : 0 ≤ turn) : ∃ z, (cs.isEmpty = false → atI (cs.map V.int) (turn.fmod ((cs.map V.int).length : Int)) = some (.int z)) ∧ (cs.isEmpty = true → z = d) := by
  cases cs with
  | nil => exact ⟨d, fun h => (nomatch h), fun _ => rfl⟩
  | cons x r =>
    have hb := fmod_pos (a := turn) (b := (((x :: r).map V.int).length : Int)) (by rw [List.length_map, List.length_cons]; omega)
    obtain ⟨j, hj⟩ : ∃ j : Nat, turn.fmod (((x :: r).map V.int).length : Int) = (j : Int) := ⟨(turn.fmod (((x :: r).map V.int).length : Int)).toNat, by omega⟩
    rw [hj] at hb ⊢
    have hl : j < (x :: r).length := by
      rw [List.length_map] at hb
      omega
    refine ⟨(x :: r)[j], fun _ => atI_nat ?_, fun h => (nomatch h)⟩
    rw [List.getElem?_map, List.getElem?_eq_getElem hl]
    rfl
end

def spScoop : Sp := fun vs H Q _ => ∃ (t c : Addr) (many : Int) (n : Nat), vs = [.ref t, .int many] ∧ Tub H t c n ∧ n ≤ 1000000 ∧ 1 ≤ many ∧ many ≤ 100000 ∧
  ∀ r H', 0 ≤ r → r < many → Kept t H H' → Tub H' t c (n + 1) → Q (.int r) H'
section
variable {P : Program} {w : World} {K : PySem.W.Frag} {mg : Str → Option Value} {base : Heap}
theorem ok_scoop {f : Addr} {fd : FuncData} {k : Nat} (F : Fun K "_law_mark" "_law_mark" sScoop f fd) (mint : mg "int" = none) (mlen : mg "len" = none) (mabs : mg "abs" = none) : FnOk P w K mg base CX0 (k + 1) f fd ["clerk", "many"] spScoop := by
  refine F.ok scScoop (fun vs H Q E h => ?_) (fun cdv A outer s H vs Q E hr h => ?_)
  · obtain ⟨t, c, m, n, rfl, _⟩ := h
    rfl
  · obtain ⟨t, c, many, n, rfl, hT, hn, hm1, hm2, q⟩ := h
    have nd := scScoop.nd
    refine ⟨_, pss_cons (ps_if (pt_cmpR op_gt (pe_ix ix_list (pv 0) pe_int (fun _ _ => rfl)) pe_int (nomark _))
        (pss_cons (ps_set (i := 2) nd rfl (.inl rfl) (pe_callTy call_int1 (by rfl) mint (by decide +kernel) (pa_cons (pe_ix ix_list (pv 0) pe_int (fun _ _ => rfl)) pa_nil)))
        (pss_cons (ps_asg (pe_op op_fdivN (pv 2) (pv 1)) (pg_sub (pv 0) pe_int set_list))
        (pss_one (ps_ret (pe_op op_modN (pe_callTy call_int1 (by rfl) mint (by decide +kernel) (pa_cons (pv 2) pa_nil)) (pv 1)))))) pss_nil)
      (pss_cons (ps_set (i := 3) nd rfl (.inl rfl) (pe_ix ix_list (pv 0) pe_int (fun _ _ => rfl)))
      (pss_cons (ps_asg (pe_op op_add (pv 3) pe_int) (pg_sub (pv 0) pe_int set_list))
      (pss_cons (ps_set (i := 4) nd rfl (.inl rfl) (pe_op op_add (pe_op op_mul pe_int (pv 3)) pe_int))
      (pss_cons (ps_if (pt_cmpR (op_neD hr.units) (pe_ix ix_list (pv 0) pe_int (fun _ _ => rfl)) (pe_lst pa_nil) (nomark _))
        (pss_one (ps_set (i := 4) nd rfl (.inl rfl) (pe_ix ix_list (pe_ix ix_list (pv 0) pe_int (fun _ _ => rfl)) (pe_op op_modN (pe_callTy call_int1 (by rfl) mint (by decide +kernel) (pa_cons (pv 3) pa_nil)) (pe_callB call_len_seq (by rfl) mlen PySem.boot_len (pa_cons (pe_ix ix_list (pv 0) pe_int (fun _ _ => rfl)) pa_nil))) (fun _ _ => rfl)))) pss_nil)
      (pss_cons (ps_if (PW.pt (pw_and (pt_cmpR op_lt (pv 3) (pe_callB call_len_seq (by rfl) mlen PySem.boot_len (pa_cons (pe_ix ix_list (pv 0) pe_int (fun _ _ => rfl)) pa_nil)) (nomark _)) (pw_and1 (pt_cmpR op_ge (pe_callB call_abs (by rfl) mabs (by decide +kernel) (pa_cons (pv 4) pa_nil)) (pe_op op_pow pe_int pe_int) (nomark _)))))
        (pss_cons (ps_set (i := 2) nd rfl (.inl rfl) (pe_op op_add (pe_op op_mul pe_int (pe_op op_sub (pe_callB call_abs (by rfl) mabs (by decide +kernel) (pa_cons (pv 4) pa_nil)) (pe_op op_pow pe_int pe_int))) (pe_callTy call_int1 (by rfl) mint (by decide +kernel) (pa_cons (pe_cmpR op_lt (pv 4) pe_int (nomark _)) pa_nil))))
        (pss_cons (ps_asg (pe_op op_fdivN (pe_callTy call_int1 (by rfl) mint (by decide +kernel) (pa_cons (pv 2) pa_nil)) (pv 1)) (pg_sub (pv 0) pe_int set_list))
        (pss_one (ps_ret (pe_op op_modN (pe_callTy call_int1 (by rfl) mint (by decide +kernel) (pa_cons (pv 2) pa_nil)) (pv 1)))))) pss_nil)
      (pss_cons (ps_set (i := 5) nd rfl (.inl rfl) (pe_op op_modN (pe_callTy call_int1 (by rfl) mint (by decide +kernel) (pa_cons (pe_op op_pow (pe_op op_add (pe_op op_add (pe_op op_modN (pe_callTy call_int1 (by rfl) mint (by decide +kernel) (pa_cons (pv 4) pa_nil)) pe_int) (pe_op op_mul pe_int (pv 3))) pe_int) pe_int) pa_nil)) pe_int))
      (pss_cons (ps_set (i := 5) nd rfl (.inl rfl) (pe_op op_modN (pe_callTy call_int1 (by rfl) mint (by decide +kernel) (pa_cons (pe_op op_pow (pe_op op_add (pe_op op_add (pe_op op_mul (pv 5) (pe_op op_add (pe_op op_mul pe_int (pv 3)) pe_int)) (pe_op op_mul (pe_op op_mul pe_int (pv 3)) (pv 3))) pe_int) pe_int) pa_nil)) pe_int))
      (pss_one (ps_ret (pe_op op_modN (pe_callTy call_int1 (by rfl) mint (by decide +kernel) (pa_cons (pe_op op_fdivN (pv 5) pe_int) pa_nil)) (pv 1))))))))))), ?_⟩
    obtain ⟨cs, turn, rest, ht, hc, hct, hcl, hu0, hun, hr0⟩ := hT
    have tubAt : ∀ {σ : L2.St} {H' : Hp} {j : Nat} {v : V} {xs : List V}, σ[0]? = some (some (.ref t)) → H' t = some (.lst xs) → xs[j]? = some v → Evl.Ev (tOp (rIxL K) (tVar 0) (tC (.int (j : Int)))) σ H' v :=
      fun hs h hv => Evl.ev_op (Evl.ev_var hs) Evl.ev_c (Evl.rv_ixL (Evl.sq_of h) (atI_nat hv))
    have turnS : turn ≤ 1000000 := by omega
    refine Evl.q_when (b := decide (0 < rest)) (Evl.et_test (Evl.ev_op (tubAt (j := 2) rfl ht rfl) Evl.ev_c Evl.rv_I0)) (fun hb H1 e1 => ?_) (fun hb H1 e1 => ?_)
    · refine Evl.q_asg (ev_int (tubAt (j := 2) rfl (e1 _ _ ht) rfl)) fun H2 e2 => ?_
      refine Evl.q_setL (l := t) (j := 2) (e2 _ _ (e1 _ _ ht)) (Evl.ev_op (Evl.ev_var rfl) (Evl.ev_var rfl) (Evl.rv_I ⟨by omega, by omega⟩)) (Evl.ev_var rfl) Evl.ev_c (by show 2 < 3; omega) fun H3 e3 => ?_
      refine Evl.s_ret (Evl.ev_op (ev_int (Evl.ev_var rfl)) (Evl.ev_var rfl) (Evl.rv_I (by omega))) fun H4 e4 => ?_
      have e13 := (e1.trans e2).trans e3
      refine q _ _ (fmod_pos hm1).1 (fmod_pos hm1).2 (((kept_ex e13).trans (Kept.upd t H3 _)).trans (kept_ex e4)) (Tub.ex ?_ e4)
      exact ⟨cs, turn, rest.fdiv many, upd_same, Kept.upd t H3 _ _ _ hct (e13 _ _ hc), hct, hcl, hu0, by omega, fdiv_pos hr0 hm1⟩
    · refine Evl.q_asg (tubAt (j := 1) rfl (e1 _ _ ht) rfl) fun H2 e2 => ?_
      refine Evl.q_setL (l := t) (j := 1) (e2 _ _ (e1 _ _ ht)) (Evl.ev_op (Evl.ev_var rfl) Evl.ev_c Evl.rv_I0) (Evl.ev_var rfl) Evl.ev_c (by show 1 < 3; omega) fun H3 e3 => ?_
      have e13 := (e1.trans e2).trans e3
      have k3 : Kept t H (upd H3 t (.lst [.ref c, .int (turn + 1), .int rest])) := (kept_ex e13).trans (Kept.upd t H3 _)
      have h3 : (upd H3 t (.lst [.ref c, .int (turn + 1), .int rest])) t = some (.lst [.ref c, .int (turn + 1), .int rest]) := upd_same
      show tSeq _ _ _ _ (upd H3 t (.lst [.ref c, .int (turn + 1), .int rest]))
      generalize upd H3 t (.lst [.ref c, .int (turn + 1), .int rest]) = H3' at k3 h3 ⊢
      have hc3 : H3' c = some (.lst (cs.map V.int)) := k3 _ _ hct hc
      obtain ⟨cell, z1, z2⟩ := cell_at cs turn (58746 * turn + 8350) hu0
      refine Evl.q_asg (Evl.ev_op (Evl.ev_op Evl.ev_c (Evl.ev_var rfl) (Evl.rv_I (.inl ⟨by omega, by omega⟩))) Evl.ev_c Evl.rv_I0) fun H4 e4 => ?_
      refine Evl.q_ifAsg (b := !cs.isEmpty) (v := .int cell) (Evl.et_test (ev_neNil (tubAt (j := 0) rfl (e4 _ _ h3) rfl) (Evl.sq_of (e4 _ _ hc3))))
        (fun hb => ?_) (fun hb => ?_) fun H5 e5 => ?_
      · have hce : cs.isEmpty = false := by
          cases hq : cs.isEmpty with
          | true => rw [hq] at hb; cases hb
          | false => rfl
        have hne : ((cs.map V.int).length : Int) ≠ 0 := by
          rw [List.length_map]
          cases cs with
          | nil => cases hce
          | cons x r => rw [List.length_cons]; omega
        exact Evl.ev_op (tubAt (j := 0) rfl (e4 _ _ h3) rfl) (Evl.ev_op (ev_int (Evl.ev_var rfl)) (Evl.ev_len (tubAt (j := 0) rfl (e4 _ _ h3) rfl) (Evl.sq_of (e4 _ _ hc3))) (Evl.rv_I hne)) (Evl.rv_ixL (Evl.sq_of (e4 _ _ hc3)) (z1 hce))
      · have hce : cs.isEmpty = true := by
          cases hq : cs.isEmpty with
          | true => rfl
          | false => rw [hq] at hb; cases hb
        rw [z2 hce]
        rfl
      have e35 := e4.trans e5
      have k5 : Kept t H H5 := k3.trans (kept_ex e35)
      have h5 := e35 _ _ h3
      have hc5 := e35 _ _ hc3
      clear e4 e5 e35 h3 hc3 k3 e1 e2 e3 e13
      refine Evl.q_when (Evl.et_and (Evl.et_test (Evl.ev_op (Evl.ev_var rfl) (Evl.ev_len (tubAt (j := 0) rfl h5 rfl) (Evl.sq_of hc5)) Evl.rv_I0)) fun _ => Evl.et_test (Evl.ev_op (ev_abs (Evl.ev_var rfl)) (Evl.ev_op Evl.ev_c Evl.ev_c (Evl.rv_I ⟨by decide, by decide, by decide⟩)) Evl.rv_I0)) (fun hb H6 e6 => ?_) (fun hb H6 e6 => ?_)
      · have hb2 := (Bool.and_eq_true_iff.mp hb).2
        have hbig : (10 : Int) ^ 18 ≤ (if cell < 0 then -cell else cell) := of_decide_eq_true hb2
        refine Evl.q_asg (Evl.ev_op (Evl.ev_op Evl.ev_c (Evl.ev_op (ev_abs (Evl.ev_var rfl)) (Evl.ev_op Evl.ev_c Evl.ev_c (Evl.rv_I ⟨by decide, by decide, by decide⟩)) Evl.rv_I0) (Evl.rv_I (.inl ⟨by decide, by decide⟩))) (ev_intB (Evl.ev_op (Evl.ev_var rfl) Evl.ev_c Evl.rv_I0)) Evl.rv_I0) fun H7 e7 => ?_
        have hr2 : (0 : Int) ≤ 2 * ((if cell < 0 then -cell else cell) - 10 ^ (18 : Int).toNat) + (if decide (cell < 0) = true then 1 else 0) := by
          have e18 : (18 : Int).toNat = 18 := rfl
          rw [e18]
          split <;> omega
        generalize (2 * ((if cell < 0 then -cell else cell) - 10 ^ (18 : Int).toNat) + (if decide (cell < 0) = true then 1 else 0) : Int) = rest2 at hr2 ⊢
        refine Evl.q_setL (l := t) (j := 2) (e7 _ _ (e6 _ _ h5)) (Evl.ev_op (ev_int (Evl.ev_var rfl)) (Evl.ev_var rfl) (Evl.rv_I ⟨by omega, by omega⟩)) (Evl.ev_var rfl) Evl.ev_c (by show 2 < 3; omega) fun H8 e8 => ?_
        refine Evl.s_ret (Evl.ev_op (ev_int (Evl.ev_var rfl)) (Evl.ev_var rfl) (Evl.rv_I (by omega))) fun H9 e9 => ?_
        have e68 := (e6.trans e7).trans e8
        refine q _ _ (fmod_pos hm1).1 (fmod_pos hm1).2 (((k5.trans (kept_ex e68)).trans (Kept.upd t H8 _)).trans (kept_ex e9)) (Tub.ex ?_ e9)
        exact ⟨cs, turn + 1, rest2.fdiv many, upd_same, Kept.upd t H8 _ _ _ hct (e68 _ _ hc5), hct, hcl, by omega, by omega, fdiv_pos hr2 hm1⟩
      · have c1 := fmod_pos (a := cell) (b := 2147483543) (by decide)
        refine Evl.q_asg (Evl.ev_op (ev_int (Evl.ev_op (Evl.ev_op (Evl.ev_op (Evl.ev_op (ev_int (Evl.ev_var rfl)) Evl.ev_c (Evl.rv_I (by decide))) (Evl.ev_op Evl.ev_c (Evl.ev_var rfl) (Evl.rv_I (.inl ⟨by decide, by decide⟩))) Evl.rv_I0) Evl.ev_c Evl.rv_I0) Evl.ev_c (Evl.rv_I ⟨by decide, by decide, mix_a c1.1 (by omega) hu0 turnS⟩))) Evl.ev_c (Evl.rv_I (by decide))) fun H7 e7 => ?_
        have m1 := fmod_pos (a := (cell.fmod 2147483543 + 39566 * turn + 8350) ^ (5 : Int).toNat) (b := 2147483497) (by decide)
        generalize ((cell.fmod 2147483543 + 39566 * turn + 8350) ^ (5 : Int).toNat).fmod 2147483497 = mx at m1 ⊢
        refine Evl.q_asg (Evl.ev_op (ev_int (Evl.ev_op (Evl.ev_op (Evl.ev_op (Evl.ev_op (Evl.ev_var rfl) (Evl.ev_op (Evl.ev_op Evl.ev_c (Evl.ev_var rfl) (Evl.rv_I (.inl ⟨by decide, by decide⟩))) Evl.ev_c Evl.rv_I0) (Evl.rv_I (.inl ⟨by omega, by omega⟩))) (Evl.ev_op (Evl.ev_op Evl.ev_c (Evl.ev_var rfl) (Evl.rv_I (.inl ⟨by decide, by decide⟩))) (Evl.ev_var rfl) (Evl.rv_I (.inl ⟨by omega, by omega⟩))) Evl.rv_I0) Evl.ev_c Evl.rv_I0) Evl.ev_c (Evl.rv_I ⟨by decide, by decide, mix_b m1.1 (by omega) hu0 turnS⟩))) Evl.ev_c (Evl.rv_I (by decide))) fun H8 e8 => ?_
        refine Evl.s_ret (Evl.ev_op (ev_int (Evl.ev_op (Evl.ev_var rfl) Evl.ev_c (Evl.rv_I ⟨by decide, by decide⟩))) (Evl.ev_var rfl) (Evl.rv_I (by omega))) fun H9 e9 => ?_
        have e69 := ((e6.trans e7).trans e8).trans e9
        exact q _ _ (fmod_pos hm1).1 (fmod_pos hm1).2 (k5.trans (kept_ex e69)) ⟨cs, turn + 1, rest, e69 _ _ h5, e69 _ _ hc5, hct, hcl, by omega, by omega, hr0⟩
end

theorem scPick : FnScope ["clerk", "some"] ["clerk", "some"] (defScope sPick) := ⟨rfl, rfl, rfl, by decide +kernel, rfl, by decide +kernel, by decide +kernel⟩
theorem scTub : FnScope ["script", "cell"] ["script"] (defScope sTub) := ⟨rfl, rfl, rfl, by decide +kernel, rfl, by decide +kernel, by decide +kernel⟩
/-- an item at a drawn place -/
theorem at_drawn {xs : List V} {r : Int} (h0 : 0 ≤ r) (h1 : r < (xs.length : Int)) : ∃ (j : Nat) (v : V), xs[j]? = some v ∧ atI xs r = some v := by
  obtain ⟨j, rfl⟩ : ∃ j : Nat, r = (j : Int) := ⟨r.toNat, by omega⟩
  have hj : j < xs.length := by omega
  exact ⟨j, xs[j], List.getElem?_eq_getElem hj, atI_nat (List.getElem?_eq_getElem hj)⟩
def spPick (K : PySem.W.Frag) : Sp := fun vs H Q _ => ∃ (t c l : Addr) (xs : List V) (n : Nat), vs = [.ref t, .ref l] ∧ Tub H t c n ∧ n < 1000000 ∧ l ≠ t ∧ SqL K H l xs ∧ 1 ≤ xs.length ∧ xs.length ≤ 10000 ∧
  ∀ (j : Nat) (v : V) (H' : Hp), xs[j]? = some v → Kept t H H' → Tub H' t c (n + 1) → Q v H'
/-- the drawer as it is made: new -/
def spTub (K : PySem.W.Frag) : Sp := fun vs H Q _ => ∃ (a : Addr) (ns : List Int), vs = [.ref a] ∧ SqL K H a (ns.map V.int) ∧ ns.length ≤ 1000 ∧ ∀ t c H', H t = none → H c = none → Same H H' → Tub H' t c 0 → Q (.ref t) H'
theorem given_all {α : Type} (ns : List α) (d : α) (f : α → V) : Evl.given ns.length (fun _ => true) (fun i => f (ns.getD i d)) = ns.map f := by
  unfold Evl.given
  rw [List.filter_eq_self.mpr (fun _ _ => rfl)]
  refine List.ext_getElem (by simp) fun i h1 h2 => ?_
  have h3 : i < ns.length := by simpa using h2
  simp [List.getD_eq_getElem?_getD, h3]
theorem erase_map : ∀ (l : List Int) (j : Nat), (l.map V.int).eraseIdx j = (l.eraseIdx j).map V.int
  | [], j => by simp
  | _ :: _, 0 => rfl
  | a :: r, j + 1 => by
    have ih := erase_map r j
    simp [ih]
/-! ### going on behind an argument, a list made, a call -/
theorem ret_lst {t : TA} {D : Ends} {σ : L2.St} {H : Hp} (h : t σ H fun xs H1 => xs.length ≤ sizeLine ∧ ∀ p, H1 p = none → D.rt (.ref p) (upd H1 p (.lst xs))) : tRet (tLst t) D σ H := h
theorem go_l {te : TE} {σ : L2.St} {H : Hp} {Q : VK} {xs : List V} (h : Evl.EvL te σ H xs) (k : ∀ p H1, H p = none → Evl.Ex H H1 → H1 p = some (.lst xs) → Q (.ref p) H1) : te σ H Q := h H (Evl.Ex.refl H) Q k
theorem go_v {te : TE} {σ : L2.St} {H : Hp} {Q : VK} {v : V} (h : Evl.Ev te σ H v) (k : ∀ H1, Evl.Ex H H1 → Q v H1) : te σ H Q := h H (Evl.Ex.refl H) Q k
theorem cons_l {ta : TE} {tr : TA} {σ : L2.St} {H : Hp} {Q : List V → Hp → Prop} {xs : List V} (h : Evl.EvL ta σ H xs) (k : ∀ p H1, H p = none → Evl.Ex H H1 → H1 p = some (.lst xs) → tr σ H1 fun vs H2 => Q (.ref p :: vs) H2) : tCons ta tr σ H Q := h H (Evl.Ex.refl H) _ k
theorem cons_v {ta : TE} {tr : TA} {σ : L2.St} {H : Hp} {Q : List V → Hp → Prop} {v : V} (h : Evl.Ev ta σ H v) (k : ∀ H1, Evl.Ex H H1 → tr σ H1 fun vs H2 => Q (v :: vs) H2) : tCons ta tr σ H Q := h H (Evl.Ex.refl H) _ k
theorem et_yes {σ : L2.St} {H : Hp} : Evl.EvT tYes σ H true := fun H1 _ _ q => q H1 (Evl.Ex.refl H1)
theorem cut60 (xs : List V) : cutV xs none (some 56) = xs.take 56 := by
  unfold cutV
  rw [HT.sIx_none, show HT.sIx xs.length xs.length (some 56) = min 56 xs.length from HT.sIx_nat _ _ 56, List.drop_zero, Nat.sub_zero]
  by_cases h : 56 ≤ xs.length
  · rw [Nat.min_eq_left h]
  · rw [Nat.min_eq_right (by omega), List.take_length, List.take_of_length_le (by omega)]
section
variable {P : Program} {w : World} {K : PySem.W.Frag} {mg : Str → Option Value} {base : Heap}
theorem ok_pick {f fS : Addr} {fd fdS : FuncData} {k : Nat} (F : Fun K "_law_one_of" "_law_one_of" sPick f fd) (FS : Fun K "_law_mark" "_law_mark" sScoop fS fdS) (GS : FnOk P w K mg base CX0 k fS fdS ["clerk", "many"] spScoop) (bS : Binds K fdS ["clerk", "many"] [])
    (gS : mg "_law_mark" = some (.ref fS)) (mlen : mg "len" = none) : FnOk P w K mg base CX0 (k + 1) f fd ["clerk", "some"] (spPick K) := by
  refine F.ok scPick (fun vs H Q E h => ?_) (fun cdv A outer s H vs Q E hr h => ?_)
  · obtain ⟨t, c, l, xs, n, rfl, _⟩ := h
    rfl
  · obtain ⟨t, c, l, xs, n, rfl, hT, hn, hlt, hS, h1, h2, q⟩ := h
    refine ⟨_, pss_one (ps_ret (pe_ix ix_list (pv 1) (pe_call GS hr (by rfl) gS FS.kp bS .nil pass0 (pa_cons (pv 0) (pa_cons (pe_callB call_len_seq (by rfl) mlen PySem.boot_len (pa_cons (pv 1) pa_nil)) pa_nil))) (fun _ _ => rfl))), ?_⟩
    refine ⟨.ref l, rfl, .ref t, rfl, .ref l, rfl, l, xs, rfl, .inl hS, t, c, (xs.length : Int), n, rfl, hT, by omega, by omega, by omega, fun r H' r0 r1 hk hT' => ?_⟩
    obtain ⟨j, v, hj, ha⟩ := at_drawn r0 r1
    exact ⟨l, xs, r, v, rfl, rfl, hk.seq hlt hS, ha, q j v H' hj hk hT'⟩
theorem ok_tub {f : Addr} {fd : FuncData} {k : Nat} (F : Fun K "_law_clerk" "_law_clerk" sTub f fd) (mint : mg "int" = none) : FnOk P w K mg base CX0 (k + 1) f fd ["script"] (spTub K) := by
  refine F.ok scTub (fun vs H Q E h => ?_) (fun cdv A outer s H vs Q E hr h => ?_)
  · obtain ⟨a, ns, rfl, _⟩ := h
    rfl
  · obtain ⟨a, ns, rfl, hS, hl, q⟩ := h
    have nd := scTub.nd
    refine ⟨_, pss_one (ps_ret (pe_lst (pa_cons (pe_lc (own := [("cell", 1)]) (g := gName 1) (tt := tYes) rfl nd (pi_list (pe_slice sl_list (pv 0) po_none (po_some pe_int))) (blkOk_by (N := ["script", "cell"]) (sc := defScope sTub) (by decide +kernel)) (fun _ _ _ _ _ => pg_name (i := 1) nd rfl (Or.inl rfl)) (fun _ _ _ _ _ => pts_nil) (fun _ _ _ _ _ => pe_callTy call_int1 (by rfl) mint (by decide +kernel) (pa_cons (pv 1) pa_nil))) (pa_cons pe_int (pa_cons pe_int pa_nil))))), ?_⟩
    have e0 : cutV (ns.map V.int) none (some 56) = (ns.take 56).map V.int := by rw [cut60, List.map_take]
    refine ret_lst (cons_l (Evl.el_lcNL (K := K) (H := H) (j := 1) (xs := (ns.take 56).map V.int) (fun _ => true) (fun i => V.int ((ns.take 56).getD i 0)) ?_ ?_ ?_ ?_ ?_) (fun p H1 hp e1 h1 => ?_))
    · rw [← e0]
      exact Evl.el_sl (Evl.ev_var rfl) Evl.eo_none (Evl.eo_some Evl.ev_c) hS
    · rw [List.length_map, List.length_take]
      omega
    · exact fun x => rfl
    · exact fun i x H1 _ _ => et_yes
    · intro i x H1 _ hx _
      have hx2 : x = V.int ((ns.take 56).getD i 0) := by
        rw [List.getElem?_map] at hx
        cases hz : (ns.take 56)[i]? with
        | none => rw [hz] at hx; cases hx
        | some z =>
          rw [hz] at hx
          rw [List.getD_eq_getElem?_getD, hz]
          exact (Option.some.inj hx).symm
      subst hx2
      exact ev_int (Evl.ev_var rfl)
    · rw [List.length_map, given_all (ns.take 56) 0 V.int] at h1
      refine ⟨by show 3 ≤ sizeLine; decide, fun t ht => ?_⟩
      refine q t p _ (Evl.fresh_back e1 ht) hp (fun b o hb => ?_) ⟨ns.take 56, 0, 0, upd_same, ?_, ne_of_none h1 ht, by rw [List.length_take]; omega, Int.le_refl _, Int.le_refl _, Int.le_refl _⟩
      · rw [upd_ne (ne_of_none (e1 _ _ hb) ht)]
        exact e1 _ _ hb
      · rw [upd_ne (ne_of_none h1 ht)]
        exact h1
end

end P61
end S_Jb
section S_Wf
namespace Hk
open PySem PySem.Spec PyProof.Rows L2
theorem args_minD (a v : Value) : argsOk "min" ⟨[a], [(Str.ofString "default", v)]⟩ := by unfold argsOk; kernel_rfl
section
variable {prog : Program} {w : World} {A : Around} {E : Value → Shared → Prop} {s : Shared}
/-- min of an empty list, with what is told for none -/
theorem min_none {l : Addr} {d : Value} {Q : Value → Shared → Prop} (hh : A.handled = none) (hl : s.heap.IsList l #[]) (k : ∀ h' tk, (∀ b o, s.heap.get? b = some o → h'.get? b = some o) → Q d { s with heap := h', toks := tk }) :
    wpAny (model prog w) A (call (.builtin "min") [.ref l] [(Str.ofString "default", d)]) Q E s := by
  refine PyProof.Rows.kmk_tree PySem.F.kind_min PySem.F.plain_min PySem.F.entry_min (args_minD _ _) ?_
  show wpAny _ A.in1 (Builtin.Builtins.bindParams "min" ["key", "default"] 0 ⟨[], [(Str.ofString "default", d)]⟩ >>= _) _ _ s
  refine wpAny_bind (wpAny_of_eq (show Builtin.Builtins.bindParams "min" ["key", "default"] 0 ⟨[], [(Str.ofString "default", d)]⟩ = pure [none, some d] from rfl) (wpAny_bind (wpAny_pure (wpAny_bind (wpAny_pyIter_list hl (wpAny_bind (wpAny_newList ?_ (Nat.zero_le _))))))))
  rw [show (toString "min" ++ toString ".loop" : String) = "min.loop" by decide]
  have ll : l < s.heap.objs.size := by
    obtain ⟨o, ho, _⟩ := hl
    exact Heap.lt_size ho
  refine wpAny_pure ⟨plainId_quiet PySem.F.plain_min_loop _, ?_⟩
  have up : ∀ b o, s.heap.get? b = some o → ((s.heap.push { cls := .type "list_iterator", data := .fields #[.ref l, .int 0 0] }).push (seqObj "list" #[] 0)).get? b = some o := fun b o e => Heap.get?_push_of_some _ (Heap.get?_push_of_some _ e)
  have gI : ((s.heap.push { cls := .type "list_iterator", data := .fields #[.ref l, .int 0 0] }).push (seqObj "list" #[] 0)).get? s.heap.objs.size = some { cls := .type "list_iterator", data := .fields #[.ref l, .int 0 0] } := Heap.get?_push_of_some _ (Heap.get?_push_size _ rfl)
  have gS : ((s.heap.push { cls := .type "list_iterator", data := .fields #[.ref l, .int 0 0] }).push (seqObj "list" #[] 0)).get? (s.heap.push { cls := .type "list_iterator", data := .fields #[.ref l, .int 0 0] }).objs.size = some (seqObj "list" #[] 0) := Heap.get?_push_size _ rfl
  refine codeAny_builtin PySem.F.entry_min_loop ?_
  rw [Around.under_plainId PySem.F.plain_min_loop _]
  refine wpAny_bind (wpAny_seqItems gS rfl (wpAny_bind (wpAny_tryCatch (wpAny_pyNext_list_end (i := 0) (items := #[]) hh ⟨_, gI, rfl, rfl⟩ (let ⟨o, ho, r⟩ := hl; ⟨o, up _ _ ho, r⟩) rfl fun h' ext => ?_))))
  show wpAny _ _ (do rule (toString "min" ++ toString ".default"); (ret d : Sem Fin)) _ _ _
  exact wpAny_bind (wpAny_rule (wpAny_pure (k _ _ fun b o e => ext b o (Nat.ne_of_lt (Heap.lt_size e)) (up b o e))))
end
def rMinN (K : PySem.W.Frag) : List V → List V → Hp → VK → Prop := fun xs zs H Q => ∃ (l : Addr) (z : V), xs = [.ref l] ∧ zs = [z] ∧ SqL K H l [] ∧ Q z H
theorem call_minN {X : Cx} (hc : X.calm = true) : CallRK X (.builtin "min") ["default"] (rMinN X.K) := by
  intro pins s σ H xs zs us ws Q I r r2 h
  obtain ⟨l, z, rfl, rfl, hS, q⟩ := h
  cases r with
  | cons rx rr =>
    cases rr
    cases rx
    cases r2 with
    | cons rz rr =>
      cases rr
      obtain ⟨its, rv, pl, hz⟩ := I.list hS
      have e : its = [] := by cases rv; rfl
      subst e
      exact min_none (I.ok.hd hc) pl.isList fun h' tk kp => ⟨z, H, I.kept (t' := tk) kp, rz, q⟩
end Hk
end S_Wf
section S_Wg
namespace Hk
open PySem PySem.Spec PyProof.Rows L2 Tl
section
open Evl
variable {K : PySem.W.Frag} {σ : L2.St} {H H' B : Hp} {ta tb te : TE} {x y z v : V}
theorem s_retN {te : TE} {D : Ends} {R : V → Hp → Prop} (h : EvN te σ H R) (k : ∀ v H1, Ex H H1 → (∀ H3, Ex H H3 → Since H H1 H3 → R v H3) → D.rt v H1) : tRet te D σ H := h H (Ex.refl H) D.rt k
theorem s_retB {te : TE} {D : Ends} {R : V → Hp → Prop} {B : Hp} (hB : Ex B H) (h : EvN te σ B R) (k : ∀ v H1, Ex H H1 → (∀ H3, Ex B H3 → Since H H1 H3 → R v H3) → D.rt v H1) : tRet te D σ H := h H hB D.rt k
theorem q_asgN {te : TE} {tz : TS} {i : Nat} {D : Ends} {R : V → Hp → Prop} {B : Hp} (hB : Ex B H) (h : EvN te σ B R) (k : ∀ v H1, Ex H H1 → (∀ H3, Ex B H3 → Since H H1 H3 → R v H3) → tz D (σ.set i (some v)) H1) : tSeq (tAsg te (gName i)) tz D σ H := h H hB _ k
def SpN (sp : Sp) (vs : List V) (H : Hp) (R : V → Hp → Prop) : Prop := ∀ H1, Ex H H1 → ∀ Q : VK, (∀ v H2, Ex H1 H2 → (∀ H3, Ex H H3 → Since H1 H2 H3 → R v H3) → Q v H2) → ∀ E : XK, sp vs H1 Q E
theorem en_call {sp : Sp} {dvs vs : List V} {E : XK} {ta : TA} {R : V → Hp → Prop} (h : EvA ta σ H vs) (hs : SpN sp (vs ++ dvs) H R) : EvN (tCall sp dvs E ta) σ H R := fun H1 e Q q =>
  h H1 e _ fun H2 e2 => hs H2 (e.trans e2) Q (fun v H3 e3 hv => q v H3 (e2.trans e3) fun H4 h4 s4 => hv H4 h4 fun a o ha hc => s4 a o (fresh_back e2 ha) hc) E
theorem en_tup {ta : TE} {a : Addr} {xs : List V} (h : Ev ta σ H (.ref a)) (hs : SqL K H a xs) : EvN (tCB (fun xs H Q => ∃ p ys, xs = [V.ref p] ∧ ((SqL K H p ys ∧ ∀ l, H l = none → Q (V.ref l) (upd H l (HO.tup ys))) ∨ (SqT K H p ys ∧ Q (V.ref p) H))) (tCons ta tNil)) σ H
    (fun u H' => ∃ t, u = .ref t ∧ H' t = some (.tup xs)) := fun H1 e Q q =>
  h H1 e _ fun H2 e2 => ⟨a, xs, rfl, .inl ⟨ex_l (e.trans e2) hs, fun t ht => q _ _ (e2.trans (Ex.new ht)) fun H3 _ s3 => ⟨t, rfl, s3 _ _ (fresh_back e2 ht) upd_same⟩⟩⟩
theorem ei_rng2c {σ : L2.St} {H : Hp} {ta : TA} {i j : Int} {n : Nat} (hn : (j - i).toNat = n) (h : Evl.EvA ta σ H [.int i, .int j]) (h0 : -100000 ≤ i ∧ i ≤ 100000) (h1 : -100000 ≤ j ∧ j ≤ 100000) : EvI (iRng2 ta) σ H n (YFn fun k => .int (i + k)) := by
  subst hn
  exact ei_rng2 h h0 h1
theorem ei_rng1c {σ : L2.St} {H : Hp} {ta : TA} {j : Int} {n : Nat} (hn : j.toNat = n) (h : Evl.EvA ta σ H [.int j]) (h0 : 0 ≤ j) (h1 : j ≤ 100000) : EvI (iRng1 ta) σ H n (YFn fun k => .int (0 + k)) := by
  subst hn
  exact ei_rng1 h h0 h1
end
end Hk
end S_Wg
section S_Jc
namespace P61
open PySem PySem.Spec PyProof.Rows L2 Tl Hk
/-- a value, and whether it is a list of integers within bounds -/
inductive RowR (K : PySem.W.Frag) (H : Hp) (lo hi : V) : V → Bool → Prop where
  | no {x : V} {n : String} (h : Ty7 K H x n) (h1 : n ≠ "list") (h2 : n ≠ "tuple") : RowR K H lo hi x false
  | lst {a : Addr} {xs : List V} (h : SqL K H a xs) (hl : xs.length ≤ 4000) (hi_ : ∀ v ∈ xs, ∃ n, Ty7 K H v n) : RowR K H lo hi (.ref a) (xs.all fun v => wi v lo hi)
  | tup {a : Addr} {xs : List V} (h : SqT K H a xs) (hl : xs.length ≤ 4000) (hi_ : ∀ v ∈ xs, ∃ n, Ty7 K H v n) : RowR K H lo hi (.ref a) (xs.all fun v => wi v lo hi)
theorem RowR.ex {K : PySem.W.Frag} {H H' : Hp} {lo hi x : V} {r : Bool} (h : RowR K H lo hi x r) (e : Evl.Ex H H') : RowR K H' lo hi x r := by
  cases h with
  | no h h1 h2 => exact .no (h.ex e) h1 h2
  | lst h hl hi => exact .lst (Evl.ex_l e h) hl fun v hv => (hi v hv).imp fun n hn => hn.ex e
  | tup h hl hi => exact .tup (Evl.ex_t e h) hl fun v hv => (hi v hv).imp fun n hn => hn.ex e
def spRow (K : PySem.W.Frag) : Sp := fun vs H Q _ => ∃ (x lo hi : V) (r : Bool), vs = [x, lo, hi] ∧ RowR K H lo hi x r ∧ Bnd lo ∧ Bnd hi ∧ ∀ H1, Evl.Ex H H1 → Q (.bl r) H1
theorem scRow : FnScope ["value", "least", "most", "item"] ["value", "least", "most"] (defScope sRow) := ⟨rfl, rfl, rfl, by decide +kernel, rfl, by decide +kernel, by decide +kernel⟩
section
variable {P : Program} {w : World} {K : PySem.W.Frag} {mg : Str → Option Value} {base : Heap}
theorem ok_row {f fW fL : Addr} {fd fdW fdL : FuncData} {k : Nat} (F : Fun K "is_row" "is_row" sRow f fd)
    (FW : Fun K "is_within" "is_within" sWithin fW fdW) (GW : FnOk P w K mg base CX0 k fW fdW ["value", "least", "most"] (spWithin K)) (bW : Binds K fdW ["value", "least", "most"] []) (gW : mg "is_within" = some (.ref fW))
    (FL : Fun K "is_list" "is_list" sList fL fdL) (GL : FnOk P w K mg base CX0 k fL fdL ["value"] (spList K)) (bL : Binds K fdL ["value"] []) (gL : mg "is_list" = some (.ref fL)) (mall : mg "all" = none) :
    FnOk P w K mg base CX0 (k + 1) f fd ["value", "least", "most"] (spRow K) := by
  refine F.ok scRow (fun vs H Q E h => ?_) (fun cdv A outer s H vs Q E hr h => ?_)
  · obtain ⟨x, lo, hi, r, rfl, _⟩ := h
    rfl
  · obtain ⟨x, lo, hi, r, rfl, h, hlo, hhi, q⟩ := h
    have nd := scRow.nd
    have isl : ∀ {n : String}, Ty7 K H x n → Evl.Ev (tCall (spList K) [] E0 (tCons (tVar 0) tNil)) (start ["value", "least", "most", "item"] [x, lo, hi]) H (.bl (decide (n = "list") || decide (n = "tuple"))) :=
      fun h7 => Evl.ev_call (Evl.ea_cons (Evl.ev_var rfl) Evl.ea_nil) (spv_list h7)
    have items : ∀ {H1 : Hp} {xs : List V} {i : Nat} {v : V}, Evl.Ex H H1 → (∀ v ∈ xs, ∃ n, Ty7 K H v n) → xs[i]? = some v → Evl.Ev (tCall (spWithin K) [] E0 (tCons (tVar 3) (tCons (tVar 1) (tCons (tVar 2) tNil)))) [none, some lo, some hi, some v] H1 (.bl (wi (xs.getD i .non) lo hi)) :=
      fun {H1 xs i v} e hi' hv => by
        obtain ⟨n, hn⟩ := hi' v (List.mem_of_getElem? hv)
        have ev : xs.getD i .non = v := by rw [List.getD_eq_getElem?_getD, hv]; rfl
        rw [ev]
        exact Evl.ev_call (Evl.ea_cons (Evl.ev_var rfl) (Evl.ea_cons (Evl.ev_var rfl) (Evl.ea_cons (Evl.ev_var rfl) Evl.ea_nil))) (spv_within (hn.ex e) hlo hhi)
    have ebs : ∀ xs : List V, Evl.given xs.length (fun _ => true) (fun i => V.bl (wi (xs.getD i .non) lo hi)) = (xs.map fun v => wi v lo hi).map V.bl := fun xs => by
      rw [given_all xs .non fun v => V.bl (wi v lo hi), List.map_map]
      rfl
    have eall : ∀ xs : List V, (true && (xs.map fun v => wi v lo hi).all id) = xs.all fun v => wi v lo hi := fun xs => by
      rw [Bool.true_and, List.all_map]
      rfl
    cases h with
    | @no x n h7 h1 h2 =>
      refine ⟨_, pss_one (ps_ret (pe_and (pe_call GL hr (by rfl) gL FL.kp bL .nil pass0 (pa_cons (pv 0) pa_nil)) (pe_one (pe_callB (cr_all rfl) (by rfl) mall (by decide +kernel) (pa_cons
          (pe_lc (own := [("item", 3)]) (g := gName 3) (tt := tYes) rfl nd (pi_list (pv 0)) (blkOk_by (N := ["value", "least", "most", "item"]) (sc := defScope sRow) (by decide +kernel)) (fun _ _ _ _ _ => pg_name (i := 3) nd rfl (Or.inl rfl)) (fun _ _ _ _ _ => pts_nil)
            (fun _ _ _ _ _ => pe_call GW (hr) (by rfl) gW FW.kp bW .nil pass0 (pa_cons (pv 3) (pa_cons (pv 1) (pa_cons (pv 2) pa_nil))))) pa_nil))))), ?_⟩
      have eb : (decide (n = "list") || decide (n = "tuple")) = false := by simp [h1, h2]
      exact Evl.s_ret (Evl.ev_is (Evl.ev_andV (b := false) (isl h7) fun z => by rw [eb] at z; cases z) (by rw [eb] <;> rfl)) q
    | @lst a xs hS hl hi0 =>
      refine ⟨_, pss_one (ps_ret (pe_and (pe_call GL hr (by rfl) gL FL.kp bL .nil pass0 (pa_cons (pv 0) pa_nil)) (pe_one (pe_callB (cr_all rfl) (by rfl) mall (by decide +kernel) (pa_cons
          (pe_lc (own := [("item", 3)]) (g := gName 3) (tt := tYes) rfl nd (pi_list (pv 0)) (blkOk_by (N := ["value", "least", "most", "item"]) (sc := defScope sRow) (by decide +kernel)) (fun _ _ _ _ _ => pg_name (i := 3) nd rfl (Or.inl rfl)) (fun _ _ _ _ _ => pts_nil)
            (fun _ _ _ _ _ => pe_call GW (hr) (by rfl) gW FW.kp bW .nil pass0 (pa_cons (pv 3) (pa_cons (pv 1) (pa_cons (pv 2) pa_nil))))) pa_nil))))), ?_⟩
      refine Evl.s_ret (Evl.ev_is (Evl.ev_andV (isl (.lst hS)) fun _ => ev_allN (bs := xs.map fun v => wi v lo hi) ?_) (congrArg V.bl (eall xs))) q
      rw [← ebs]
      exact Evl.el_lcL (fun _ => true) _ (Evl.ev_var rfl) hS (by omega) (fun _ => rfl) (fun _ _ _ _ _ => et_yes) fun i v H1 e1 hv _ => items e1 hi0 hv
    | @tup a xs hS hl hi0 =>
      refine ⟨_, pss_one (ps_ret (pe_and (pe_call GL hr (by rfl) gL FL.kp bL .nil pass0 (pa_cons (pv 0) pa_nil)) (pe_one (pe_callB (cr_all rfl) (by rfl) mall (by decide +kernel) (pa_cons
          (pe_lc (own := [("item", 3)]) (g := gName 3) (tt := tYes) rfl nd (pi_tup (pv 0)) (blkOk_by (N := ["value", "least", "most", "item"]) (sc := defScope sRow) (by decide +kernel)) (fun _ _ _ _ _ => pg_name (i := 3) nd rfl (Or.inl rfl)) (fun _ _ _ _ _ => pts_nil)
            (fun _ _ _ _ _ => pe_call GW (hr) (by rfl) gW FW.kp bW .nil pass0 (pa_cons (pv 3) (pa_cons (pv 1) (pa_cons (pv 2) pa_nil))))) pa_nil))))), ?_⟩
      refine Evl.s_ret (Evl.ev_is (Evl.ev_andV (isl (.tup hS)) fun _ => ev_allN (bs := xs.map fun v => wi v lo hi) ?_) (congrArg V.bl (eall xs))) q
      rw [← ebs]
      exact el_lcT (fun _ => true) _ (Evl.ev_var rfl) hS (by omega) (fun _ => rfl) (fun _ _ _ _ _ => et_yes) fun i v H1 e1 hv _ => items e1 hi0 hv
end
end P61
end S_Jc
section S_Wh
namespace Hk
open PySem PySem.Spec PyProof.Rows L2 LamX Tl
/-- a def called where no repr is under way, its code object known -/
theorem fn_gC {P : Program} {w : World} {K : PySem.W.Frag} {mg : Str → Option Value} {base : Heap} {x qual : Str} {st : Stmt} {f c : Addr} {fd : FuncData} {N ps : List Str} {k : Nat} {sp : Sp} (F : Fun K x qual st f fd) (hcode : fd.code = .ref c) (S : FnScope N ps (defScope st))
    (len : ∀ {vs H Q E}, sp vs H Q E → vs.length = ps.length)
    (hbody : ∀ (A : Around) (outer : List Env) (s : Shared) (H : Hp) (vs : List V) (Q : VK) (E : XK), A.guards = some [] → Room k (A.deeper (envOfC qual (defScope st) s.heap.objs.size f (.ref c))) → sp vs H Q E →
      ∃ t, PSs (cxOf CX0 P w K mg base N qual (defScope st) f (.ref c) A outer s H E).nox (defBody st) t ∧ t { nx := fun _ H' => Q .non H', rt := Q } (start N vs) H) : FnG P w K mg base (k + 1) f fd ps sp := by
  obtain ⟨oc, od, kV, doc, pm, an, cdv, ct, osl, rfl, lk, hcd⟩ := F.ex
  obtain rfl : cdv = .ref c := hcode
  refine ⟨len, fun {A outer s H args us vs Q E} hgd hr e0 hb r hsp => ?_⟩
  have kin : K.In s.heap := e0.mod.kin.keeps fun b o e => (e0.bs b o e).1
  have nl : s.heap.NoLimit := e0.mod.nolimit.keeps fun b o e => (e0.bs b o e).1
  refine codeAny_call_function hr.depth (kin _ _ lk) rfl S.co S.gen rfl (PySem.W.codeRec_of kin hcd) (hb _ _ _ _ (wpAny_newFunctionEnv_cells S.kind ?_ fun env he s1 x => ?_))
  · intro y hy
    have hp : y.1 ∈ ps := (List.of_mem_zip (a := y.1) (b := y.2) hy).1
    exact (S.par y.1 hp).imp id fun q => ⟨q, PySem.W.cellsFrom_some _ _ _ (.inl q)⟩
  · cases he
    obtain ⟨t, ht, hq⟩ := hbody A outer s H vs Q E hgd (hr.deeper _) hsp
    have I := inv_start (CX := CX0) (P := P) (w := w) (base := base) (E := E) (qual := qual) (f := f) (cd := .ref c) S hr.hd e0 (len hsp) r x
    refine ⟨nl.keeps x.toInCall.keep, codeAny_func (wpAny_mono (ht.nox.run [] s1 (start N vs) H _ I hq) (fun fl s' hs => ?_) fun _ _ hs => hs)⟩
    cases fl with
    | ret u =>
      obtain ⟨v, σ', H', J, rv, q⟩ := hs
      exact ⟨v, H', J.os, J.bare, J.base, J.hok, rv, q⟩
    | next =>
      obtain ⟨σ', H', J, q⟩ := hs
      exact ⟨.non, H', J.os, J.bare, J.base, J.hok, rfl, q⟩
    | brk => exact hs.elim fun _ h => h.elim fun _ h => h.2.elim
    | cont => exact hs.elim fun _ h => h.elim fun _ h => h.2.elim
theorem passF {X : Cx} {P : Program} {w : World} : Passes (L2.CX P w) X E0 := fun _ _ _ _ _ _ _ c => by
  obtain ⟨_, _, _, _, _, _, _, _, _, _, _, _, h⟩ := c
  exact h.elim
section
open Evl
variable {K : PySem.W.Frag} {σ : L2.St} {H H' : Hp} {ta tb te : TE}
theorem el_listT {p : Addr} {xs : List V} (ha : Ev ta σ H (.ref p)) (h : SqT K H p xs) : EvL (tCB (rListS K) (tCons ta tNil)) σ H xs := fun H1 e Q q =>
  ha H1 e _ fun H2 e2 => ⟨p, xs, rfl, .inr (ex_t (e.trans e2) h), fun l hl => q l _ (fresh_back e2 hl) (e2.trans (Ex.new hl)) upd_same⟩
theorem el_listU {xs : List V} (ha : EvU ta σ H xs) : EvL (tCB (rListS K) (tCons ta tNil)) σ H xs := fun H1 e Q q =>
  ha H1 e _ fun p H2 hp e2 h2 => ⟨p, xs, rfl, .inr (st_of h2), fun l hl => q l _ (fresh_back e2 hl) (e2.trans (Ex.new hl)) upd_same⟩
theorem ev_lenU {xs : List V} (ha : EvU ta σ H xs) : Ev (tCB (rLenS K) (tCons ta tNil)) σ H (.int (xs.length : Int)) := fun H1 e Q q =>
  ha H1 e _ fun p H2 _ e2 h2 => ⟨p, xs, rfl, .inr (st_of h2), q H2 e2⟩
/-- a tuple with these items, new or not -/
def EvTp (K : PySem.W.Frag) (te : TE) (σ : L2.St) (H : Hp) (xs : List V) : Prop := ∀ H1, Ex H H1 → ∀ Q : VK, (∀ p H2, Ex H1 H2 → SqT K H2 p xs → Q (.ref p) H2) → te σ H1 Q
theorem tp_u {xs : List V} (h : EvU te σ H xs) : EvTp K te σ H xs := fun H1 e Q q => h H1 e Q fun p H2 _ e2 h2 => q p H2 e2 (st_of h2)
theorem tp_slTo {th : TO} {a : Addr} {xs : List V} {n : Nat} (h : Ev te σ H (.ref a)) (h2 : EvO th σ H (some (n : Int))) (hs : SqT K H a xs) (hn : n ≤ xs.length) : EvTp K (tSl (rSlA K) te tNoPart th) σ H (xs.take n) := fun H1 e Q q =>
  h H1 e _ fun H2 e2 => h2 H2 (e.trans e2) _ fun H4 e4 => by
    have hh := ex_t ((e.trans e2).trans e4) hs
    have ec : cutV xs none (some (n : Int)) = xs.take n := by
      unfold cutV
      rw [HT.sIx_none, HT.sIx_nat, List.drop_zero, Nat.sub_zero, Nat.min_eq_left hn]
    refine ⟨a, xs, rfl, hh, fun hw => ?_, fun _ p hp => ?_⟩
    · have e1 := hw.2
      rw [HT.sIx_nat, Nat.min_eq_left hn] at e1
      refine q a H4 (e2.trans e4) ?_
      rw [e1, List.take_length]
      exact hh
    · rw [ec]
      exact q p _ ((e2.trans e4).trans (Ex.new hp)) (st_of upd_same)
/-- ints, as data -/
def dz (ns : List Int) : List PyData := ns.map PyData.int
theorem dp_z : ∀ (ns : List Int), DpAll K H (ns.map V.int) (dz ns)
  | [] => .nil
  | i :: r => .cons (.int i) (dp_z r)
theorem z_shT (ns : List Int) : SeqAt.shaped (.tuple (dz ns)) = true := by
  unfold dz
  simp [SeqAt.shaped, PyData.canLay0, PyData.depth, PySem.W.ke_canLayAll0, PySem.W.ke_depthAll]
theorem z_shL (ns : List Int) : SeqAt.shaped (.list (dz ns)) = true := PySem.W.ke_shaped_ints ns
theorem et_neTp {ns : List Int} (ha : EvTp K ta σ H (ns.map V.int)) (hb : EvTp K tb σ H (ns.map V.int)) : EvT (tTest (tOp (rNeD K) ta tb)) σ H false := fun H1 e Q q =>
  ha H1 e _ fun p H2 e2 h2 => hb H2 (e.trans e2) _ fun p3 H3 e3 h3 => by
    refine ⟨.tuple (dz ns), .tuple (dz ns), .tup (ex_t e3 h2) (dp_z ns), .tup h3 (dp_z ns), z_shT ns, z_shT ns, ?_⟩
    rw [SeqAt.eqv_refl _ (SeqAt.canLay_of_shaped (z_shT ns))]
    exact ⟨false, rfl, q H3 (e2.trans e3)⟩
theorem et_neLL {ns : List Int} (ha : EvL ta σ H (ns.map V.int)) (hb : EvL tb σ H (ns.map V.int)) : EvT (tTest (tOp (rNeD K) ta tb)) σ H false := fun H1 e Q q =>
  ha H1 e _ fun p H2 _ e2 h2 => hb H2 (e.trans e2) _ fun p3 H3 _ e3 h3 => by
    refine ⟨.list (dz ns), .list (dz ns), .lst (sq_of (e3 _ _ h2)) (dp_z ns), .lst (sq_of h3) (dp_z ns), z_shL ns, z_shL ns, ?_⟩
    rw [SeqAt.eqv_refl _ (SeqAt.canLay_of_shaped (z_shL ns))]
    exact ⟨false, rfl, q H3 (e2.trans e3)⟩
theorem piled_le : ∀ {ts : List Str} {c : Nat}, (∀ t ∈ ts, t.length ≤ c) → piled ts ≤ ts.length * (c + 2)
  | [], c, _ => Nat.zero_le _
  | t :: r, c, h => by
    have h1 := h t List.mem_cons_self
    have h2 := piled_le (ts := r) (c := c) fun u hu => h u (List.mem_cons_of_mem _ hu)
    rw [List.length_cons, Nat.succ_mul]
    show t.length + 2 + piled r ≤ _
    omega
theorem listText_le {ts : List Str} {c : Nat} (h : ∀ t ∈ ts, t.length ≤ c) : (listText ts).length ≤ ts.length * (c + 2) + 3 := by
  have hp := piled_le h
  unfold listText
  rw [strLen_append, show (("]" : String) : Str).length = 1 from rfl]
  cases ts with
  | nil =>
    show ((("[" : String) : Str)).length + 1 ≤ _
    rw [show (("[" : String) : Str).length = 1 from rfl]
    omega
  | cons t r =>
    show (textFrom (0 + 1) _ r).length + 1 ≤ _
    rw [textFrom_length_pos r (0 + 1) _ (by decide), strLen_append, strLen_append, show (("[" : String) : Str).length = 1 from rfl]
    have e2 : (((if 0 > 0 then ", " else "" : String)) : Str).length = 0 := rfl
    rw [e2]
    have e3 : piled (t :: r) = t.length + 2 + piled r := piled_cons t r
    omega
theorem shownAll_eq : ∀ ds : List PyData, PyData.shownAll ds = ds.map PyData.shown
  | [] => rfl
  | d :: r => by rw [PyData.shownAll, shownAll_eq r] <;> rfl
theorem z_len {ns : List Int} {b : Nat} (h1 : ns.length ≤ 10000) (h2 : ∀ x ∈ ns, x.natAbs ≤ 64) : (PyData.list (dz ns)).shown.length ≤ sizeLine := by
  show (listText (PyData.shownAll (dz ns))).length ≤ _
  rw [shownAll_eq]
  have := listText_le (ts := (dz ns).map PyData.shown) (c := 66) fun u hu => by
    unfold dz at hu
    rw [List.map_map] at hu
    obtain ⟨x, hx, rfl⟩ := List.mem_map.mp hu
    have b1 := len_str_of_int x
    have b2 := h2 x hx
    show (Str.ofString (toString x)).length ≤ 66
    omega
  rw [List.length_map] at this
  unfold dz at this
  rw [List.length_map] at this
  have h3 : ns.length * (66 + 2) ≤ 10000 * 68 := Nat.mul_le_mul h1 (Nat.le_refl _)
  rw [sizeLine_eq]
  unfold dz
  omega
theorem z_show : ∀ {ns : List Int}, (∀ x ∈ ns, x.natAbs ≤ 64) → PyData.showableAll (dz ns) = true
  | [], _ => rfl
  | x :: r, h => by
    show (decide (x.natAbs.log2 < 1920) && PyData.showableAll (dz r)) = true
    rw [z_show fun y hy => h y (List.mem_cons_of_mem _ hy), Bool.and_true]
    have h1 := h x List.mem_cons_self
    exact decide_eq_true (Nat.lt_of_le_of_lt (Nat.log2_le_self _) (by omega))
theorem z_nd : ∀ ns : List Int, PyData.hasDictAll (dz ns) = false
  | [] => rfl
  | x :: r => by show (false || PyData.hasDictAll (dz r)) = false; rw [z_nd r] <;> rfl
theorem z_deep (ns : List Int) : (PyData.list (dz ns)).depth ≤ 20 := by
  unfold dz
  simp [PyData.depth, PySem.W.ke_depthAll]
/-- repr of a new list of small ints -/
theorem ev_reprZ {ns : List Int} (h : EvL te σ H (ns.map V.int)) (h1 : ns.length ≤ 10000) (h2 : ∀ x ∈ ns, x.natAbs ≤ 64) : Ev (tCB (rRepr K) (tCons te tNil)) σ H (.str (PyData.list (dz ns)).shown) := fun H1 e Q q =>
  h H1 e _ fun p H2 _ e2 h2' => ⟨p, _, rfl, .lst (sq_of h2') (dp_z ns), z_show h2, z_nd ns, z_deep ns, z_len (b := 0) h1 h2, q H2 e2⟩
theorem et_neStr {z : Str} (h1 : Ev ta σ H (.str z)) (h2 : Ev tb σ H (.str z)) : EvT (tTest (tOp rNe ta tb)) σ H false :=
  et_is (et_test (ev_op h1 h2 (rv_ne rfl))) (by rw [decide_eq_true rfl] <;> rfl)
end
end Hk
end S_Wh
section S_Wj
namespace Hk
open PySem PySem.Spec PyProof.Rows L2 Tl RZ
theorem walk_zipT {K : PySem.W.Frag} {a b : Addr} {xs ys : List V} {n : Nat} (hn : n = min xs.length ys.length) : Walk (ItzT K a b) n (fun H => SqT K H a xs ∧ SqT K H b ys) (YPair (fun i => xs[i]?) (fun i => ys[i]?)) := by
  subst hn
  refine ⟨fun i _ hi ⟨q1, q2⟩ => ?_, fun _ ⟨q1, q2⟩ => ⟨xs, ys, q1, q2, by omega⟩, fun i H v H' _ ⟨q1, q2⟩ ⟨T, x, z, z1, z2, z3, z4, z5⟩ => ⟨T, x, z, z1, z2, z3, z4 xs q1, z5 ys q2⟩⟩
  have l1 : i < xs.length := by omega
  have l2 : i < ys.length := by omega
  exact ⟨xs, ys, xs[i], ys[i], q1, q2, by simp [l1], by simp [l2]⟩
theorem aims_pair {K : PySem.W.Frag} {xs ys : List V} {n j1 j2 : Nat} : Aims (gTup K 2 (gCons (gName j1) (gCons (gName j2) gNil))) n (YPair (fun i => xs[i]?) (fun i => ys[i]?))
    (fun i σ => (σ.set j1 (some (xs.getD i .non))).set j2 (some (ys.getD i .non))) := fun i σ H v H' hi y => by
  obtain ⟨T, x, y, rfl, hT, rfl, h1, h2⟩ := y
  have h1 : xs[i]? = some x := h1
  have h2 : ys[i]? = some y := h2
  obtain rfl : xs.getD i .non = x := by rw [List.getD_eq_getElem?_getD, h1]; rfl
  obtain rfl : ys.getD i .non = y := by rw [List.getD_eq_getElem?_getD, h2]; rfl
  exact ⟨Evl.Ex.new hT, fun Q q => ⟨T, _, rfl, Evl.st_of upd_same, rfl, _, _, rfl, _, _, rfl, rfl, q⟩⟩
section
open Evl
variable {K : PySem.W.Frag} {σ : L2.St} {H : Hp} {ta tb te : TE}
theorem ei_zipL {a : Addr} {xs ys : List V} {n : Nat} (hn : n = min xs.length ys.length) (h : Ev ta σ H (.ref a)) (hx : SqL K H a xs) (h2 : EvL tb σ H ys) : EvI (iZipA K (tCons ta (tCons tb tNil))) σ H n (YPair (fun i => xs[i]?) (fun i => ys[i]?)) := fun H1 e R k =>
  h H1 e _ fun H2 e2 => h2 H2 (e.trans e2) _ fun p H3 hp e3 h3 => ⟨a, p, xs, ys, rfl, .inl ⟨ex_l ((e.trans e2).trans e3) hx, sq_of h3, k _ _ H3 (e2.trans e3) (walk_zip hn) fun A ab s => ⟨ex_l ab hx, sq_of (s p _ (fresh_back e2 hp) h3)⟩⟩⟩
theorem ei_zipT {a : Addr} {xs ys : List V} {n : Nat} (hn : n = min xs.length ys.length) (h : Ev ta σ H (.ref a)) (hx : SqT K H a xs) (h2 : EvU tb σ H ys) : EvI (iZipA K (tCons ta (tCons tb tNil))) σ H n (YPair (fun i => xs[i]?) (fun i => ys[i]?)) := fun H1 e R k =>
  h H1 e _ fun H2 e2 => h2 H2 (e.trans e2) _ fun p H3 hp e3 h3 => ⟨a, p, xs, ys, rfl, .inr ⟨ex_t ((e.trans e2).trans e3) hx, st_of h3, k _ _ H3 (e2.trans e3) (walk_zipT hn) fun A ab s => ⟨ex_t ab hx, st_of (s p _ (fresh_back e2 hp) h3)⟩⟩⟩
/-- a tuple's items from the second on: a new tuple -/
theorem eu_slFrom1 {tl : TO} {a : Addr} {xs : List V} (h : Ev te σ H (.ref a)) (h2 : EvO tl σ H (some (1 : Int))) (hs : SqT K H a xs) (hn : 1 ≤ xs.length) : EvU (tSl (rSlA K) te tl tNoPart) σ H (xs.drop 1) := fun H1 e Q q =>
  h H1 e _ fun H2 e2 => h2 H2 (e.trans e2) _ fun H4 e4 => by
    have ec : cutV xs (some ((1 : Nat) : Int)) none = xs.drop 1 := by
      unfold cutV
      rw [HT.sIx_nat, HT.sIx_none, Nat.min_eq_left hn, List.take_of_length_le (by rw [List.length_drop]; omega)]
    refine ⟨a, xs, rfl, ex_t ((e.trans e2).trans e4) hs, fun hw => ?_, fun _ p hp => ?_⟩
    · have e1 := hw.1
      rw [show (1 : Int) = ((1 : Nat) : Int) from rfl, HT.sIx_nat, Nat.min_eq_left hn] at e1
      exact absurd e1 (by decide)
    · rw [show (1 : Int) = ((1 : Nat) : Int) from rfl, ec]
      exact q p _ (fresh_back (e2.trans e4) hp) ((e2.trans e4).trans (Ex.new hp)) upd_same
end
section
variable {t : TT} {tu tw : TS} {D : Ends} {σ : L2.St} {H : Hp}
/-- a for over a range that may be empty, its bound below 0 -/
theorem s_forR1n {ta : TA} {j : Nat} {n : Int} (h : Evl.EvA ta σ H [.int n]) (hn : -100000 ≤ n ∧ n ≤ 100000) (Pv : Nat → L2.St → Hp → Prop) (h0 : ∀ H1, Evl.Ex H H1 → Pv 0 σ H1)
    (hs : ∀ (i : Nat) σ' H', (i : Int) < n → Pv i σ' H' → tu { D with nx := Pv (i + 1), ct := Pv (i + 1), bk := D.nx } (σ'.set j (some (.int (i : Int)))) H') (hd : ∀ σ' H', Pv n.toNat σ' H' → D.nx σ' H') : tFor (iRng1 ta) (gName j) tu D σ H :=
  h H (Evl.Ex.refl H) _ fun G e => ⟨n, rfl, by omega, by omega, for_range (lo := 0) (n := n.toNat) Pv (h0 G e) (fun i σ1 G1 hi p => by
    have z : (0 : Int) + (i : Int) = (i : Int) := Int.zero_add _
    show tu { D with nx := Pv (i + 1), ct := Pv (i + 1), bk := D.nx } (σ1.set j (some (.int ((0 : Int) + (i : Int))))) G1
    rw [z]
    exact hs i σ1 G1 (by omega) p) hd⟩
theorem q_forR1n {tz : TS} {ta : TA} {j : Nat} {n : Int} (h : Evl.EvA ta σ H [.int n]) (hn : -100000 ≤ n ∧ n ≤ 100000) (Pv : Nat → L2.St → Hp → Prop) (h0 : ∀ H1, Evl.Ex H H1 → Pv 0 σ H1)
    (hs : ∀ (i : Nat) σ' H', (i : Int) < n → Pv i σ' H' → tu { D with nx := Pv (i + 1), ct := Pv (i + 1), bk := tz D } (σ'.set j (some (.int (i : Int)))) H') (hd : ∀ σ' H', Pv n.toNat σ' H' → tz D σ' H') : tSeq (tFor (iRng1 ta) (gName j) tu) tz D σ H :=
  s_forR1n (D := { D with nx := tz D }) h hn Pv h0 hs hd
end
end Hk
end S_Wj
section S_Jd
namespace P61
open PySem PySem.Spec PyProof.Rows L2 Tl Hk
/-- the text of a number -/
def dS (n : Nat) : Str := Str.ofString (toString ((n : Nat) : Int))
/-- nine signs -/
def sg (x : Bool) : Nat := if x = true then 49 else 48
def sS (b : List Bool) : Str := ⟨(b.map sg).toArray⟩
theorem d1 : ∀ n, n < 10 → Txt.removeprefix (dS n) "-" = dS n := by decide +kernel
theorem d2 : ∀ n, n < 10 → Txt.isascii (dS n) = true ∧ Txt.isdigit (dS n) = true ∧ (dS n).length = 1 := by decide +kernel
theorem d3 : ∀ n, n < 10 → Txt.startswith (dS n) "0" = decide (n = 0) := by decide +kernel
theorem d4 : ∀ n, n < 10 → decide (dS n = "0") = decide (n = 0) := by decide +kernel
theorem d5 : ∀ n, n < 10 → PySem.intText? (dS n) = some (n : Int) := by decide +kernel
theorem d6 : ∀ n, n < 10 → 32 ∉ (dS n).cps.toList := by decide +kernel
theorem s6 {b : List Bool} : 32 ∉ (sS b).cps.toList := by
  unfold sS
  intro h
  have h : 32 ∈ b.map sg := h
  obtain ⟨x, _, hx⟩ := List.mem_map.mp h
  unfold sg at hx
  split at hx <;> omega
theorem sS_len (b : List Bool) : (sS b).length = b.length := by
  unfold sS Str.length
  simp
end P61
namespace P61
open PySem PySem.Spec PyProof.Rows L2 Tl Hk
theorem scNumberIn : FnScope ["item", "least", "most", "digits", "number"] ["item", "least", "most"] (defScope sNumberIn) := ⟨rfl, rfl, rfl, by decide +kernel, rfl, by decide +kernel, by decide +kernel⟩
def spNumberIn : Sp := fun vs H Q _ => ∃ n : Nat, vs = [.str (dS n), .int 0, .int 999] ∧ n < 10 ∧ ∀ H1, Evl.Ex H H1 → Q (.int (n : Int)) H1
theorem spv_numberIn {H : Hp} {n : Nat} (h : n < 10) : Evl.SpV spNumberIn [.str (dS n), .int 0, .int 999] H (.int (n : Int)) := fun H1 e Q q E => ⟨n, rfl, h, q⟩
section
variable {P : Program} {w : World} {K : PySem.W.Frag} {mg : Str → Option Value} {base : Heap}
theorem ok_numberIn {f fW : Addr} {fd fdW : FuncData} {k : Nat} (F : Fun K "number_in" "number_in" sNumberIn f fd)
    (FW : Fun K "is_within" "is_within" sWithin fW fdW) (GW : FnOk P w K mg base CX0 k fW fdW ["value", "least", "most"] (spWithin K)) (bW : Binds K fdW ["value", "least", "most"] []) (gW : mg "is_within" = some (.ref fW))
    {tM : Tok} (gM : mg "MOST_DIGITS" = some (.int 140 tM)) (mlen : mg "len" = none) (mint : mg "int" = none) : FnOk P w K mg base CX0 (k + 1) f fd ["item", "least", "most"] spNumberIn := by
  refine F.ok scNumberIn (fun vs H Q E h => ?_) (fun cdv A outer s H vs Q E hr h => ?_)
  · obtain ⟨n, rfl, _⟩ := h
    rfl
  · obtain ⟨n, rfl, hn, q⟩ := h
    have nd := scNumberIn.nd
    refine ⟨_, pss_cons (ps_set (i := 3) nd rfl (.inl rfl) (pe_bm PySem.F.plainAttrs_str PySem.F.slot_str_removeprefix PySem.F.type_str_removeprefix mt_removeprefix (pv 0) (pa_cons pe_str pa_nil)))
      (pss_cons (ps_if (PW.pt (pw_or (pt_not (pt_val (pe_bm0 PySem.F.plainAttrs_str PySem.F.slot_str_isascii PySem.F.type_str_isascii mt_isascii (pv 3)))) (pw_or (pt_not (pt_val (pe_bm0 PySem.F.plainAttrs_str PySem.F.slot_str_isdigit PySem.F.type_str_isdigit mt_isdigit (pv 3))))
          (pw_or1 (pt_cmpR op_gt (pe_callB call_len_str (by rfl) mlen PySem.boot_len (pa_cons (pv 3) pa_nil)) (pe_glob (v := .int 140) (by rfl) gM ⟨_, rfl⟩) (nomark _)))))) (pss_one (ps_ret pe_non)) pss_nil)
      (pss_cons (ps_if (PW.pt (pw_and (pt_val (pe_bm PySem.F.plainAttrs_str PySem.F.slot_str_startswith PySem.F.type_str_startswith mt_startswith (pv 3) (pa_cons pe_str pa_nil))) (pw_and1 (pt_cmpR op_ne (pv 0) pe_str (nomark _))))) (pss_one (ps_ret pe_non)) pss_nil)
      (pss_cons (ps_set (i := 4) nd rfl (.inl rfl) (pe_callTy call_int_str (by rfl) mint (by decide +kernel) (pa_cons (pv 0) pa_nil)))
      (pss_one (ps_ret (pe_ifExp (pt_val (pe_call GW hr (by rfl) gW FW.kp bW .nil pass0 (pa_cons (pv 4) (pa_cons (pv 1) (pa_cons (pv 2) pa_nil))))) (pv 4) pe_non)))))), ?_⟩
    obtain ⟨a1, a2, a3⟩ := d2 n hn
    have sz : (dS n).length ≤ sizeLine := by rw [a3, sizeLine_eq]; decide
    refine ⟨.str (dS n), rfl, rfl, dS n, "-", rfl, rfl, sz, ?_⟩
    dsimp only [gName]
    rw [d1 n hn]
    have b1 : Evl.EvT (tNot (tB (tBM0 K "str" (fun x xs H Q => ∃ a, x = .str a ∧ xs = [] ∧ True ∧ Q (.bl (Txt.isascii a)) H) (tVar 3)))) [some (.str (dS n)), some (.int 0), some (.int 999), some (.str (dS n)), none] H false := Evl.et_is (Evl.et_not (Evl.et_B (b := true) fun H1 e Q' q' => ⟨.str (dS n), rfl, rfl, dS n, rfl, rfl, trivial, a1 ▸ q' H1 (Evl.Ex.refl _)⟩)) rfl
    have b2 : Evl.EvT (tNot (tB (tBM0 K "str" (fun x xs H Q => ∃ a, x = .str a ∧ xs = [] ∧ True ∧ Q (.bl (Txt.isdigit a)) H) (tVar 3)))) [some (.str (dS n)), some (.int 0), some (.int 999), some (.str (dS n)), none] H false := Evl.et_is (Evl.et_not (Evl.et_B (b := true) fun H1 e Q' q' => ⟨.str (dS n), rfl, rfl, dS n, rfl, rfl, trivial, a2 ▸ q' H1 (Evl.Ex.refl _)⟩)) rfl
    refine Evl.q_when (b := false) (Evl.et_or (a := false) b1 fun _ => Evl.et_or (a := false) b2 fun _ => Evl.et_is (Evl.et_test (Evl.ev_op (x := .int ((dS n).length : Int)) (fun H1 e Q' q' => ⟨.str (dS n), rfl, dS n, rfl, sz, q' H1 (Evl.Ex.refl _)⟩) Evl.ev_c Evl.rv_I0)) (by rw [a3]; decide)) (fun z => nomatch z) fun _ H1 e1 => ?_
    refine Evl.q_when (b := false) (Evl.et_is (Evl.et_and (a := decide (n = 0)) (b := !decide (dS n = "0")) (Evl.et_B fun H1 e Q' q' => ⟨.str (dS n), rfl, rfl, dS n, "0", rfl, rfl, (d3 n hn) ▸ q' H1 (Evl.Ex.refl _)⟩) fun _ => Evl.et_is (Evl.et_test (Evl.ev_op (Evl.ev_var rfl) Evl.ev_c (Evl.rv_ne rfl))) (by
        by_cases z : dS n = "0"
        · rw [decide_eq_true z, decide_eq_true (congrArg V.str z)]
        · rw [decide_eq_false z, decide_eq_false fun y => z (V.str.inj y)])) (by rw [d4 n hn]; cases decide (n = 0) <;> rfl)) (fun z => nomatch z) fun _ H2 e2 => ?_
    refine Evl.q_asg (v := .int (n : Int)) (fun H1 e Q' q' => ⟨.str (dS n), rfl, dS n, (n : Int), rfl, d5 n hn, by rw [a3]; decide, q' H1 (Evl.Ex.refl _)⟩) fun H3 e3 => ?_
    refine Evl.s_ret (Evl.ev_if (b := true) (Evl.et_is (Evl.et_B (Evl.ev_call (Evl.ea_cons (Evl.ev_var rfl) (Evl.ea_cons (Evl.ev_var rfl) (Evl.ea_cons (Evl.ev_var rfl) Evl.ea_nil))) (spv_within (.int _) trivial trivial))) ?_) (fun _ => Evl.ev_var rfl) (fun z => nomatch z)) fun H4 e4 => q H4 (((e1.trans e2).trans e3).trans e4)
    show (decide ((0 : Int) ≤ (n : Int)) && decide ((n : Int) ≤ 999)) = true
    rw [decide_eq_true (by omega), decide_eq_true (by omega)] <;> rfl
end
end P61
end S_Jd
section S_Je
namespace Hk
open PySem PySem.Spec PyProof.Rows L2 Tl
section
open Evl
variable {K : PySem.W.Frag} {σ : L2.St} {H : Hp}
def YStr (z : Str) : Nat → Hp → V → Hp → Prop := fun i H v H' => H' = H ∧ ∃ c, z.cps[i]? = some c ∧ v = .str ⟨#[c]⟩
theorem ei_str {te : TE} {z : Str} (h : Ev te σ H (.str z)) : EvI (iStr te) σ H z.cps.size (YStr z) := fun H1 e R k =>
  h H1 e _ fun H2 e2 => ⟨z, rfl, k _ _ H2 e2 walk_str fun _ _ _ => trivial⟩
theorem aims_str {z : Str} {n j : Nat} : Aims (gName j) n (YStr z) (fun i σ => σ.set j (some (.str ⟨#[z.cps.getD i 0]⟩))) := fun i σ H v H' hi y => by
  obtain ⟨rfl, c, hc, rfl⟩ := y
  have : z.cps.getD i 0 = c := by rw [Array.getD_eq_getD_getElem?, hc]; rfl
  refine ⟨Ex.refl _, fun Q q => ?_⟩
  have q : Q (σ.set j (some (V.str ⟨#[z.cps.getD i 0]⟩))) H' := q
  rw [this] at q
  exact q
end
end Hk
namespace P61
open PySem PySem.Spec PyProof.Rows L2 Tl Hk
/-- what a label tells -/
structure Lb where
  p : Nat
  l : Nat
  n : Nat
  near : List (Nat × List Bool)
/-- nine signs of a piece near a seat of the layer l -/
def SgOk (l : Nat) (b : List Bool) : Prop := b.length = 9 ∧ (l = 0 → b.take 3 = [false, false, false])
structure Lb.Ok (L : Lb) : Prop where
  hp : L.p < 10
  hl : L.l < 10
  hn : L.n < 3
  len : L.near.length ≤ 4
  head : ∃ b r, L.near = (L.p, b) :: r ∧ (r.map (·.1)).Pairwise (· < ·) ∧ L.p ∉ r.map (·.1)
  own : ∀ q ∈ L.near, q.1 = L.p → q.2.getD (3 + L.n) false = false
  each : ∀ q ∈ L.near, q.1 < 10 ∧ SgOk L.l q.2
def SeatAt (H : Hp) (S : Addr) (p l n : Nat) : Prop := H S = some (.tup [.int (p : Int), .int (l : Int), .int (n : Int)])
def PairAt (H : Hp) (r : Addr) (q : Nat × List Bool) : Prop := H r = some (.tup [.int (q.1 : Int), .str (sS q.2)])
def RowsP (H : Hp) (rs : List Addr) (near : List (Nat × List Bool)) : Prop := rs.length = near.length ∧ ∀ (i : Nat) (r : Addr) (q : Nat × List Bool), rs[i]? = some r → near[i]? = some q → PairAt H r q
def NearAt (H : Hp) (N : Addr) (near : List (Nat × List Bool)) : Prop := ∃ rs : List Addr, H N = some (.tup (rs.map V.ref)) ∧ RowsP H rs near
theorem RowsP.ex {H H' : Hp} {rs : List Addr} {near : List (Nat × List Bool)} (h : RowsP H rs near) (e : Evl.Ex H H') : RowsP H' rs near := ⟨h.1, fun i r q a b => e _ _ (h.2 i r q a b)⟩
theorem NearAt.ex {H H' : Hp} {N : Addr} {near : List (Nat × List Bool)} (h : NearAt H N near) (e : Evl.Ex H H') : NearAt H' N near := h.imp fun rs ⟨a, b⟩ => ⟨e _ _ a, b.ex e⟩
theorem SeatAt.ex {H H' : Hp} {S : Addr} {p l n : Nat} (h : SeatAt H S p l n) (e : Evl.Ex H H') : SeatAt H' S p l n := e _ _ h
def LabAt (H : Hp) (A : Addr) (L : Lb) : Prop := ∃ S N, H A = some (.tup [.ref S, .ref N]) ∧ SeatAt H S L.p L.l L.n ∧ NearAt H N L.near
theorem LabAt.ex {H H' : Hp} {A : Addr} {L : Lb} (h : LabAt H A L) (e : Evl.Ex H H') : LabAt H' A L := h.imp fun S h => h.imp fun N ⟨a, b, c⟩ => ⟨e _ _ a, b.ex e, c.ex e⟩
theorem scIsSeat : FnScope ["value"] ["value"] (defScope sIsSeat) := ⟨rfl, rfl, rfl, by decide +kernel, rfl, by decide +kernel, by decide +kernel⟩
theorem scSmall : FnScope ["value"] ["value"] (defScope sSmallSeat) := ⟨rfl, rfl, rfl, by decide +kernel, rfl, by decide +kernel, by decide +kernel⟩
theorem scSignOf : FnScope ["seat", "other"] ["seat", "other"] (defScope sSignOf) := ⟨rfl, rfl, rfl, by decide +kernel, rfl, by decide +kernel, by decide +kernel⟩
theorem scNearPiece : FnScope ["seat", "value", "piece", "signs", "sign"] ["seat", "value"] (defScope sNearPiece) := ⟨rfl, rfl, rfl, by decide +kernel, rfl, by decide +kernel, by decide +kernel⟩
def spSeat : Sp := fun vs H Q _ => ∃ (S : Addr) (p l n : Nat), vs = [.ref S] ∧ SeatAt H S p l n ∧ p < 10 ∧ l < 10 ∧ n < 3 ∧ ∀ H1, Evl.Ex H H1 → Q (.bl true) H1
theorem spv_seat {H : Hp} {S : Addr} {p l n : Nat} (h : SeatAt H S p l n) (h1 : p < 10) (h2 : l < 10) (h3 : n < 3) : Evl.SpV spSeat [.ref S] H (.bl true) := fun H1 e Q q E => ⟨S, p, l, n, rfl, h.ex e, h1, h2, h3, q⟩
def spSignOf : Sp := fun vs H Q _ => ∃ (S S2 : Addr) (p l n p2 l2 n2 : Nat), vs = [.ref S, .ref S2] ∧ SeatAt H S p l n ∧ SeatAt H S2 p2 l2 n2 ∧ l < 20 ∧ l2 < 20 ∧ ∀ H1, Evl.Ex H H1 → Q (.int (3 * ((l2 : Int) - l + 1) + n2)) H1
theorem spv_signOf {H : Hp} {S S2 : Addr} {p l n p2 l2 n2 : Nat} (h : SeatAt H S p l n) (h2 : SeatAt H S2 p2 l2 n2) (h3 : l < 20) (h4 : l2 < 20) : Evl.SpV spSignOf [.ref S, .ref S2] H (.int (3 * ((l2 : Int) - l + 1) + n2)) := fun H1 e Q q E => ⟨S, S2, p, l, n, p2, l2, n2, rfl, h.ex e, h2.ex e, h3, h4, q⟩
section
variable {K : PySem.W.Frag} {σ : L2.St} {H : Hp}
theorem ev_at {te : TE} {a : Addr} {xs : List V} {j : Nat} {v : V} (h : Evl.Ev te σ H (.ref a)) (ha : H a = some (.tup xs)) (hv : xs[j]? = some v) : Evl.Ev (tOp (rIxT K) te (tC (.int (j : Int)))) σ H v := Evl.ev_op h Evl.ev_c (Evl.rv_ixT (Evl.st_of ha) (atI_nat hv))
theorem ev_lenT {ta : TE} {p : Addr} {xs : List V} (ha : Evl.Ev ta σ H (.ref p)) (h : SqT K H p xs) : Evl.Ev (tCB (Evl.rLenS K) (tCons ta tNil)) σ H (.int (xs.length : Int)) := fun H1 e Q q =>
  ha H1 e _ fun H2 e2 => ⟨p, xs, rfl, .inr (Evl.ex_t (e.trans e2) h), q H2 e2⟩
end
theorem row_seat {K : PySem.W.Frag} {H : Hp} {S : Addr} {p l n : Nat} (h : SeatAt H S p l n) : RowR K H (.int 0) .non (.ref S) true := by
  have e : ([V.int (p : Int), .int (l : Int), .int (n : Int)].all fun v => wi v (.int 0) .non) = true := by
    show ((decide ((0 : Int) ≤ (p : Int)) && true) && ((decide ((0 : Int) ≤ (l : Int)) && true) && ((decide ((0 : Int) ≤ (n : Int)) && true) && true))) = true
    rw [decide_eq_true (by omega), decide_eq_true (by omega), decide_eq_true (by omega)] <;> rfl
  rw [← e]
  refine .tup (Evl.st_of h) (by show 3 ≤ 4000; decide) fun v hv => ?_
  simp only [List.mem_cons, List.not_mem_nil, or_false] at hv
  rcases hv with rfl | rfl | rfl <;> exact ⟨_, .int _⟩
section
variable {P : Program} {w : World} {K : PySem.W.Frag} {mg : Str → Option Value} {base : Heap}
theorem ok_isSeat {f fR : Addr} {fd fdR : FuncData} {k : Nat} (F : Fun K "is_seat" "is_seat" sIsSeat f fd)
    (FR : Fun K "is_row" "is_row" sRow fR fdR) (GR : FnOk P w K mg base CX0 k fR fdR ["value", "least", "most"] (spRow K)) (bR : Binds K fdR ["value", "least", "most"] []) (gR : mg "is_row" = some (.ref fR))
    {tM : Tok} (gM : mg "LANES" = some (.int 3 tM)) (mlen : mg "len" = none) : FnOk P w K mg base CX0 (k + 1) f fd ["value"] spSeat := by
  refine F.ok scIsSeat (fun vs H Q E h => ?_) (fun cdv A outer s H vs Q E hr h => ?_)
  · obtain ⟨S, p, l, n, rfl, _⟩ := h
    rfl
  · obtain ⟨S, p, l, n, rfl, hS, h1, h2, h3, q⟩ := h
    refine ⟨_, pss_one (ps_ret (pe_and (pe_call GR hr (by rfl) gR FR.kp bR .nil pass0 (pa_cons (pv 0) (pa_cons pe_int (pa_cons pe_non pa_nil)))) (pe_and (pe_cmpR op_eq (pe_callB call_len_seq (by rfl) mlen PySem.boot_len (pa_cons (pv 0) pa_nil)) pe_int (nomark _))
      (pe_one (pe_cmpR op_lt (pe_ix ix_tup (pv 0) pe_int (fun _ _ => rfl)) (pe_glob (v := .int 3) (by rfl) gM ⟨_, rfl⟩) (nomark _)))))), ?_⟩
    refine Evl.s_ret (v := .bl true) (Evl.ev_is (Evl.ev_andV (a := true) (Evl.ev_call (Evl.ea_cons (Evl.ev_var rfl) (Evl.ea_cons Evl.ev_c (Evl.ea_cons Evl.ev_c Evl.ea_nil))) fun H1 e Q q E => ⟨.ref S, .int 0, .non, true, rfl, row_seat (hS.ex e), trivial, trivial, q⟩) fun _ => Evl.ev_andV (a := true) (Evl.ev_is (Evl.ev_op (ev_lenT (Evl.ev_var rfl) (Evl.st_of hS)) Evl.ev_c (Evl.rv_eq rfl)) rfl) fun _ => Evl.ev_is (Evl.ev_op (ev_at (j := 2) (Evl.ev_var rfl) hS rfl) Evl.ev_c Evl.rv_I0) (congrArg V.bl (a₂ := true) (decide_eq_true (by omega)))) rfl) q
theorem ok_small {f fR : Addr} {fd fdR : FuncData} {k : Nat} (F : Fun K "_is_small_seat" "_is_small_seat" sSmallSeat f fd)
    (FR : Fun K "is_seat" "is_seat" sIsSeat fR fdR) (GR : FnOk P w K mg base CX0 k fR fdR ["value"] spSeat) (bR : Binds K fdR ["value"] []) (gR : mg "is_seat" = some (.ref fR))
    {tM : Tok} (gM : mg "MOST_NUMBER" = some (.int 999 tM)) : FnOk P w K mg base CX0 (k + 1) f fd ["value"] spSeat := by
  refine F.ok scSmall (fun vs H Q E h => ?_) (fun cdv A outer s H vs Q E hr h => ?_)
  · obtain ⟨S, p, l, n, rfl, _⟩ := h
    rfl
  · obtain ⟨S, p, l, n, rfl, hS, h1, h2, h3, q⟩ := h
    refine ⟨_, pss_one (ps_ret (pe_and (pe_call GR hr (by rfl) gR FR.kp bR .nil pass0 (pa_cons (pv 0) pa_nil)) (pe_and (pe_cmpR op_le (pe_ix ix_tup (pv 0) pe_int (fun _ _ => rfl)) (pe_glob (v := .int 999) (by rfl) gM ⟨_, rfl⟩) (nomark _))
      (pe_one (pe_cmpR op_le (pe_ix ix_tup (pv 0) pe_int (fun _ _ => rfl)) (pe_glob (v := .int 999) (by rfl) gM ⟨_, rfl⟩) (nomark _)))))), ?_⟩
    refine Evl.s_ret (v := .bl true) (Evl.ev_is (Evl.ev_andV (a := true) (Evl.ev_call (Evl.ea_cons (Evl.ev_var rfl) Evl.ea_nil) (spv_seat hS h1 h2 h3)) fun _ => Evl.ev_andV (a := true) (Evl.ev_is (Evl.ev_op (ev_at (j := 0) (Evl.ev_var rfl) hS rfl) Evl.ev_c Evl.rv_I0) (congrArg V.bl (a₂ := true) (decide_eq_true (by omega)))) fun _ => Evl.ev_is (Evl.ev_op (ev_at (j := 1) (Evl.ev_var rfl) hS rfl) Evl.ev_c Evl.rv_I0) (congrArg V.bl (a₂ := true) (decide_eq_true (by omega)))) rfl) q
theorem ok_signOf {f : Addr} {fd : FuncData} {k : Nat} (F : Fun K "_sign_of" "_sign_of" sSignOf f fd) {tM : Tok} (gM : mg "LANES" = some (.int 3 tM)) : FnOk P w K mg base CX0 (k + 1) f fd ["seat", "other"] spSignOf := by
  refine F.ok scSignOf (fun vs H Q E h => ?_) (fun cdv A outer s H vs Q E hr h => ?_)
  · obtain ⟨S, S2, p, l, n, p2, l2, n2, rfl, _⟩ := h
    rfl
  · obtain ⟨S, S2, p, l, n, p2, l2, n2, rfl, hS, hS2, h1, h2, q⟩ := h
    refine ⟨_, pss_one (ps_ret (pe_op op_add (pe_op op_mul (pe_glob (v := .int 3) (by rfl) gM ⟨_, rfl⟩) (pe_op op_add (pe_op op_sub (pe_ix ix_tup (pv 1) pe_int (fun _ _ => rfl)) (pe_ix ix_tup (pv 0) pe_int (fun _ _ => rfl))) pe_int)) (pe_ix ix_tup (pv 1) pe_int (fun _ _ => rfl)))), ?_⟩
    exact Evl.s_ret (Evl.ev_op (Evl.ev_op Evl.ev_c (Evl.ev_op (Evl.ev_op (ev_at (j := 1) (Evl.ev_var rfl) hS2 rfl) (ev_at (j := 1) (Evl.ev_var rfl) hS rfl) Evl.rv_I0) Evl.ev_c Evl.rv_I0) (Evl.rv_I (.inl ⟨by omega, by omega⟩))) (ev_at (j := 2) (Evl.ev_var rfl) hS2 rfl) Evl.rv_I0) q
end
end P61
end S_Je
section S_Wl
namespace Hk
open PySem PySem.Spec PyProof.Rows L2 Tl
theorem cutAt (xs : List V) {b h : Nat} (hl : b + h ≤ xs.length) : cutV xs (some (b : Int)) (some ((b + h : Nat) : Int)) = (xs.drop b).take h := by
  unfold cutV
  rw [HT.sIx_nat, HT.sIx_nat, Nat.min_eq_left hl, Nat.min_eq_left (by omega), show b + h - b = h by omega]
section
open Evl
variable {K : PySem.W.Frag} {σ : L2.St} {H : Hp} {ta tb : TE}
def zD (ns : List Int) : List PyData := ns.map PyData.int
theorem dp_zD : ∀ (ns : List Int), DpAll K H (ns.map V.int) (zD ns)
  | [] => .nil
  | i :: r => .cons (.int i) (dp_zD r)
theorem eqv_zD (ns ms : List Int) : PyData.eqv (.list (zD ns)) (.list (zD ms)) = decide (ns = ms) := PySem.W.Datum.eqv (α := List Int) ns ms
/-- two new lists of ints, alike or not -/
theorem ev_eqLL {ns ms : List Int} (ha : EvL ta σ H (ns.map V.int)) (hb : EvL tb σ H (ms.map V.int)) : Ev (tOp (rEqD K) ta tb) σ H (.bl (decide (ns = ms))) :=
  ev_opLL ha hb fun p q H1 h1 h2 _ => fun H2 e2 Q k => by
    refine ⟨.list (zD ns), .list (zD ms), .lst (sq_of (e2 _ _ h1)) (dp_zD ns), .lst (sq_of (e2 _ _ h2)) (dp_zD ms), PySem.W.ke_shaped_ints ns, PySem.W.ke_shaped_ints ms, ?_⟩
    rw [eqv_zD]
    exact k H2 (Ex.refl H2)
end
end Hk
namespace Hk
open PySem PySem.Spec PyProof.Rows L2 Tl
section
open Evl
variable {K : PySem.W.Frag} {σ : L2.St} {H : Hp} {ta tb te : TE} {t : TT}
/-- a comprehension over anything that is walked, with a test: the turns that give, and what -/
theorem el_lcI {wi : TI} {g : TG} {vs : List Nat} {n : Nat} {Y : Nat → Hp → V → Hp → Prop} {s : Nat → L2.St → L2.St} (f : Nat → Bool) (v : Nat → V) (hw : EvI wi σ H n Y) (aim : Aims g n Y s) (hs : ∀ i, wipe (s i (wipe σ vs)) vs = wipe σ vs) (hn : n ≤ 40000)
    (ht : ∀ i H1, Ex H H1 → i < n → EvT t (s i (wipe σ vs)) H1 (f i)) (he : ∀ i H1, Ex H H1 → i < n → f i = true → Ev te (s i (wipe σ vs)) H1 (v i)) : EvL (tLc wi g t te vs) σ H (given n f v) := fun H1 e Q q =>
  hw H1 e _ fun J G H2 e2 w sG D hD => lc_it w (Cw H2 f v D) ⟨hD, Ex.new hD, upd_same⟩ (fun i H' _ p => sG H' ((e.trans e2).trans p.2.1) fun a o _ ha => p.2.1 _ _ ha)
    (fun i x A B hi p y => by
      obtain ⟨ab, k⟩ := aim i (wipe σ vs) A x B hi y
      exact k _ ⟨hs i, cw_turn ⟨p.1, p.2.1.trans ab, ab _ _ p.2.2⟩ (by omega) (ht i H2 (e.trans e2) hi) fun hf => he i H2 (e.trans e2) hi hf⟩)
    (fun H' p => q D H' (fresh_back e2 p.1) (e2.trans p.2.1) p.2.2)
theorem el_catN {xs ys : List V} (ha : EvL ta σ H xs) (hb : EvL tb σ H ys) (hz : xs.length + ys.length ≤ 100000) : EvL (tOp rCat ta tb) σ H (xs ++ ys) := fun H1 e Q q =>
  ha H1 e _ fun a H2 ha' e2 h2 => hb H2 (e.trans e2) _ fun p H3 _ e3 h3 => ⟨a, p, xs, ys, rfl, rfl, e3 _ _ h2, h3, sz_of hz, fun r hr => q r _ (fresh_back (e2.trans e3) hr) ((e2.trans e3).trans (Ex.new hr)) upd_same⟩
end
theorem yes_at {σ : L2.St} {H : Hp} {P R : Hp → Prop} (h : P H) : tYes σ H fun b H3 => if b = true then P H3 else R H3 := by
  show (if true = true then P H else R H)
  rw [if_pos rfl]
  exact h
theorem if_go {b : Bool} {P R : Prop} (h1 : b = true → P) (h2 : b = false → R) : if b = true then P else R := by
  cases b with
  | true => rw [if_pos rfl]; exact h1 rfl
  | false => rw [if_neg (by decide)]; exact h2 rfl
theorem cutTo' (xs : List V) (n : Nat) : cutV xs none (some (n : Int)) = xs.take n := by
  unfold cutV
  rw [HT.sIx_none, HT.sIx_nat, List.drop_zero, Nat.sub_zero]
  by_cases h : n ≤ xs.length
  · rw [Nat.min_eq_left h]
  · rw [Nat.min_eq_right (by omega), List.take_length, List.take_of_length_le (by omega)]
theorem cutFrom (xs : List V) (n : Nat) : cutV xs (some (n : Int)) none = xs.drop n := by
  unfold cutV
  rw [HT.sIx_nat, HT.sIx_none]
  by_cases h : n ≤ xs.length
  · rw [Nat.min_eq_left h, List.take_of_length_le (by rw [List.length_drop]; omega)]
  · rw [Nat.min_eq_right (by omega), Nat.sub_self, List.take_zero, List.drop_of_length_le (by omega)]
end Hk
namespace Hk
open PySem PySem.Spec PyProof.Rows L2 Tl
section
open Evl
variable {K : PySem.W.Frag} {σ : L2.St} {H : Hp} {ta tb te : TE} {t : TT}
theorem el_catNV {m : Addr} {xs ys : List V} (ha : EvL ta σ H xs) (hb : Ev tb σ H (.ref m)) (hm : H m = some (.lst ys)) (hz : xs.length + ys.length ≤ 100000) : EvL (tOp rCat ta tb) σ H (xs ++ ys) := fun H1 e Q q =>
  ha H1 e _ fun a H2 ha' e2 h2 => hb H2 (e.trans e2) _ fun H3 e3 => ⟨a, m, xs, ys, rfl, rfl, e3 _ _ h2, e3 _ _ (e2 _ _ (e _ _ hm)), sz_of hz, fun r hr => q r _ (fresh_back (e2.trans e3) hr) ((e2.trans e3).trans (Ex.new hr)) upd_same⟩
theorem el_rg1 {j : Int} (ha : Ev ta σ H (.int j)) (h : RgOk 0 j) : EvL (tLstRg (tRg1 ta)) σ H (rgV 0 j) := fun H1 e Q q =>
  ha H1 e _ fun H2 e2 => ⟨j, rfl, h, fun p hp => q p _ (fresh_back e2 hp) (e2.trans (Ex.new hp)) upd_same⟩
end
end Hk
namespace Hk
open PySem PySem.Spec PyProof.Rows L2 LamX Tl
theorem tupText_le {ts : List Str} {c : Nat} (h : ∀ t ∈ ts, t.length ≤ c) : (tupleText ts).length ≤ ts.length * (c + 2) + 3 := by
  unfold tupleText
  rw [strLen_append, strLen_append]
  have e1 : (("(" : String) : Str).length = 1 := rfl
  have e2 : (((if ts.length == 1 then ",)" else ")" : String)) : Str).length ≤ 2 := by split <;> decide
  have e3 : (Str.join ", " ts).length ≤ piled ts := by
    cases ts with
    | nil => exact Nat.le_refl _
    | cons t r => have := join_length_add (t :: r) (by simp); omega
  have := piled_le h
  omega
theorem z_lenT {ns : List Int} {c : Nat} (h1 : ns.length * (c + 4) ≤ 100000) (h2 : ∀ x ∈ ns, x.natAbs ≤ c) : (PyData.tuple (dz ns)).shown.length ≤ sizeLine := by
  show (tupleText (PyData.shownAll (dz ns))).length ≤ _
  rw [shownAll_eq]
  have := tupText_le (ts := (dz ns).map PyData.shown) (c := c + 2) fun u hu => by
    unfold dz at hu
    rw [List.map_map] at hu
    obtain ⟨x, hx, rfl⟩ := List.mem_map.mp hu
    have b1 := len_str_of_int x
    have b2 := h2 x hx
    show (Str.ofString (toString x)).length ≤ c + 2
    omega
  rw [List.length_map] at this
  unfold dz at this
  rw [List.length_map] at this
  have h3 : ns.length * (c + 2 + 2) ≤ 100000 := h1
  rw [sizeLine_eq]
  unfold dz
  omega
theorem z_showB {b : Nat} (hb : b < 2 ^ 1000) : ∀ {ns : List Int}, (∀ x ∈ ns, x.natAbs ≤ b) → PyData.showableAll (dz ns) = true
  | [], _ => rfl
  | x :: r, h => by
    show (decide (x.natAbs.log2 < 1920) && PyData.showableAll (dz r)) = true
    rw [z_showB hb fun y hy => h y (List.mem_cons_of_mem _ hy), Bool.and_true]
    have h1 := h x List.mem_cons_self
    refine decide_eq_true ?_
    by_cases z : x.natAbs = 0
    · rw [z]; decide
    · have := (Nat.log2_lt z (k := 1000)).mpr (by omega)
      omega
theorem z_deepT (ns : List Int) : (PyData.tuple (dz ns)).depth ≤ 20 := by
  unfold dz
  simp [PyData.depth, PySem.W.ke_depthAll]
/-- repr of data at an address, or of None -/
def rReprB (K : PySem.W.Frag) : List V → Hp → VK → Prop := fun xs H Q => rRepr K xs H Q ∨ (xs = [.non] ∧ Q (.str "None") H)
theorem call_reprB {X : Cx} (hg : X.A.guards = some []) (hu : X.A.units + 64 < cLine) : CallR X (.builtin "repr") (rReprB X.K) := by
  intro pins s σ H xs us Q I r h
  rcases h with h | ⟨rfl, q⟩
  · exact call_reprD hg hu _ _ _ _ _ _ _ I r h
  · obtain ⟨u, rfl, ru⟩ := vals1 r
    cases ru
    exact PySem.P.repr_of_none ⟨.str "None", H, I.tok _, ⟨_, rfl⟩, q⟩
end Hk
end S_Wl
section S_Jf
namespace P61
open PySem PySem.Spec PyProof.Rows L2 Tl Hk
theorem sS_size (b : List Bool) : (sS b).cps.size = b.length := by unfold sS; simp
theorem sS_get {b : List Bool} {i : Nat} (h : i < b.length) : (sS b).cps.getD i 0 = sg (b.getD i false) := by
  unfold sS
  rw [Array.getD_eq_getD_getElem?, List.getElem?_toArray, List.getElem?_map, List.getD_eq_getElem?_getD, List.getElem?_eq_getElem h]
  rfl
theorem sS_at {b : List Bool} {i : Nat} (h : i < b.length) : atI (sS b).cps.toList (i : Int) = some (sg (b.getD i false)) := by
  refine atI_nat ?_
  unfold sS
  show (b.map sg)[i]? = _
  rw [List.getElem?_map, List.getD_eq_getElem?_getD, List.getElem?_eq_getElem h]
  rfl
theorem sS_cut3 {b : List Bool} (h : b.length = 9) : cutS (sS b) none (some 3) = sS (b.take 3) := by
  unfold cutS
  rw [show (3 : Int) = ((3 : Nat) : Int) from rfl, HT.sIx_none, HT.sIx_nat, sS_len, h]
  unfold sS
  rw [List.map_take]
  rfl
theorem no_one : (!(Builtin.Str.occurrences (sS [false, false, false]) ("1" : Str) 0 (sS [false, false, false]).length 1).isEmpty) = false := by decide +kernel
theorem sg_in (x : Bool) : inV (.str ⟨#[sg x]⟩) [V.str "0", V.str "1"] = true := by cases x <;> decide +kernel
abbrev teIn (K : PySem.W.Frag) : TE := tOp (rIn K false) (tVar 4) (tTup (tCons (tC (.str "0")) (tCons (tC (.str "1")) tNil)))
theorem ev_in01 {K : PySem.W.Frag} {σ : L2.St} {H : Hp} {x : Bool} (h : σ[4]? = some (some (.str ⟨#[sg x]⟩))) : Evl.Ev (teIn K) σ H (.bl true) := fun H1 e Q q =>
  ⟨_, h, by show 2 ≤ sizeLine; decide, fun p hp => ⟨p, [.str "0", .str "1"], rfl, .inr (Evl.st_of upd_same), rfl, rfl, by
    show Q (.bl (inV _ _)) _
    rw [sg_in]
    exact q _ (Evl.Ex.new hp)⟩⟩
theorem rc_str {K : PySem.W.Frag} {H : Hp} {s : Str} : Evl.RC (rIsi K) [.str s, .ty "str"] H (.bl true) := fun H1 e Q q => ⟨.str s, .ty "str", .type "str", .type "str", true, rfl, .ty _, .base (.str s), kit_ty (by decide +kernel), q H1 (Evl.Ex.refl H1)⟩
def spNearPiece : Sp := fun vs H Q _ => ∃ (S R : Addr) (p l n : Nat) (q : Nat × List Bool), vs = [.ref S, .ref R] ∧ SeatAt H S p l n ∧ PairAt H R q ∧ l < 10 ∧ n < 3 ∧ q.1 < 10 ∧ SgOk l q.2 ∧ (q.1 = p → q.2.getD (3 + n) false = false) ∧ ∀ H1, Evl.Ex H H1 → Q (.bl true) H1
section
variable {P : Program} {w : World} {K : PySem.W.Frag} {mg : Str → Option Value} {base : Heap}
theorem ok_nearPiece {f fL fW fS : Addr} {fd fdL fdW fdS : FuncData} {k : Nat} (F : Fun K "_is_near_piece" "_is_near_piece" sNearPiece f fd)
    (FL : Fun K "is_list" "is_list" sList fL fdL) (GL : FnOk P w K mg base CX0 k fL fdL ["value"] (spList K)) (bL : Binds K fdL ["value"] []) (gL : mg "is_list" = some (.ref fL))
    (FW : Fun K "is_within" "is_within" sWithin fW fdW) (GW : FnOk P w K mg base CX0 k fW fdW ["value", "least", "most"] (spWithin K)) (bW : Binds K fdW ["value", "least", "most"] []) (gW : mg "is_within" = some (.ref fW))
    (FS : Fun K "_sign_of" "_sign_of" sSignOf fS fdS) (GS : FnOk P w K mg base CX0 k fS fdS ["seat", "other"] spSignOf) (bS : Binds K fdS ["seat", "other"] []) (gS : mg "_sign_of" = some (.ref fS))
    {t1 t2 t3 : Tok} (g1 : mg "MOST_NUMBER" = some (.int 999 t1)) (g2 : mg "MANY_SIGNS" = some (.int 9 t2)) (g3 : mg "LANES" = some (.int 3 t3)) (mi : mg "isinstance" = none) (mstr : mg "str" = none) (mlen : mg "len" = none) (mall : mg "all" = none) :
    FnOk P w K mg base CX0 (k + 1) f fd ["seat", "value"] spNearPiece := by
  refine F.ok scNearPiece (fun vs H Q E h => ?_) (fun cdv A outer s H vs Q E hr h => ?_)
  · obtain ⟨S, R, p, l, n, q, rfl, _⟩ := h
    rfl
  · obtain ⟨S, R, p, l, n, ⟨pc, b⟩, rfl, hS, hR, hl, hn, hp, ⟨hb1, hb2⟩, hown, q⟩ := h
    have nd := scNearPiece.nd
    have hR : H R = some (.tup [.int (pc : Int), .str (sS b)]) := hR
    have hown : pc = p → b.getD (3 + n) false = false := hown
    have hp : pc < 10 := hp
    have hb1 : b.length = 9 := hb1
    have hb2 : l = 0 → b.take 3 = [false, false, false] := hb2
    refine ⟨_, pss_cons (ps_if (PW.pt (pw_or (pt_not (pt_val (pe_call GL hr (by rfl) gL FL.kp bL .nil pass0 (pa_cons (pv 1) pa_nil)))) (pw_or1 (pt_cmpR op_ne (pe_callB call_len_seq (by rfl) mlen PySem.boot_len (pa_cons (pv 1) pa_nil)) pe_int (nomark _))))) (pss_one (ps_ret pe_bl)) pss_nil)
      (pss_cons (ps_asg (pv 1) (pg_tup (by rfl) (pgs_cons (pg_name (i := 2) nd rfl (Or.inl rfl)) (pgs_cons (pg_name (i := 3) nd rfl (Or.inl rfl)) pgs_nil))))
      (pss_cons (ps_if (PW.pt (pw_or (pt_not (pt_val (pe_call GW hr (by rfl) gW FW.kp bW .nil pass0 (pa_cons (pv 2) (pa_cons pe_int (pa_cons (pe_glob (v := .int 999) (by rfl) g1 ⟨_, rfl⟩) pa_nil)))))) (pw_or (pt_not (pt_val (pe_callB call_isi (by rfl) mi (by decide +kernel) (pa_cons (pv 3) (pa_cons (pe_bltn (v := .ty "str") (by rfl) mstr (by decide +kernel) rfl) pa_nil)))))
          (pw_or1 (pt_cmpR op_ne (pe_callB call_len_str (by rfl) mlen PySem.boot_len (pa_cons (pv 3) pa_nil)) (pe_glob (v := .int 9) (by rfl) g2 ⟨_, rfl⟩) (nomark _)))))) (pss_one (ps_ret pe_bl)) pss_nil)
      (pss_cons (ps_if (pt_not (pt_val (pe_callB (cr_all rfl) (by rfl) mall (by decide +kernel) (pa_cons (pe_lc (own := [("sign", 4)]) (g := gName 4) (tt := tYes) (te := teIn K) rfl nd (pi_str (pv 3)) (blkOk_by (N := ["seat", "value", "piece", "signs", "sign"]) (sc := defScope sNearPiece) (by decide +kernel)) (fun _ _ _ _ _ => pg_name (i := 4) nd rfl (Or.inl rfl)) (fun _ _ _ _ _ => pts_nil)
          (fun _ _ _ _ _ => pe_cmpR op_in_seq (pv 4) (pe_tup (pa_cons pe_str (pa_cons pe_str pa_nil))) (by with_unfolding_all rfl))) pa_nil)))) (pss_one (ps_ret pe_bl)) pss_nil)
      (pss_cons (ps_if (PW.pt (pw_and (pt_cmpR op_eq (pe_ix ix_tup (pv 0) pe_int (fun _ _ => rfl)) pe_int (nomark _)) (pw_and1 (pt_cmpR op_in_str pe_str (pe_slice sl_str (pv 3) po_none (po_some (pe_glob (v := .int 3) (by rfl) g3 ⟨_, rfl⟩))) (by with_unfolding_all rfl))))) (pss_one (ps_ret pe_bl)) pss_nil)
      (pss_one (ps_ret (pe_or (pe_cmpR op_ne (pv 2) (pe_ix ix_tup (pv 0) pe_int (fun _ _ => rfl)) (nomark _)) (pe_one (pe_cmpR op_eq (pe_ix ix_str (pv 3) (pe_call GS hr (by rfl) gS FS.kp bS .nil pass0 (pa_cons (pv 0) (pa_cons (pv 0) pa_nil))) (fun _ _ => rfl)) pe_str (nomark _)))))))))), ?_⟩
    have sz : (sS b).length ≤ sizeLine := by rw [sS_len, hb1, sizeLine_eq]; decide
    refine Evl.q_when (b := false) (Evl.et_or (a := false) (Evl.et_is (Evl.et_not (Evl.et_B (b := true) (Evl.ev_is (Evl.ev_call (Evl.ea_cons (Evl.ev_var rfl) Evl.ea_nil) (spv_list (.tup (Evl.st_of hR)))) (by decide)))) rfl) fun _ => Evl.et_is (Evl.et_test (Evl.ev_op (ev_lenT (Evl.ev_var rfl) (Evl.st_of hR)) Evl.ev_c (Evl.rv_ne rfl))) (by show (!decide (V.int ((2 : Nat) : Int) = V.int 2)) = false; decide)) (fun z => nomatch z) fun _ H1 e1 => ?_
    refine ⟨.ref R, rfl, R, _, rfl, Evl.st_of (e1 _ _ hR), rfl, _, _, rfl, _, _, rfl, rfl, ?_⟩
    dsimp only [gName]
    refine Evl.q_when (b := false) (Evl.et_or (a := false) (Evl.et_is (Evl.et_not (Evl.et_B (b := true) (Evl.ev_is (Evl.ev_call (Evl.ea_cons (Evl.ev_var rfl) (Evl.ea_cons Evl.ev_c (Evl.ea_cons Evl.ev_c Evl.ea_nil))) (spv_within (.int _) trivial trivial)) ?_))) rfl) fun _ => Evl.et_or (a := false) (Evl.et_is (Evl.et_not (Evl.et_B (Evl.ev_cb (Evl.ea_cons (Evl.ev_var rfl) (Evl.ea_cons Evl.ev_c Evl.ea_nil)) rc_str))) rfl) fun _ => Evl.et_is (Evl.et_test (Evl.ev_op (x := .int ((sS b).length : Int)) (fun H1 e Q' q' => ⟨.str (sS b), rfl, sS b, rfl, sz, q' H1 (Evl.Ex.refl _)⟩) Evl.ev_c (Evl.rv_ne rfl))) (by rw [sS_len, hb1]; decide)) (fun z => nomatch z) fun _ H2 e2 => ?_
    · show V.bl (decide ((0 : Int) ≤ (pc : Int)) && decide ((pc : Int) ≤ 999)) = V.bl true
      rw [decide_eq_true (by omega), decide_eq_true (by omega)] <;> rfl
    refine Evl.q_when (b := false) (Evl.et_is (Evl.et_not (Evl.et_B (b := true) (Evl.ev_is (ev_allN (bs := List.replicate 9 true) ?_) (by decide)))) rfl) (fun z => nomatch z) fun _ H3 e3 => ?_
    · have hh := el_lcI (te := teIn K) (t := tYes) (σ := [some (.ref S), some (.ref R), some (.int (pc : Int)), some (.str (sS b)), none]) (H := H2) (vs := [4]) (fun _ => true) (fun _ => V.bl true) (ei_str (z := sS b) (Evl.ev_var (i := 3) rfl)) (aims_str (j := 4)) (fun _ => rfl) (by rw [sS_size, hb1]; decide) (fun _ _ _ _ => et_yes) fun i H4 e4 hi _ => by
        rw [sS_size] at hi
        exact ev_in01 (x := b.getD i false) (by rw [sS_get hi]; rfl)
      rw [sS_size, hb1] at hh
      exact hh
    have e13 := (e1.trans e2).trans e3
    refine Evl.q_when (b := false) (Evl.et_is (Evl.et_and (a := decide (V.int (l : Int) = V.int 0)) (b := false) (Evl.et_test (Evl.ev_op (ev_at (j := 1) (Evl.ev_var rfl) (e13 _ _ hS) rfl) Evl.ev_c (Evl.rv_eq rfl))) fun hz => ?_) (by cases decide (V.int (l : Int) = V.int 0) <;> rfl)) (fun z => nomatch z) fun _ H4 e4 => ?_
    · have l0 : l = 0 := by have := V.int.inj (of_decide_eq_true hz); omega
      refine Evl.et_test (te := tOp _ _ _) (fun H5 e5 Q' q' => ⟨V.str (sS b), rfl, 3, rfl, sS b, rfl, sz, "1", _, rfl, rfl, ?_⟩)
      rw [sS_cut3 hb1, hb2 l0, no_one]
      exact q' H5 (Evl.Ex.refl _)
    have hS4 := e4 _ _ (e13 _ _ hS)
    refine Evl.s_ret (v := .bl true) (Evl.ev_is (Evl.ev_orV (Evl.ev_op (Evl.ev_var rfl) (ev_at (j := 0) (Evl.ev_var rfl) hS4 rfl) (Evl.rv_ne rfl)) (b := true) fun hz => ?_) (by rw [Bool.or_true])) fun H5 e5 => q H5 ((e13.trans e4).trans e5)
    have pe : pc = p := by
      by_cases z : pc = p
      · exact z
      · rw [decide_eq_false fun y => z (by have := V.int.inj y; omega)] at hz
        cases hz
    refine Evl.ev_is (Evl.ev_op (x := .str ⟨#[48]⟩) (Evl.ev_op (Evl.ev_var rfl) (Evl.ev_call (Evl.ea_cons (Evl.ev_var rfl) (Evl.ea_cons (Evl.ev_var rfl) Evl.ea_nil)) (spv_signOf hS4 hS4 (by omega) (by omega))) fun H5 e5 Q' q' => ⟨sS b, _, 48, rfl, rfl, sz, ?_, q' H5 (Evl.Ex.refl _)⟩) Evl.ev_c (Evl.rv_eq rfl)) (congrArg V.bl (a₂ := true) (by decide))
    have := sS_at (b := b) (i := 3 + n) (by omega)
    rw [hown pe] at this
    rw [show 3 * ((l : Int) - (l : Int) + 1) + (n : Int) = ((3 + n : Nat) : Int) by omega]
    exact this
end
end P61
end S_Jf
section S_Wm
namespace Hk
open PySem PySem.Spec PyProof.Rows L2 Tl
/-- a set without items, as set() lays it -/
abbrev zO (w : World) : Obj := { cls := .type "set", dict := none, data := .set #[] 0 (.fresh 0 0 (!w.params.followText "set-order")) }
/-- what comes of set(l), l a list of these ints -/
def Got (w : World) (s : Shared) (ns : List Int) (r : Value) (s2 : Shared) : Prop := r = .ref s.heap.objs.size ∧ ∃ (h' : Heap) (tk c : Nat), s2 = { s with heap := h', toks := tk } ∧ SetR w h' s.heap.objs.size (fun j => decide (j ∈ ns)) c ∧ c ≤ ns.length ∧ ∀ b o, s.heap.get? b = some o → h'.get? b = some o
section
variable {P : Program} {w : World} {A : Around} {E : Value → Shared → Prop} {s : Shared}
set_option maxHeartbeats 3200000 in
theorem fill_list {l : Addr} {its : Array Value} {ns : List Int} (a0 : A.handled = none) (hl : s.heap.IsList l its) (hi : IntsAre its.toList ns) (hb : ns.length + 1 < scanBound) :
    codeAny (model P w) A (.call (.builtin "set.__init__") ⟨[.ref s.heap.objs.size, .ref l], []⟩) (wants (fun r s2 => r = .none ∧ Got w s ns (.ref s.heap.objs.size) s2) E) { s with heap := s.heap.push (zO w) } := by
  have n1 : its.size = ns.length := by
    have z := IntsAre.length hi
    rwa [Array.length_toList] at z
  have g0 : (s.heap.push (zO w)).get? s.heap.objs.size = some (zO w) := Heap.get?_push_size _ rfl
  refine codeAny_call_builtin (R := wants (fun r s2 => r = .none ∧ Got w s ns (.ref s.heap.objs.size) s2) E) F.called_set.init.plain F.entry_set_init (check_set_init_1 (s := { s with heap := s.heap.push (zO w) }) ⟨_, g0, rfl⟩ ?_)
  obtain ⟨⟨oc, od, ob, osl⟩, o1, o2, nl, o3⟩ := hl
  simp only at o2 o3
  subst o2
  subst o3
  have g1 := Heap.get?_push_of_some (zO w) o1
  have hls : (s.heap.push (zO w)).IsList l its := ⟨_, g1, rfl, nl, rfl⟩
  have k1 := F.sub_list_set
  have k2 := F.sub_list_frozenset
  have k3 : (Value.type "list" == Value.type "dict") = false := by decide
  unfold Builtin.«set.__init__» noKeywords Builtin.Frozenset.updateFrom
  generalize hPI : pyIter = PI
  wp_walk
  subst hPI
  refine wpAny_pyIter_list hls (wpAny_bind (wpAny_runValue ?_))
  have lS : l < s.heap.objs.size := Heap.lt_size o1
  have sz : (s.heap.push (zO w)).objs.size = s.heap.objs.size + 1 := Heap.size_push ..
  have a3 : A.in1.in1.handled = none := by simp [a0]
  have nI : l ≠ (s.heap.push (zO w)).objs.size := by
    rw [sz]
    exact Nat.ne_of_lt (Nat.lt_succ_of_lt lS)
  have nS : s.heap.objs.size ∉ [(s.heap.push (zO w)).objs.size, l] := fun m => by
    rw [sz] at m
    rcases List.mem_cons.mp m with z | z
    · exact Nat.ne_of_lt (Nat.lt_succ_self _) z
    · exact Nat.ne_of_gt lS (List.mem_singleton.mp z)
  have val : ∀ (i : Nat) (v : Value), its[i]? = some v → ∃ k t, ns[i]? = some k ∧ v = .int k t := fun i v hv => by
    have lt : i < ns.length := by rw [← n1]; exact (Array.getElem?_eq_some_iff.mp hv).1
    obtain ⟨t, e⟩ := PyProof.Rows.IntsAre.int_at hi i v (by rw [Array.getElem?_toList]; exact hv)
    exact ⟨ns[i], t, List.getElem?_eq_getElem lt, by rw [e, List.getD_eq_getElem?_getD, List.getElem?_eq_getElem lt] <;> rfl⟩
  refine set_update_ints ((Walks.list a3 _ l nI its).toS) s.heap.objs.size nS ns n1 hb val (its.size - 0) 0 _ (by omega) (Nat.zero_le _) ?z ?z0 ?z1
  case z => exact ⟨⟨_, Heap.get?_push_size _ rfl, rfl, rfl⟩, (hls.push _)⟩
  case z0 => exact ⟨0, Nat.le_refl 0, setR_new_at (Heap.get?_push_of_some _ g0)⟩
  case z1 =>
    intro s' c' hm hc' hS'
    obtain ⟨h', g2, d2, tk', os2⟩ := s'
    obtain rfl : g2 = s.gens := hm.gens
    obtain rfl : d2 = s.drawn := hm.drawn
    obtain rfl : os2 = s.os := hm.os
    show wpAny _ _ _ _ _ _
    refine wpAny_pure ?_
    show wpAny _ _ (ret Value.none) _ _ _
    rw [n1] at hc'
    refine wpAny_pure ⟨rfl, rfl, h', tk', c', rfl, hS', hc', fun b o e => ?_⟩
    have lb : b < s.heap.objs.size := Heap.lt_size e
    refine hm.heap b o (fun m => ?_) (Heap.get?_push_of_some _ (Heap.get?_push_of_some _ e))
    rcases List.mem_cons.mp m with z | z
    · exact Nat.ne_of_lt lb z
    · have z := List.mem_singleton.mp z
      rw [sz] at z
      exact Nat.ne_of_lt (Nat.lt_succ_of_lt lb) z
set_option maxHeartbeats 3200000 in
theorem set_of_list {l : Addr} {its : Array Value} {ns : List Int} {Q : Value → Shared → Prop} (a0 : A.handled = none) (hl : s.heap.IsList l its) (hi : IntsAre its.toList ns) (hb : ns.length + 1 < scanBound)
    (k : ∀ r s2, Got w s ns r s2 → Q r s2) : wpAny (model P w) A (call (.type "set") [.ref l]) Q E s := by
  obtain ⟨c, tl, hmro⟩ := F.called_set.mro
  refine wpAny_call (codeAny_of_tree ?_)
  show wpAny _ _ (callAny (.type "set") _) _ _ _
  refine wpAny_pure ⟨Code.quiet_builtin _ (by decide +kernel), codeAny_builtin F.entry_type_call ?_⟩
  rw [Around.under_plain (weight_type_call_type "set" [.ref l] []) rfl]
  have m1 := F.called_set.made
  have m2 := F.called_set.sub
  have m3 := F.called_set.notType
  have m4 := F.called_set.canCreate
  have m5 := F.typeCall_set_1 (.ref l)
  repeat (any_goals (first | assumption | wp_step))
  refine codeAny_mono (code_set_led1 (.ref l) (E := E) (Q₁ := fun u t => u = .ref s.heap.objs.size ∧ t = { s with heap := s.heap.push (zO w) }) ⟨rfl, rfl⟩) fun r s1 hr => ?_
  match r, hr with
  | .ok (.ret u), hr =>
    obtain ⟨rfl, rfl⟩ := hr
    have g0 : (s.heap.push (zO w)).get? s.heap.objs.size = some (zO w) := Heap.get?_push_size _ rfl
    have hT : Shared.TypeIs { s with heap := s.heap.push (zO w) } (.ref s.heap.objs.size) "set" := ⟨_, g0, rfl⟩
    have m6 := F.called_set.init.lookup
    have m7 := F.called_set.init.bind (.ref s.heap.objs.size)
    repeat (any_goals (first | assumption | wp_step))
    refine codeAny_mono (fill_list (P := P) (w := w) (E := E) a0 hl hi hb) fun r2 s2 h2 => ?_
    match r2, h2 with
    | .ok (.ret u), h2 =>
      obtain ⟨rfl, G⟩ := h2
      repeat (any_goals (first | assumption | wp_step))
      exact k _ _ G
    | .error e, h2 => exact h2
    | .ok .next, h2 => exact h2.elim
    | .ok .brk, h2 => exact h2.elim
    | .ok .cont, h2 => exact h2.elim
  | .error e, hr => exact hr
  | .ok .next, hr => exact hr.elim
  | .ok .brk, hr => exact hr.elim
  | .ok .cont, hr => exact hr.elim
end
/-- set(l) of a list of ints -/
def rSetL (K : PySem.W.Frag) (w : World) : List V → Hp → VK → Prop := fun xs H Q => ∃ (l : Addr) (ns : List Int), xs = [.ref l] ∧ SqL K H l (ns.map V.int) ∧ ns.length ≤ 1000 ∧ ∀ p c, H p = none → c ≤ ns.length → Q (.ref p) (upd H p (SetO w p (fun j => decide (j ∈ ns)) c))
theorem cr_setL {X : Cx} (hc : X.calm = true) : CallR X (.type "set") (rSetL X.K X.w) := by
  intro pins s σ H xs us Q I r h
  obtain ⟨l, ns, rfl, hq, hz, q⟩ := h
  rw [Vals.ref1 r]
  obtain ⟨its, rv, pl, _⟩ := I.list hq
  refine set_of_list (ns := ns) (I.ok.hd hc) pl.isList (by simpa using RZ.intsAre_vals rv) (by unfold scanBound; omega) fun u s2 ⟨e1, h', tk, c, e2, R, hc', kp⟩ => ?_
  subst e1 e2
  have hn : H s.heap.objs.size = none := I.hok.fresh (Nat.le_refl _)
  exact ⟨.ref s.heap.objs.size, _, I.laid (t' := tk) kp (Nat.le_refl _) (setO_new R), rfl, q _ c hn hc'⟩
end Hk
end S_Wm
section S_Jg
namespace Hk
open PySem PySem.Spec PyProof.Rows L2 Tl
theorem asc_eq : ∀ {xs ys : List Int}, xs.Pairwise (· < ·) → ys.Pairwise (· < ·) → (∀ k, k ∈ xs ↔ k ∈ ys) → xs = ys
  | [], [], _, _, _ => rfl
  | [], y :: r, _, _, h => by have := (h y).mpr List.mem_cons_self; cases this
  | x :: r, [], _, _, h => by have := (h x).mp List.mem_cons_self; cases this
  | x :: r, y :: s, h1, h2, h => by
    obtain ⟨a1, a2⟩ := List.pairwise_cons.mp h1
    obtain ⟨b1, b2⟩ := List.pairwise_cons.mp h2
    have e : x = y := by
      rcases List.mem_cons.mp ((h x).mp List.mem_cons_self) with z | z
      · exact z
      · rcases List.mem_cons.mp ((h y).mpr List.mem_cons_self) with u | u
        · exact u.symm
        · have := a1 y u
          have := b1 x z
          omega
    subst e
    rw [asc_eq a2 b2 fun k => ?_]
    constructor
    · intro hk
      rcases List.mem_cons.mp ((h k).mp (List.mem_cons_of_mem _ hk)) with z | z
      · have := a1 k hk; omega
      · exact z
    · intro hk
      rcases List.mem_cons.mp ((h k).mpr (List.mem_cons_of_mem _ hk)) with z | z
      · have := b1 k hk; omega
      · exact z
theorem in_ints (x : Int) (ns : List Int) : inV (.int x) (ns.map V.int) = decide (x ∈ ns) := by
  unfold inV
  induction ns with
  | nil => rfl
  | cons a r ih =>
    rw [List.map_cons, List.any_cons, ih]
    have e : eqV (.int a) (.int x) = decide (x = a) := by
      show decide (a = x) = decide (x = a)
      exact decide_eq_decide.mpr eq_comm
    rw [e, ← Bool.decide_or]
    exact decide_eq_decide.mpr List.mem_cons.symm
theorem flat_ints (ns : List Int) : (ns.map V.int).all flatV = true := by
  rw [List.all_eq_true]
  intro v hv
  obtain ⟨i, _, rfl⟩ := List.mem_map.mp hv
  rfl
section
open Evl
variable {K : PySem.W.Frag} {σ : L2.St} {H : Hp} {ta tb te : TE}
theorem el_from1 {tl : TO} {a : Addr} {xs : List V} (h : Ev te σ H (.ref a)) (h2 : EvO tl σ H (some (1 : Int))) (hs : SqL K H a xs) : EvL (tSl (rSlL K) te tl tNoPart) σ H (xs.drop 1) := by
  rw [← cutFrom]
  exact el_sl h h2 eo_none hs
theorem el_sortedSet {w : World} {ns : List Int} (h : EvL ta σ H (ns.map V.int)) (hp : ns.Pairwise (· < ·)) (hl : ns.length < 60) : EvL (tCB (rSortedSet w) (tCons (tCB (rSetL K w) (tCons ta tNil)) tNil)) σ H (ns.map V.int) := fun H1 e Q q =>
  h H1 e _ fun l H2 hl' e2 h2 => ⟨l, ns, rfl, sq_of h2, by omega, fun p c hp' hc => ⟨p, _, c, rfl, upd_same, by omega, fun ms r hpw hmem hlen hr => by
    obtain rfl : ms = ns := asc_eq hpw hp fun k => (hmem k).trans decide_eq_true_iff
    exact q r _ (fresh_back (e2.trans (Ex.new hp')) hr) ((e2.trans (Ex.new hp')).trans (Ex.new hr)) upd_same⟩⟩
theorem ev_notIn {x : Int} {ns : List Int} (h : Ev ta σ H (.int x)) (h2 : EvL tb σ H (ns.map V.int)) : Ev (tOp (rIn K true) ta tb) σ H (.bl !decide (x ∈ ns)) := fun H1 e Q q =>
  h H1 e _ fun H2 e2 => h2 H2 (e.trans e2) _ fun p H3 hp e3 h3 => ⟨p, _, rfl, .inl (sq_of h3), rfl, flat_ints ns, by
    show Q (.bl !inV (.int x) (ns.map V.int)) H3
    rw [in_ints]
    exact q H3 (e2.trans e3)⟩
end
end Hk
namespace P61
open PySem PySem.Spec PyProof.Rows L2 Tl Hk
theorem scNearPieces : FnScope ["seat", "value", "pair", "pieces"] ["seat", "value"] (defScope sNearPieces) := ⟨rfl, rfl, rfl, by decide +kernel, rfl, by decide +kernel, by decide +kernel⟩
def spNearPieces : Sp := fun vs H Q _ => ∃ (S N : Addr) (L : Lb), vs = [.ref S, .ref N] ∧ L.Ok ∧ SeatAt H S L.p L.l L.n ∧ NearAt H N L.near ∧ ∀ H1, Evl.Ex H H1 → Q (.bl true) H1
theorem spv_nearPieces {H : Hp} {S N : Addr} {L : Lb} (h : L.Ok) (h1 : SeatAt H S L.p L.l L.n) (h2 : NearAt H N L.near) : Evl.SpV spNearPieces [.ref S, .ref N] H (.bl true) := fun H1 e Q q E => ⟨S, N, L, rfl, h, h1.ex e, h2.ex e, q⟩
def pcs (near : List (Nat × List Bool)) : List Int := near.map fun q => (q.1 : Int)
section
variable {P : Program} {w : World} {K : PySem.W.Frag} {mg : Str → Option Value} {base : Heap}
set_option maxHeartbeats 1000000 in
theorem ok_nearPieces {f fL fW fN : Addr} {fd fdL fdW fdN : FuncData} {k : Nat} (F : Fun K "_are_near_pieces" "_are_near_pieces" sNearPieces f fd)
    (FL : Fun K "is_list" "is_list" sList fL fdL) (GL : FnOk P w K mg base CX0 k fL fdL ["value"] (spList K)) (bL : Binds K fdL ["value"] []) (gL : mg "is_list" = some (.ref fL))
    (FW : Fun K "is_within" "is_within" sWithin fW fdW) (GW : FnOk P w K mg base CX0 k fW fdW ["value", "least", "most"] (spWithin K)) (bW : Binds K fdW ["value", "least", "most"] []) (gW : mg "is_within" = some (.ref fW))
    (FN : Fun K "_is_near_piece" "_is_near_piece" sNearPiece fN fdN) (GN : FnOk P w K mg base CX0 k fN fdN ["seat", "value"] spNearPiece) (bN : Binds K fdN ["seat", "value"] []) (gN : mg "_is_near_piece" = some (.ref fN))
    {t1 : Tok} (g1 : mg "MOST_IN_BAG" = some (.int 4 t1)) (mlen : mg "len" = none) (mall : mg "all" = none) (mset : mg "set" = none) (msorted : mg "sorted" = none) :
    FnOk P w K mg base CX0 (k + 1) f fd ["seat", "value"] spNearPieces := by
  refine F.ok scNearPieces (fun vs H Q E h => ?_) (fun cdv A outer s H vs Q E hr h => ?_)
  · obtain ⟨S, N, L, rfl, _⟩ := h
    rfl
  · obtain ⟨S, N, L, rfl, hL, hS, ⟨rs, hN, hR1, hR2⟩, q⟩ := h
    have nd := scNearPieces.nd
    refine ⟨_, pss_cons (ps_if (PW.pt (pw_or (pt_not (pt_val (pe_call GL hr (by rfl) gL FL.kp bL .nil pass0 (pa_cons (pv 1) pa_nil)))) (pw_or1 (pt_not (pt_val (pe_call GW hr (by rfl) gW FW.kp bW .nil pass0 (pa_cons (pe_callB call_len_seq (by rfl) mlen PySem.boot_len (pa_cons (pv 1) pa_nil)) (pa_cons pe_int (pa_cons (pe_glob (v := .int 4) (by rfl) g1 ⟨_, rfl⟩) pa_nil))))))))) (pss_one (ps_ret pe_bl)) pss_nil)
      (pss_cons (ps_if (pt_not (pt_val (pe_callB (cr_all rfl) (by rfl) mall (by decide +kernel) (pa_cons (pe_lc (own := [("pair", 2)]) (g := gName 2) (tt := tYes) rfl nd (pi_tup (pv 1)) (blkOk_by (N := ["seat", "value", "pair", "pieces"]) (sc := defScope sNearPieces) (by decide +kernel)) (fun _ _ _ _ _ => pg_name (i := 2) nd rfl (Or.inl rfl)) (fun _ _ _ _ _ => pts_nil)
          (fun _ _ _ _ _ => pe_call GN hr (by rfl) gN FN.kp bN .nil pass0 (pa_cons (pv 0) (pa_cons (pv 2) pa_nil)))) pa_nil)))) (pss_one (ps_ret pe_bl)) pss_nil)
      (pss_cons (ps_setLc (i := 3) (own := [("pair", 2)]) (g := gName 2) (tt := tYes) (te := tOp (rIxT K) (tVar 2) (tC (.int 0))) rfl nd rfl rfl (sw_true rfl rfl rfl (by decide +kernel)) (pi_tup (pv 1)) (blkOk_by (N := ["seat", "value", "pair", "pieces"]) (sc := defScope sNearPieces) (by decide +kernel)) (fun _ _ _ _ _ => pg_name (i := 2) nd rfl (Or.inl rfl)) (fun _ _ _ _ _ => pts_nil)
          (fun _ _ _ _ _ => pe_ix ix_tup (pv 2) pe_int (fun _ _ => rfl)))
      (pss_one (ps_ret (pe_and (pe_cmpR op_eq (pe_ix ix_list (pv 3) pe_int (fun _ _ => rfl)) (pe_ix ix_tup (pv 0) pe_int (fun _ _ => rfl)) (nomark _))
        (pe_and (pe_cmpR (op_eqD hr.units) (pe_slice sl_list (pv 3) (po_some pe_int) po_none) (pe_callB (cr_sortedSet rfl) (by rfl) msorted (by decide +kernel) (pa_cons (pe_callTy (cr_setL rfl) (by rfl) mset (by decide +kernel) (pa_cons (pe_slice sl_list (pv 3) (po_some pe_int) po_none) pa_nil)) pa_nil)) (nomark _))
        (pe_one (pe_cmpR op_notIn_seq (pe_ix ix_tup (pv 0) pe_int (fun _ _ => rfl)) (pe_slice sl_list (pv 3) (po_some pe_int) po_none) (by with_unfolding_all rfl)))))))))  , ?_⟩
    obtain ⟨b0, r, hnear, hpw, hnotin⟩ := hL.head
    have hlen1 : 1 ≤ L.near.length := by rw [hnear]; exact Nat.succ_le_succ (Nat.zero_le _)
    have hlen4 := hL.len
    have lr : (rs.map V.ref).length = L.near.length := by rw [List.length_map, hR1]
    have at_ : ∀ i, i < L.near.length → ∃ (r' : Addr) (q' : Nat × List Bool), (rs.map V.ref).getD i .non = .ref r' ∧ L.near[i]? = some q' ∧ q' ∈ L.near ∧ PairAt H r' q' := fun i hi => by
      have hi2 : i < rs.length := by rw [hR1]; exact hi
      refine ⟨rs[i], L.near[i], ?_, List.getElem?_eq_getElem hi, List.getElem_mem hi, hR2 i _ _ (List.getElem?_eq_getElem hi2) (List.getElem?_eq_getElem hi)⟩
      rw [List.getD_eq_getElem?_getD, List.getElem?_map, List.getElem?_eq_getElem hi2] <;> rfl
    refine Evl.q_when (b := false) (Evl.et_or (a := false) (Evl.et_is (Evl.et_not (Evl.et_B (b := true) (Evl.ev_is (Evl.ev_call (Evl.ea_cons (Evl.ev_var rfl) Evl.ea_nil) (spv_list (.tup (Evl.st_of hN)))) (by decide)))) rfl) fun _ => Evl.et_is (Evl.et_not (Evl.et_B (b := true) (Evl.ev_is (Evl.ev_call (Evl.ea_cons (ev_lenT (Evl.ev_var rfl) (Evl.st_of hN)) (Evl.ea_cons Evl.ev_c (Evl.ea_cons Evl.ev_c Evl.ea_nil))) (spv_within (.int _) trivial trivial)) ?_))) rfl) (fun z => nomatch z) fun _ H1 e1 => ?_
    · rw [lr]
      show V.bl (decide ((1 : Int) ≤ (L.near.length : Int)) && decide ((L.near.length : Int) ≤ 4)) = V.bl true
      rw [decide_eq_true (by omega), decide_eq_true (by omega)] <;> rfl
    refine Evl.q_when (b := false) (Evl.et_is (Evl.et_not (Evl.et_B (b := true) (Evl.ev_is (ev_allN (bs := List.replicate L.near.length true) ?_) (by simp)))) rfl) (fun z => nomatch z) fun _ H2 e2 => ?_
    · have hh := el_lcI (te := tCall spNearPiece [] E0 (tCons (tVar 0) (tCons (tVar 2) tNil))) (t := tYes) (σ := [some (.ref S), some (.ref N), none, none]) (H := H1) (vs := [2]) (fun _ => true) (fun _ => V.bl true) (ei_tup (K := K) (Evl.ev_var (i := 1) rfl) (Evl.st_of (e1 _ _ hN))) (aims_at (j := 2)) (fun _ => rfl) (by omega) (fun _ _ _ _ => et_yes) fun i H4 e4 hi _ => by
        rw [lr] at hi
        obtain ⟨r', q', x1, x2, x3, x4⟩ := at_ i hi
        obtain ⟨y1, y2⟩ := hL.each q' x3
        rw [x1]
        exact Evl.ev_call (Evl.ea_cons (Evl.ev_var rfl) (Evl.ea_cons (Evl.ev_var rfl) Evl.ea_nil)) fun H5 e5 Q' q5 E' => ⟨S, r', L.p, L.l, L.n, q', rfl, ((hS.ex e1).ex e4).ex e5, e5 _ _ (e4 _ _ (e1 _ _ x4)), hL.hl, hL.hn, y1, y2, hL.own q' x3, q5⟩
      have er : Evl.given (rs.map V.ref).length (fun _ => true) (fun _ => V.bl true) = (List.replicate L.near.length true).map V.bl := by
        rw [lr]
        unfold Evl.given
        rw [List.filter_eq_self.mpr (fun _ _ => rfl), List.map_replicate]
        rw [List.map_const', List.length_range]
      rw [er] at hh
      exact hh
    have e12 := e1.trans e2
    have epc : Evl.given (rs.map V.ref).length (fun _ => true) (fun i => V.int ((L.near.getD i (0, [])).1 : Int)) = (pcs L.near).map V.int := by
      rw [lr]
      unfold Evl.given pcs
      rw [List.filter_eq_self.mpr (fun _ _ => rfl), List.map_map]
      refine List.ext_getElem? fun i => ?_
      rw [List.getElem?_map, List.getElem?_map]
      by_cases hi : i < L.near.length
      · rw [List.getElem?_range hi, List.getElem?_eq_getElem hi]
        show some (V.int ((L.near.getD i (0, [])).1 : Int)) = _
        rw [List.getD_eq_getElem?_getD, List.getElem?_eq_getElem hi] <;> rfl
      · rw [List.getElem?_eq_none (by rw [List.length_range]; omega), List.getElem?_eq_none (by omega)] <;> rfl
    refine Evl.q_asgL (xs := (pcs L.near).map V.int) ?_ fun Pa H3 hPa e3 h3 => ?_
    · rw [← epc]
      refine el_lcI (t := tYes) (σ := [some (.ref S), some (.ref N), none, none]) (vs := [2]) (fun _ => true) _ (ei_tup (K := K) (Evl.ev_var (i := 1) rfl) (Evl.st_of (e12 _ _ hN))) (aims_at (j := 2)) (fun _ => rfl) (by omega) (fun _ _ _ _ => et_yes) fun i H4 e4 hi _ => ?_
      rw [lr] at hi
      obtain ⟨r', q', x1, x2, x3, x4⟩ := at_ i hi
      rw [x1, List.getD_eq_getElem?_getD, x2]
      exact ev_at (j := 0) (Evl.ev_var rfl) (e4 _ _ (e12 _ _ x4)) rfl
    have e13 := e12.trans e3
    have hS3 := e13 _ _ hS
    have hp0 : pcs L.near = (L.p : Int) :: pcs r := by unfold pcs; rw [hnear]; rfl
    have pw : (pcs r).Pairwise (· < ·) := by
      unfold pcs
      rw [List.pairwise_map]
      rw [List.pairwise_map] at hpw
      exact hpw.imp fun h => by omega
    have ni : (L.p : Int) ∉ pcs r := fun m => by
      unfold pcs at m
      obtain ⟨q', hq', e⟩ := List.mem_map.mp m
      exact hnotin (List.mem_map.mpr ⟨q', hq', by omega⟩)
    have lpr : (pcs r).length < 60 := by
      unfold pcs
      rw [List.length_map]
      rw [hnear, List.length_cons] at hlen4
      omega
    rw [hp0] at h3
    have sl : ∀ {H4 : Hp}, Evl.Ex H3 H4 → Evl.EvL (tSl (rSlL K) (tVar 3) (tPart (tC (.int 1))) tNoPart) [some (.ref S), some (.ref N), none, some (.ref Pa)] H4 ((pcs r).map V.int) := fun {H4} e4 => el_from1 (xs := ((L.p : Int) :: pcs r).map V.int) (Evl.ev_var rfl) (Evl.eo_some Evl.ev_c) (Evl.sq_of (e4 _ _ h3))
    refine Evl.s_ret (v := .bl true) (Evl.ev_is (Evl.ev_andV (a := true) (Evl.ev_is (Evl.ev_op (Evl.ev_op (Evl.ev_var rfl) Evl.ev_c (Evl.rv_ixL (Evl.sq_of h3) (atI_nat (j := 0) rfl))) (ev_at (j := 0) (Evl.ev_var rfl) hS3 rfl) (Evl.rv_eq rfl)) (congrArg V.bl (a₂ := true) (decide_eq_true rfl))) fun _ => Evl.ev_andV (a := true) (Evl.ev_is (ev_eqLL (ns := pcs r) (ms := pcs r) (sl (Evl.Ex.refl _)) (el_sortedSet (sl (Evl.Ex.refl _)) pw lpr)) (congrArg V.bl (a₂ := true) (decide_eq_true rfl))) fun _ => Evl.ev_is (ev_notIn (ev_at (j := 0) (Evl.ev_var rfl) hS3 rfl) (sl (Evl.Ex.refl _))) (congrArg V.bl (a₂ := true) (by rw [decide_eq_false ni] <;> rfl))) rfl) fun H4 e4 => q H4 (e13.trans e4)
end
end P61
end S_Jg
section S_Wn
namespace Hk
open PySem PySem.Spec PyProof.Rows L2 Tl
/-- the i-th of xs, and what stands while it is walked -/
def YRow (xs : List V) (W : Hp → Prop) : Nat → Hp → V → Hp → Prop := fun i H v H' => H' = H ∧ xs[i]? = some v ∧ W H
section
open Evl
variable {K : PySem.W.Frag} {σ : L2.St} {H : Hp} {te : TE}
theorem ei_rowsL {a : Addr} {xs : List V} {n : Nat} {W : Hp → Prop} (h : Ev te σ H (.ref a)) (hx : SqL K H a xs) (hn : n = xs.length) (hW : ∀ A, Ex H A → W A) : EvI (iList K te) σ H n (YRow xs W) := fun H1 e R k => by
  subst hn
  exact h H1 e _ fun H2 e2 => ⟨a, rfl, ⟨xs, ex_l (e.trans e2) hx⟩, k _ (fun A => SqL K A a xs ∧ W A) H2 e2 (walk_list.mono (fun _ q => q.1) fun i A v A' hi q y => ⟨y.1, y.2, q.2⟩) fun A ab _ => ⟨ex_l ab hx, hW A ab⟩⟩
theorem ei_rowsT {a : Addr} {xs : List V} {n : Nat} {W : Hp → Prop} (h : Ev te σ H (.ref a)) (hx : SqT K H a xs) (hn : n = xs.length) (hW : ∀ A, Ex H A → W A) : EvI (iTup K te) σ H n (YRow xs W) := fun H1 e R k => by
  subst hn
  exact h H1 e _ fun H2 e2 => ⟨a, rfl, ⟨xs, ex_t (e.trans e2) hx⟩, k _ (fun A => SqT K A a xs ∧ W A) H2 e2 (walk_tup.mono (fun _ q => q.1) fun i A v A' hi q y => ⟨y.1, y.2, q.2⟩) fun A ab _ => ⟨ex_t ab hx, hW A ab⟩⟩
theorem ei_rng3 {ta : TA} {i j c : Int} {n : Nat} (h : EvA ta σ H [.int i, .int j, .int c]) (hr : RgC i j c n) : EvI (iRng3 ta) σ H n (YFn fun k => .int (i + (k : Nat) * c)) := fun H1 e R k =>
  h H1 e _ fun H2 e2 => ⟨i, j, c, n, rfl, hr, k _ _ H2 e2 walk_rangeC fun _ _ _ => trivial⟩
end
section
open Evl
variable {K : PySem.W.Frag} {σ : L2.St} {H : Hp}
/-- tuple(list made now) -/
theorem en_tupNL {ta : TE} {L : List V → Hp → Prop} (h : EvNL ta σ H L) : EvN (tCB (fun xs H Q => ∃ p ys, xs = [V.ref p] ∧ ((SqL K H p ys ∧ ∀ l, H l = none → Q (V.ref l) (upd H l (HO.tup ys))) ∨ (SqT K H p ys ∧ Q (V.ref p) H))) (tCons ta tNil)) σ H
    (fun u H' => ∃ t xs, u = .ref t ∧ H' t = some (.tup xs) ∧ L xs H') := fun H1 e Q q =>
  h H1 e _ fun p xs H2 hp e2 h2 hL => ⟨p, xs, rfl, .inl ⟨sq_of h2, fun t ht => q _ _ (e2.trans (Ex.new ht)) fun H3 h3 s3 => ⟨t, xs, rfl, s3 _ _ (fresh_back e2 ht) upd_same, hL H3 h3 fun a o _ ha hb => by
    refine s3 a o ha ?_
    rw [upd_ne (ne_of_none hb ht)]
    exact hb⟩⟩⟩
end
theorem ev_anyN {K : PySem.W.Frag} {ta : TE} {σ : L2.St} {H : Hp} {bs : List Bool} (h : Evl.EvL ta σ H (bs.map V.bl)) : Evl.Ev (tCB (rAny K) (tCons ta tNil)) σ H (.bl (bs.any id)) := fun H1 e Q q =>
  h H1 e _ fun p H2 hp e2 h2 => ⟨p, bs, rfl, Evl.sq_of h2, q H2 e2⟩
/-- a for over what EvI tells; the body may write what is not of the walk -/
theorem s_forI {wi : TI} {g : TG} {tb : TS} {D : Ends} {σ : L2.St} {H B : Hp} {n : Nat} {Y : Nat → Hp → V → Hp → Prop} {s : Nat → L2.St → L2.St} (hw : EvI wi σ B n Y) (aim : Aims g n Y s) (e : Evl.Ex B H) (Pv : Hp → Nat → L2.St → Hp → Prop) (h0 : ∀ H2, Evl.Ex H H2 → Pv H2 0 σ H2)
    (hk : ∀ H2 i σ' H', Evl.Ex H H2 → i ≤ n → Pv H2 i σ' H' → Evl.Ex B H' ∧ Since H H2 H') (hs : ∀ H2 i σ' H' H'', Evl.Ex H H2 → i < n → Pv H2 i σ' H' → Evl.Ex H' H'' → tb { D with nx := Pv H2 (i + 1), ct := Pv H2 (i + 1), bk := D.nx } (s i σ') H'')
    (hd : ∀ H2 σ' H', Evl.Ex H H2 → Pv H2 n σ' H' → D.nx σ' H') : tFor wi g tb D σ H :=
  hw H e _ fun J G H2 e2 w sG => for_it w (Pv H2) (h0 H2 e2) (fun i σ' H' hi p => sG H' (hk H2 i σ' H' e2 hi p).1 (hk H2 i σ' H' e2 hi p).2)
    (fun i x σ' H' H'' hi p y => by
      obtain ⟨ab, k⟩ := aim i σ' H' x H'' hi y
      exact k _ (hs H2 i σ' H' H'' e2 hi p ab)) (fun σ' H' p => hd H2 σ' H' e2 p)
theorem q_forI {wi : TI} {g : TG} {tb tz : TS} {D : Ends} {σ : L2.St} {H B : Hp} {n : Nat} {Y : Nat → Hp → V → Hp → Prop} {s : Nat → L2.St → L2.St} (hw : EvI wi σ B n Y) (aim : Aims g n Y s) (e : Evl.Ex B H) (Pv : Hp → Nat → L2.St → Hp → Prop) (h0 : ∀ H2, Evl.Ex H H2 → Pv H2 0 σ H2)
    (hk : ∀ H2 i σ' H', Evl.Ex H H2 → i ≤ n → Pv H2 i σ' H' → Evl.Ex B H' ∧ Since H H2 H') (hs : ∀ H2 i σ' H' H'', Evl.Ex H H2 → i < n → Pv H2 i σ' H' → Evl.Ex H' H'' → tb { D with nx := Pv H2 (i + 1), ct := Pv H2 (i + 1), bk := tz D } (s i σ') H'')
    (hd : ∀ H2 σ' H', Evl.Ex H H2 → Pv H2 n σ' H' → tz D σ' H') : tSeq (tFor wi g tb) tz D σ H := s_forI (D := { D with nx := tz D }) hw aim e Pv h0 hk hs hd
theorem el_catVN {σ : L2.St} {H : Hp} {ta tb : TE} {m : Addr} {xs ys : List V} (ha : Evl.Ev ta σ H (.ref m)) (hm : H m = some (.lst xs)) (hb : Evl.EvL tb σ H ys) (hz : xs.length + ys.length ≤ 100000) : Evl.EvL (tOp rCat ta tb) σ H (xs ++ ys) := fun H1 e Q q =>
  ha H1 e _ fun H2 e2 => hb H2 (e.trans e2) _ fun p H3 _ e3 h3 => ⟨m, p, xs, ys, rfl, rfl, e3 _ _ (e2 _ _ (e _ _ hm)), h3, Evl.sz_of hz, fun r hr => q r _ (Evl.fresh_back (e2.trans e3) hr) ((e2.trans e3).trans (Evl.Ex.new hr)) upd_same⟩
/-- a, b = a row of two -/
theorem aims_rowT2 {K : PySem.W.Frag} {xs : List V} {n j1 j2 : Nat} {c : Nat → V × V} : Aims (gTup K 2 (gCons (gName j1) (gCons (gName j2) gNil))) n
    (YRow xs fun H => ∀ i v, i < n → xs[i]? = some v → ∃ r, v = .ref r ∧ H r = some (.tup [(c i).1, (c i).2])) (fun i σ => (σ.set j1 (some (c i).1)).set j2 (some (c i).2)) := fun i σ H v H' hi y => by
  obtain ⟨rfl, hv, w⟩ := y
  obtain ⟨r, rfl, hr⟩ := w i v hi hv
  exact ⟨Evl.Ex.refl _, fun Q q => ⟨r, _, rfl, Evl.st_of hr, rfl, _, _, rfl, _, _, rfl, rfl, q⟩⟩
/-- a, b, c = a row of three, a list -/
theorem aims_rowL3 {K : PySem.W.Frag} {xs : List V} {n j1 j2 j3 : Nat} {c : Nat → V × V × V} : Aims (gLst K 3 (gCons (gName j1) (gCons (gName j2) (gCons (gName j3) gNil)))) n
    (YRow xs fun H => ∀ i v, i < n → xs[i]? = some v → ∃ r, v = .ref r ∧ H r = some (.lst [(c i).1, (c i).2.1, (c i).2.2])) (fun i σ => ((σ.set j1 (some (c i).1)).set j2 (some (c i).2.1)).set j3 (some (c i).2.2)) := fun i σ H v H' hi y => by
  obtain ⟨rfl, hv, w⟩ := y
  obtain ⟨r, rfl, hr⟩ := w i v hi hv
  exact ⟨Evl.Ex.refl _, fun Q q => ⟨r, _, rfl, Evl.sq_of hr, rfl, _, _, rfl, _, _, rfl, _, _, rfl, rfl, q⟩⟩
theorem joinL_length (S : List Nat) : ∀ ps : List (List Nat), (TL.joinL S ps).length ≤ (ps.map List.length).sum + ps.length * S.length
  | [] => by unfold TL.joinL; simp
  | [p] => by unfold TL.joinL; simp
  | p :: q :: r => by
    have ih := joinL_length S (q :: r)
    have e : TL.joinL S (p :: q :: r) = p ++ (S ++ TL.joinL S (q :: r)) := rfl
    rw [e, List.length_append, List.length_append, List.map_cons, List.sum_cons, List.length_cons, Nat.add_mul]
    omega
theorem tl_length (s : Str) : (TL.tl s).length = s.length := (TL.len_tl s).symm
theorem join_len (y : Str) (ps : List Str) : (Txt.join y ps).length ≤ (ps.map (·.length)).sum + ps.length * y.length := by
  rw [← tl_length, TL.join_eq, TL.tl_join]
  refine Nat.le_trans (joinL_length _ _) ?_
  rw [List.map_map, List.length_map, tl_length]
  have : (ps.map (List.length ∘ TL.tl)) = ps.map (·.length) := List.map_congr_left fun p _ => tl_length p
  rw [this] <;> exact Nat.le_refl _
end Hk
namespace Hk
open PySem PySem.Spec PyProof.Rows L2 Tl
open Evl
theorem ev_neNilL {K : PySem.W.Frag} {σ : L2.St} {H : Hp} {ta : TE} {cs : List Int} (h : EvL ta σ H (cs.map V.int)) : Ev (tOp (rNeD K) ta (tLst tNil)) σ H (.bl (!cs.isEmpty)) :=
  ev_opLL (ys := []) h (el_lst ea_nil (Nat.zero_le _)) fun p q H1 h1 h2 _ => fun H2 e2 Q k => by
    refine ⟨.list (zD cs), .list [], .lst (sq_of (e2 _ _ h1)) (dp_zD cs), .lst (sq_of (e2 _ _ h2)) .nil, PySem.W.ke_shaped_ints cs, by decide +kernel, ?_⟩
    have e3 : PyData.eqv (.list (zD cs)) (.list []) = cs.isEmpty := by cases cs <;> rfl
    rw [e3]
    exact k H2 (Ex.refl H2)
/-- the heap without one object -/
def but (t : Addr) (H : Hp) : Hp := fun a => if a = t then none else H a
theorem but_le {t : Addr} {H : Hp} : Ex (but t H) H := fun a o h => by
  unfold but at h
  split at h
  · cases h
  · exact h
theorem but_at {t a : Addr} {H : Hp} (h : a ≠ t) : but t H a = H a := if_neg h
/-- a comprehension whose body draws -/
theorem go_lcT {wi : TI} {g : TG} {tt : TT} {te : TE} {vs : List Nat} {n : Nat} {Y : Nat → Hp → V → Hp → Prop} {s : Nat → L2.St → L2.St} {σ : L2.St} {H : Hp} {Q : VK} {t : Addr} {o : HO} (ho : H t = some o)
    (hw : EvI wi σ (but t H) n Y) (aim : Aims g n Y s) (hs : ∀ i, wipe (s i (wipe σ vs)) vs = wipe σ vs) (hn : n ≤ 40000) (R : Nat → List V → Hp → Prop)
    (h0 : ∀ H2, Ex H H2 → R 0 [] H2) (hx : ∀ i acc A B, R i acc A → Ex A B → R i acc B)
    (hu : ∀ i acc A D l l', H D = none → D ≠ t → A D = some (.lst l) → R i acc A → R i acc (upd A D (.lst l')))
    (hst : ∀ i acc A (F1 : V → Hp → Prop) (F2 : Hp → Prop), i < n → (∀ a o, a ≠ t → H a = some o → A a = some o) → acc.length ≤ i → R i acc A →
      (∀ y H4, (∀ a o, a ≠ t → A a = some o → H4 a = some o) → R (i + 1) (acc ++ [y]) H4 → F1 y H4) → (∀ H3, (∀ a o, a ≠ t → A a = some o → H3 a = some o) → R (i + 1) acc H3 → F2 H3) →
      tt (s i (wipe σ vs)) A fun b H3 => if b = true then te (s i (wipe σ vs)) H3 F1 else F2 H3)
    (hd : ∀ D acc A, H D = none → D ≠ t → A D = some (.lst acc) → acc.length ≤ n → (∀ a o, a ≠ t → H a = some o → A a = some o) → R n acc A → Q (.ref D) A) : tLc wi g tt te vs σ H Q :=
  hw H but_le _ fun J G H2 e2 w sG D hD => by
    have D0 : H D = none := fresh_back e2 hD
    have Dt : D ≠ t := fun z => by rw [z, ho] at D0; cases D0
    have kp : ∀ {A : Hp}, (∀ a o, a ≠ t → H2 a = some o → A a = some o) → ∀ a o, a ≠ t → H a = some o → A a = some o := fun k a o ha h => k a o ha (e2 _ _ h)
    refine lc_it w (fun i A => (∀ a o, a ≠ t → H2 a = some o → A a = some o) ∧ ∃ acc, A D = some (.lst acc) ∧ acc.length ≤ i ∧ R i acc A) ⟨fun a o _ h => Ex.new hD a o h, [], upd_same, Nat.le_refl _, h0 _ (e2.trans (Ex.new hD))⟩ (fun i A _ p => sG A (fun a o h => ?_) fun a o h1 h2 => p.1 a o (fun z => by rw [z, ho] at h1; cases h1) h2)
      (fun i x A B hi p y => ?_) (fun A ⟨p1, acc, p2, p5, p3⟩ => hd D acc A D0 Dt p2 p5 (kp p1) p3)
    · by_cases z : a = t
      · rw [z] at h
        unfold but at h
        rw [if_pos rfl] at h
        cases h
      · rw [but_at z] at h
        exact kp p.1 a o z h
    · obtain ⟨p1, acc, p2, p3, p4⟩ := p
      obtain ⟨ab, k⟩ := aim i (wipe σ vs) A x B hi y
      refine k _ ⟨hs i, ?_⟩
      have hB : B D = some (.lst acc) := ab _ _ p2
      have pB : ∀ a o, a ≠ t → H2 a = some o → B a = some o := fun a o ha h => ab _ _ (p1 a o ha h)
      refine hst i acc B _ _ hi (kp pB) p3 (hx _ _ _ _ p4 ab) (fun y H4 k4 r4 => ?_) fun H3 k3 r3 => ⟨fun a o ha h => k3 a o ha (pB a o ha h), acc, k3 _ _ Dt hB, by omega, r3⟩
      have h4 : H4 D = some (.lst acc) := k4 _ _ Dt hB
      refine ⟨acc, h4, sz_lt (by omega), fun a o ha h => ?_, acc ++ [y], upd_same, by rw [List.length_append, List.length_singleton]; omega, hu _ _ _ _ _ _ D0 Dt h4 r4⟩
      rw [upd_ne (ne_of_none h hD)]
      exact k4 a o ha (pB a o ha h)
end Hk
end S_Wn
section S_Jh
namespace Hk
open PySem PySem.Spec PyProof.Rows L2 Tl
theorem refs_of {H : Hp} : ∀ {xs : List V} {P : Nat → Addr → Hp → Prop}, (∀ i v, xs[i]? = some v → ∃ r, v = .ref r ∧ P i r H) → ∃ rs : List Addr, xs = rs.map V.ref ∧ rs.length = xs.length ∧ ∀ i r, rs[i]? = some r → P i r H
  | [], P, hx => ⟨[], rfl, rfl, fun i r z => by simp at z⟩
  | v :: r, P, hx => by
    obtain ⟨a, rfl, ha⟩ := hx 0 v rfl
    obtain ⟨rs, h1, h2, h3⟩ := refs_of (xs := r) (P := fun i => P (i + 1)) fun i u hu => hx (i + 1) u (by simpa using hu)
    refine ⟨a :: rs, by rw [h1, List.map_cons], by rw [List.length_cons, List.length_cons, h2], fun i u hu => ?_⟩
    cases i with
    | zero => cases hu; exact ha
    | succ i => exact h3 i u (by simpa using hu)
theorem holds_refs {P : Nat → Addr → Hp → Prop} {n : Nat} {xs : List V} {H : Hp} (h : Holds (fun i v H => ∃ r, v = .ref r ∧ P i r H) n xs H) : ∃ rs : List Addr, xs = rs.map V.ref ∧ rs.length = n ∧ ∀ i r, rs[i]? = some r → P i r H := by
  obtain ⟨hl, hx⟩ := h
  subst hl
  exact refs_of hx
theorem eu_tupL {K : PySem.W.Frag} {σ : L2.St} {H : Hp} {ta : TE} {xs : List V} (h : Evl.EvL ta σ H xs) : Evl.EvU (tCB (fun xs H Q => ∃ p ys, xs = [V.ref p] ∧ ((SqL K H p ys ∧ ∀ l, H l = none → Q (V.ref l) (upd H l (HO.tup ys))) ∨ (SqT K H p ys ∧ Q (V.ref p) H))) (tCons ta tNil)) σ H xs := fun H1 e Q q =>
  h H1 e _ fun p H2 hp e2 h2 => ⟨p, xs, rfl, .inl ⟨Evl.sq_of h2, fun t ht => q t _ (Evl.fresh_back e2 ht) (e2.trans (Evl.Ex.new ht)) upd_same⟩⟩
theorem sum_le {ps : List Str} {m : Nat} (h : ∀ s ∈ ps, s.length ≤ m) : (ps.map (·.length)).sum ≤ m * ps.length := by
  induction ps with
  | nil => simp
  | cons a r ih =>
    have := h a List.mem_cons_self
    have := ih fun s hs => h s (List.mem_cons_of_mem _ hs)
    rw [List.map_cons, List.sum_cons, List.length_cons, Nat.mul_add, Nat.mul_one]
    omega
end Hk
namespace P61
open PySem PySem.Spec PyProof.Rows L2 Tl Hk
/-- the parts of a label's text -/
def gi (q : Nat × List Bool) : List Str := ["/", dS q.1, sS q.2]
def items (L : Lb) : List Str := [dS L.p, dS L.l, dS L.n] ++ (L.near.map gi).flatten
def txt (L : Lb) : Str := Txt.join " " (items L)
theorem flat_len : ∀ near : List (Nat × List Bool), ((near.map gi).flatten).length = 3 * near.length
  | [] => rfl
  | q :: r => by
    rw [List.map_cons, List.flatten_cons, List.length_append, flat_len r, List.length_cons, show (gi q).length = 3 from rfl]
    omega
theorem flat_drop : ∀ (near : List (Nat × List Bool)) (i : Nat), ((near.map gi).flatten).drop (3 * i) = ((near.drop i).map gi).flatten
  | near, 0 => by rw [Nat.mul_zero, List.drop_zero, List.drop_zero]
  | [], i + 1 => by simp
  | q :: r, i + 1 => by
    rw [List.drop_succ_cons, ← flat_drop r i, List.map_cons, List.flatten_cons, List.drop_append]
    rw [show (gi q).length = 3 from rfl, List.drop_of_length_le (by show 3 ≤ _; omega), List.nil_append, show 3 * (i + 1) - 3 = 3 * i by omega]
theorem items_len (L : Lb) : (items L).length = 3 + 3 * L.near.length := by
  unfold items
  rw [List.length_append, flat_len]
  rfl
theorem item_cases {L : Lb} (h : L.Ok) {s : Str} (hs : s ∈ items L) : (∃ n, n < 10 ∧ s = dS n) ∨ s = "/" ∨ ∃ b : List Bool, b.length = 9 ∧ s = sS b := by
  unfold items at hs
  rcases List.mem_append.mp hs with hs | hs
  · have hn := h.hn
    simp only [List.mem_cons, List.not_mem_nil, or_false] at hs
    rcases hs with rfl | rfl | rfl
    · exact .inl ⟨_, h.hp, rfl⟩
    · exact .inl ⟨_, h.hl, rfl⟩
    · exact .inl ⟨_, by omega, rfl⟩
  · obtain ⟨g, hg, hs⟩ := List.mem_flatten.mp hs
    obtain ⟨q, hq, rfl⟩ := List.mem_map.mp hg
    obtain ⟨h1, h2, _⟩ := h.each q hq
    unfold gi at hs
    simp only [List.mem_cons, List.not_mem_nil, or_false] at hs
    rcases hs with rfl | rfl | rfl
    · exact .inr (.inl rfl)
    · exact .inl ⟨_, h1, rfl⟩
    · exact .inr (.inr ⟨_, h2, rfl⟩)
theorem item_len {L : Lb} (h : L.Ok) {s : Str} (hs : s ∈ items L) : s.length ≤ 9 := by
  rcases item_cases h hs with ⟨n, hn, rfl⟩ | rfl | ⟨b, hb, rfl⟩
  · rw [(d2 n hn).2.2]; decide
  · decide
  · rw [sS_len, hb]; decide
theorem item_no32 {L : Lb} (h : L.Ok) {s : Str} (hs : s ∈ items L) : 32 ∉ TL.tl s := by
  rcases item_cases h hs with ⟨n, hn, rfl⟩ | rfl | ⟨b, hb, rfl⟩
  · exact d6 n hn
  · decide
  · exact s6
theorem items_sum {L : Lb} (h : L.Ok) : ((items L).map (·.length)).sum + (items L).length * 1 ≤ 150 := by
  have h1 := sum_le (ps := items L) (m := 9) fun s hs => item_len h hs
  have h2 := items_len L
  have h3 := h.len
  omega
theorem txt_len {L : Lb} (h : L.Ok) : (txt L).length ≤ 150 := Nat.le_trans (join_len " " (items L)) (items_sum h)
theorem txt_split {L : Lb} (h : L.Ok) : Txt.split (txt L) " " = items L := TL.split_join (S := []) (by decide +kernel) (by decide +kernel) (by unfold items; simp) fun p hp => item_no32 h hp
theorem cut_head (L : Lb) : cutV ((items L).map V.str) none (some ((3 : Nat) : Int)) = [.str (dS L.p), .str (dS L.l), .str (dS L.n)] := by
  unfold cutV
  rw [HT.sIx_none, HT.sIx_nat, List.length_map, items_len, Nat.min_eq_left (by omega)]
  rfl
theorem cut_at {L : Lb} {i : Nat} {q : Nat × List Bool} (h : L.near[i]? = some q) : cutV ((items L).map V.str) (some (3 + (i : Int) * 3)) (some (3 + (i : Int) * 3 + 3)) = (gi q).map V.str := by
  have hi : i < L.near.length := by
    rcases Nat.lt_or_ge i L.near.length with z | z
    · exact z
    · rw [List.getElem?_eq_none z] at h; cases h
  unfold cutV
  rw [show 3 + (i : Int) * 3 + 3 = ((3 + 3 * i + 3 : Nat) : Int) by omega, show 3 + (i : Int) * 3 = ((3 + 3 * i : Nat) : Int) by omega, HT.sIx_nat, HT.sIx_nat, List.length_map, items_len, Nat.min_eq_left (by omega), Nat.min_eq_left (by omega)]
  rw [← List.map_drop, ← List.map_take]
  congr 1
  unfold items
  rw [List.drop_append, List.drop_of_length_le (by show 3 ≤ _; omega), List.nil_append, show 3 + 3 * i - [dS L.p, dS L.l, dS L.n].length = 3 * i by show 3 + 3 * i - 3 = _; omega, flat_drop]
  have hd : L.near.drop i = q :: L.near.drop (i + 1) := by
    rw [List.drop_eq_getElem_cons hi]
    rw [List.getElem?_eq_getElem hi] at h
    rw [Option.some.inj h]
  rw [hd, List.map_cons, List.flatten_cons, show 3 + 3 * i + 3 - (3 + 3 * i) = (gi q).length by show _ = 3; omega, List.take_left']
  rfl
theorem rgC3 : ∀ n, n < 5 → ((3 : Int) ≠ 0 ∧ (3 : Int).natAbs < 1073741824 ∧ Builtin.Range.small 3 ((3 + 3 * n : Nat) : Int) 3 = true ∧ Builtin.Range.rangeSize 3 ((3 + 3 * n : Nat) : Int) 3 = n) := by decide +kernel
abbrev nLI : List Str := ["value", "items", "seat", "groups", "near", "item", "at", "group", "_", "piece", "signs"]
theorem scLabelIn : FnScope nLI ["value"] (defScope sLabelIn) := ⟨rfl, rfl, rfl, by decide +kernel, rfl, by decide +kernel, by decide +kernel⟩
def spLabelIn : Sp := fun vs H Q _ => ∃ L : Lb, vs = [.str (txt L)] ∧ L.Ok ∧ ∀ A H1, Evl.Ex H H1 → LabAt H1 A L → Q (.ref A) H1
section
variable {P : Program} {w : World} {K : PySem.W.Frag} {mg : Str → Option Value} {base : Heap}
set_option maxHeartbeats 1000000 in
theorem ok_labelIn {f fN fS fP : Addr} {fd fdN fdS fdP : FuncData} {k : Nat} (F : Fun K "label_in" "label_in" sLabelIn f fd)
    (FN : Fun K "number_in" "number_in" sNumberIn fN fdN) (GN : FnOk P w K mg base CX0 k fN fdN ["item", "least", "most"] spNumberIn) (bN : Binds K fdN ["item", "least", "most"] []) (gN : mg "number_in" = some (.ref fN))
    (FS : Fun K "_is_small_seat" "_is_small_seat" sSmallSeat fS fdS) (GS : FnOk P w K mg base CX0 k fS fdS ["value"] spSeat) (bS : Binds K fdS ["value"] []) (gS : mg "_is_small_seat" = some (.ref fS))
    (FP : Fun K "_are_near_pieces" "_are_near_pieces" sNearPieces fP fdP) (GP : FnOk P w K mg base CX0 k fP fdP ["seat", "value"] spNearPieces) (bP : Binds K fdP ["seat", "value"] []) (gP : mg "_are_near_pieces" = some (.ref fP))
    {t1 : Tok} (g1 : mg "MOST_NUMBER" = some (.int 999 t1)) (mi : mg "isinstance" = none) (mstr : mg "str" = none) (mlen : mg "len" = none) (mall : mg "all" = none) (mtup : mg "tuple" = none) (mrange : mg "range" = none) :
    FnOk P w K mg base CX0 (k + 1) f fd ["value"] spLabelIn := by
  refine F.ok scLabelIn (fun vs H Q E h => ?_) (fun cdv A outer s H vs Q E hr h => ?_)
  · obtain ⟨L, rfl, _⟩ := h
    rfl
  · obtain ⟨L, rfl, hL, q⟩ := h
    have nd := scLabelIn.nd
    refine ⟨_, pss_cons (ps_if (pt_not (pt_val (pe_callB call_isi (by rfl) mi (by decide +kernel) (pa_cons (pv 0) (pa_cons (pe_bltn (v := .ty "str") (by rfl) mstr (by decide +kernel) rfl) pa_nil))))) (pss_one (ps_ret pe_non)) pss_nil)
      (pss_cons (ps_set (i := 1) nd rfl (.inr rfl) (pe_bm PySem.F.plainAttrs_str PySem.F.slot_str_split PySem.F.type_str_split mt_split (pv 0) (pa_cons pe_str pa_nil)))
      (pss_cons (ps_set (i := 2) nd rfl (.inl rfl) (pe_callTy call_tuple_of (by rfl) mtup (by decide +kernel) (pa_cons
          (pe_lc (own := [("item", 5)]) (g := gName 5) (tt := tYes) (te := tCall spNumberIn [] E0 (tCons (tVar 5) (tCons (tC (.int 0)) (tCons (tC (.int 999)) tNil)))) rfl nd (pi_list (pe_slice sl_list (pv 1) po_none (po_some pe_int))) (blkOk_by (N := nLI) (sc := defScope sLabelIn) (by decide +kernel)) (fun _ _ _ _ _ => pg_name (i := 5) nd rfl (Or.inl rfl)) (fun _ _ _ _ _ => pts_nil)
            (fun _ _ _ _ _ => pe_call GN hr (by rfl) gN FN.kp bN .nil pass0 (pa_cons (pv 5) (pa_cons pe_int (pa_cons (pe_glob (v := .int 999) (by rfl) g1 ⟨_, rfl⟩) pa_nil))))) pa_nil)))
      (pss_cons (ps_setLc (i := 3) (own := [("at", 6)]) (g := gName 6) (tt := tYes) (te := tSl (rSlL K) (tVar 1) (tPart (tVar 6)) (tPart (tOp (rI0 fun i j => .int (i + j)) (tVar 6) (tC (.int 3))))) rfl nd rfl rfl (sw_true rfl rfl rfl (by decide +kernel)) (pi_range3 (by rfl) mrange (pa_cons pe_int (pa_cons (pe_callB call_len_seq (by rfl) mlen PySem.boot_len (pa_cons (pv 1) pa_nil)) (pa_cons pe_int pa_nil)))) (blkOk_by (N := nLI) (sc := defScope sLabelIn) (by decide +kernel)) (fun _ _ _ _ _ => pg_name (i := 6) nd rfl (Or.inl rfl)) (fun _ _ _ _ _ => pts_nil)
            (fun _ _ _ _ _ => pe_slice sl_list (pv 1) (po_some (pv 6)) (po_some (pe_op op_add (pv 6) pe_int))))
      (pss_cons (ps_if (PW.pt (pw_or (pt_not (pt_val (pe_call GS hr (by rfl) gS FS.kp bS .nil pass0 (pa_cons (pv 2) pa_nil)))) (pw_or1 (pt_not (pt_val (pe_callB (cr_all rfl) (by rfl) mall (by decide +kernel) (pa_cons
          (pe_lc (own := [("group", 7)]) (g := gName 7) (tt := tYes) (te := tAndV (tOp rEq (tCB (Evl.rLenS K) (tCons (tVar 7) tNil)) (tC (.int 3))) (tOp rEq (tOp (rIxL K) (tVar 7) (tC (.int 0))) (tC (.str "/")))) rfl nd (pi_list (pv 3)) (blkOk_by (N := nLI) (sc := defScope sLabelIn) (by decide +kernel)) (fun _ _ _ _ _ => pg_name (i := 7) nd rfl (Or.inl rfl)) (fun _ _ _ _ _ => pts_nil)
            (fun _ _ _ _ _ => pe_and (pe_cmpR op_eq (pe_callB call_len_seq (by rfl) mlen PySem.boot_len (pa_cons (pv 7) pa_nil)) pe_int (nomark _)) (pe_one (pe_cmpR op_eq (pe_ix ix_list (pv 7) pe_int (fun _ _ => rfl)) pe_str (nomark _))))) pa_nil))))))) (pss_one (ps_ret pe_non)) pss_nil)
      (pss_cons (ps_set (i := 4) nd rfl (.inl rfl) (pe_callTy call_tuple_of (by rfl) mtup (by decide +kernel) (pa_cons
          (pe_lc (own := [("_", 8), ("piece", 9), ("signs", 10)]) (g := gLst K 3 (gCons (gName 8) (gCons (gName 9) (gCons (gName 10) gNil)))) (tt := tYes) (te := tTup (tCons (tCall spNumberIn [] E0 (tCons (tVar 9) (tCons (tC (.int 0)) (tCons (tC (.int 999)) tNil)))) (tCons (tVar 10) tNil))) rfl nd (pi_list (pv 3)) (blkOk_by (N := nLI) (sc := defScope sLabelIn) (by decide +kernel)) (fun _ _ _ _ _ => pg_lst (by rfl) (pgs_cons (pg_name (i := 8) nd rfl (Or.inl rfl)) (pgs_cons (pg_name (i := 9) nd rfl (Or.inl rfl)) (pgs_cons (pg_name (i := 10) nd rfl (Or.inl rfl)) pgs_nil)))) (fun _ _ _ _ _ => pts_nil)
            (fun _ _ _ _ _ => pe_tup (pa_cons (pe_call GN hr (by rfl) gN FN.kp bN .nil pass0 (pa_cons (pv 9) (pa_cons pe_int (pa_cons (pe_glob (v := .int 999) (by rfl) g1 ⟨_, rfl⟩) pa_nil)))) (pa_cons (pv 10) pa_nil)))) pa_nil)))
      (pss_one (ps_ret (pe_ifExp (pt_val (pe_call GP hr (by rfl) gP FP.kp bP .nil pass0 (pa_cons (pv 2) (pa_cons (pv 4) pa_nil)))) (pe_tup (pa_cons (pv 2) (pa_cons (pv 4) pa_nil))) pe_non)))))))), ?_⟩
    have hn4 := hL.len
    have hp := hL.hp
    have hl := hL.hl
    have hn := hL.hn
    refine Evl.q_when (b := false) (Evl.et_is (Evl.et_not (Evl.et_B (Evl.ev_cb (Evl.ea_cons (Evl.ev_var rfl) (Evl.ea_cons Evl.ev_c Evl.ea_nil)) rc_str))) rfl) (fun z => nomatch z) fun _ H1 e1 => ?_
    refine Evl.q_asgL (xs := (items L).map V.str) (fun G1 f1 Q' q' => ⟨.str (txt L), rfl, rfl, txt L, " ", rfl, rfl, by decide +kernel, by have := txt_len hL; rw [sizeLine_eq]; omega, fun p hp => ?_⟩) fun I H2 hI e2 h2 => ?_
    · rw [txt_split hL]
      exact q' p _ hp (Evl.Ex.new hp) upd_same
    refine Evl.q_asgU (xs := [.int (L.p : Int), .int (L.l : Int), .int (L.n : Int)]) (eu_tupL ?_) fun S H3 hS0 e3 hS => ?_
    · have hcut : Evl.EvL (tSl (rSlL K) (tVar 1) tNoPart (tPart (tC (.int 3)))) (wipe [some (.str (txt L)), some (.ref I), none, none, none, none, none, none, none, none, none] [5]) H2 [.str (dS L.p), .str (dS L.l), .str (dS L.n)] := by
        rw [← cut_head L]
        exact Evl.el_sl (Evl.ev_var rfl) Evl.eo_none (Evl.eo_some Evl.ev_c) (Evl.sq_of h2)
      have hh := el_lcI (te := tCall spNumberIn [] E0 (tCons (tVar 5) (tCons (tC (.int 0)) (tCons (tC (.int 999)) tNil)))) (t := tYes) (σ := [some (.str (txt L)), some (.ref I), none, none, none, none, none, none, none, none, none]) (H := H2) (vs := [5]) (fun _ => true) (fun i => V.int ((([L.p, L.l, L.n] : List Nat).getD i 0 : Nat) : Int)) (ei_listN (K := K) hcut) (aims_at (j := 5)) (fun _ => rfl) (by show 3 ≤ _; omega) (fun _ _ _ _ => et_yes) fun i H4 e4 hi _ => by
        have hi : i < 3 := hi
        match i, hi with
        | 0, _ => exact Evl.ev_call (Evl.ea_cons (Evl.ev_var rfl) (Evl.ea_cons Evl.ev_c (Evl.ea_cons Evl.ev_c Evl.ea_nil))) (spv_numberIn hp)
        | 1, _ => exact Evl.ev_call (Evl.ea_cons (Evl.ev_var rfl) (Evl.ea_cons Evl.ev_c (Evl.ea_cons Evl.ev_c Evl.ea_nil))) (spv_numberIn hl)
        | 2, _ => exact Evl.ev_call (Evl.ea_cons (Evl.ev_var rfl) (Evl.ea_cons Evl.ev_c (Evl.ea_cons Evl.ev_c Evl.ea_nil))) (spv_numberIn (by omega))
      exact hh
    have h3 := e3 _ _ h2
    refine q_asgN (Evl.Ex.refl _) (en_nl (en_lc (n := L.near.length) (ei_rng3 (Evl.ea_cons Evl.ev_c (Evl.ea_cons (Evl.ev_is (Evl.ev_len (Evl.ev_var rfl) (Evl.sq_of h3)) (congrArg (fun n : Nat => V.int (n : Int)) ((List.length_map _).trans (items_len L)))) (Evl.ea_cons Evl.ev_c Evl.ea_nil))) (rgC3 _ (by omega))) (aims_fn (j := 6)) (fun _ => rfl) (by omega) (fun i v H' => ∃ a, v = .ref a ∧ H' a = some (.lst (cutV ((items L).map V.str) (some (3 + (i : Int) * 3)) (some (3 + (i : Int) * 3 + 3)))))
      fun i hi => en_l (Evl.el_sl (Evl.ev_var rfl) (Evl.eo_some (Evl.ev_var rfl)) (Evl.eo_some (Evl.ev_op (Evl.ev_var rfl) Evl.ev_c Evl.rv_I0)) (Evl.sq_of h3)))) fun v H4 e4 hv => ?_
    obtain ⟨Gp, xs, rfl, hG, hold⟩ := hv H4 e4 fun a o _ h => h
    obtain ⟨gs, rfl, gl, gat⟩ := holds_refs (P := fun i r H' => H' r = some (.lst (cutV ((items L).map V.str) (some (3 + (i : Int) * 3)) (some (3 + (i : Int) * 3 + 3))))) hold
    have hg : ∀ i r, gs[i]? = some r → ∃ q', L.near[i]? = some q' ∧ q' ∈ L.near ∧ H4 r = some (.lst ((gi q').map V.str)) := fun i r hr => by
      have hi : i < L.near.length := by
        rcases Nat.lt_or_ge i gs.length with z | z
        · omega
        · rw [List.getElem?_eq_none z] at hr; cases hr
      have := gat i r hr
      rw [cut_at (List.getElem?_eq_getElem hi)] at this
      exact ⟨_, List.getElem?_eq_getElem hi, List.getElem_mem hi, this⟩
    have lgs : (gs.map V.ref).length = L.near.length := by rw [List.length_map, gl]
    have at_ : ∀ i, i < L.near.length → ∃ (r' : Addr) (q' : Nat × List Bool), (gs.map V.ref).getD i .non = .ref r' ∧ L.near[i]? = some q' ∧ q' ∈ L.near ∧ H4 r' = some (.lst ((gi q').map V.str)) := fun i hi => by
      have hi2 : i < gs.length := by omega
      obtain ⟨q', a1, a2, a3⟩ := hg i _ (List.getElem?_eq_getElem hi2)
      refine ⟨gs[i], q', ?_, a1, a2, a3⟩
      rw [List.getD_eq_getElem?_getD, List.getElem?_map, List.getElem?_eq_getElem hi2] <;> rfl
    have hS4 : SeatAt H4 S L.p L.l L.n := e4 _ _ hS
    refine Evl.q_when (b := false) (Evl.et_or (a := false) (Evl.et_is (Evl.et_not (Evl.et_B (Evl.ev_call (Evl.ea_cons (Evl.ev_var rfl) Evl.ea_nil) (spv_seat hS4 hp hl hn)))) rfl) fun _ => Evl.et_is (Evl.et_not (Evl.et_B (b := true) (Evl.ev_is (ev_allN (bs := List.replicate L.near.length true) ?_) (by simp)))) rfl) (fun z => nomatch z) fun _ H5 e5 => ?_
    · have hh := el_lcI (te := tAndV (tOp rEq (tCB (Evl.rLenS K) (tCons (tVar 7) tNil)) (tC (.int 3))) (tOp rEq (tOp (rIxL K) (tVar 7) (tC (.int 0))) (tC (.str "/")))) (t := tYes) (σ := [some (.str (txt L)), some (.ref I), some (.ref S), some (.ref Gp), none, none, none, none, none, none, none]) (H := H4) (vs := [7]) (fun _ => true) (fun _ => V.bl true) (ei_list (K := K) (Evl.ev_var (i := 3) rfl) (Evl.sq_of hG)) (aims_at (j := 7)) (fun _ => rfl) (by omega) (fun _ _ _ _ => et_yes) fun i H6 e6 hi _ => by
        rw [lgs] at hi
        obtain ⟨r', q', x1, x2, x3, x4⟩ := at_ i hi
        rw [x1]
        exact Evl.ev_is (Evl.ev_andV (a := true) (b := true) (Evl.ev_is (Evl.ev_op (Evl.ev_len (Evl.ev_var rfl) (Evl.sq_of (e6 _ _ x4))) Evl.ev_c (Evl.rv_eq rfl)) (congrArg V.bl (a₂ := true) (decide_eq_true rfl))) fun _ => Evl.ev_is (Evl.ev_op (Evl.ev_op (Evl.ev_var rfl) Evl.ev_c (Evl.rv_ixL (Evl.sq_of (e6 _ _ x4)) (atI_nat (j := 0) rfl))) Evl.ev_c (Evl.rv_eq rfl)) (congrArg V.bl (a₂ := true) (decide_eq_true rfl))) rfl
      have er : Evl.given (gs.map V.ref).length (fun _ => true) (fun _ => V.bl true) = (List.replicate L.near.length true).map V.bl := by
        rw [lgs]
        unfold Evl.given
        rw [List.filter_eq_self.mpr (fun _ _ => rfl), List.map_replicate]
        rw [List.map_const', List.length_range]
      rw [er] at hh
      exact hh
    refine q_asgN (Evl.Ex.refl _) (en_tupNL (en_lc (n := L.near.length) (ei_rowsL (n := L.near.length) (xs := gs.map V.ref) (W := fun A => ∀ i v, i < L.near.length → (gs.map V.ref)[i]? = some v → ∃ r, v = .ref r ∧ A r = some (.lst [V.str "/", V.str (dS (L.near.getD i (0, [])).1), V.str (sS (L.near.getD i (0, [])).2)])) (Evl.ev_var rfl) (Evl.sq_of (e5 _ _ hG)) lgs.symm fun A hA i v hi hv => ?_)
      (aims_rowL3 (K := K) (xs := gs.map V.ref) (j1 := 8) (j2 := 9) (j3 := 10) (c := fun i => (V.str "/", V.str (dS (L.near.getD i (0, [])).1), V.str (sS (L.near.getD i (0, [])).2)))) (fun _ => rfl) (by omega) (fun i v H' => ∃ r, v = .ref r ∧ H' r = some (.tup [.int ((L.near.getD i (0, [])).1 : Int), .str (sS (L.near.getD i (0, [])).2)])) fun i hi => en_u (Evl.eu_tup (Evl.ea_cons (Evl.ev_call (Evl.ea_cons (Evl.ev_var rfl) (Evl.ea_cons Evl.ev_c (Evl.ea_cons Evl.ev_c Evl.ea_nil))) (spv_numberIn ?_)) (Evl.ea_cons (Evl.ev_var rfl) Evl.ea_nil)) (by show 2 ≤ 100000; decide)))) fun v H6 e6 hv => ?_
    · obtain ⟨r', q', x1, x2, x3, x4⟩ := at_ i hi
      rw [List.getD_eq_getElem?_getD, hv] at x1
      have x1 : v = .ref r' := x1
      refine ⟨r', x1, ?_⟩
      rw [hA _ _ (e5 _ _ x4), List.getD_eq_getElem?_getD, x2]
      rfl
    · rw [List.getD_eq_getElem?_getD, List.getElem?_eq_getElem hi]
      exact (hL.each _ (List.getElem_mem hi)).1
    obtain ⟨N, xs, rfl, hN, hold2⟩ := hv H6 e6 fun a o _ h => h
    obtain ⟨rs, rfl, rl, rat⟩ := holds_refs (P := fun i r H' => H' r = some (.tup [.int ((L.near.getD i (0, [])).1 : Int), .str (sS (L.near.getD i (0, [])).2)])) hold2
    have hNA : NearAt H6 N L.near := ⟨rs, hN, rl, fun i r q' a b => by
      have := rat i r a
      rw [List.getD_eq_getElem?_getD, b] at this
      exact this⟩
    have hS6 : SeatAt H6 S L.p L.l L.n := e6 _ _ (e5 _ _ hS4)
    refine (Evl.et_B (Evl.ev_call (Evl.ea_cons (Evl.ev_var rfl) (Evl.ea_cons (Evl.ev_var rfl) Evl.ea_nil)) (spv_nearPieces hL hS6 hNA))) H6 (Evl.Ex.refl _) _ fun H7 e7 => if_go (fun _ => ?_) fun z => nomatch z
    have e17 : Evl.Ex H H7 := (((((e1.trans e2).trans e3).trans e4).trans e5).trans e6).trans e7
    refine (Evl.eu_tup (Evl.ea_cons (Evl.ev_var rfl) (Evl.ea_cons (Evl.ev_var rfl) Evl.ea_nil)) (by show 2 ≤ 100000; decide)) H7 (Evl.Ex.refl _) _ fun A H8 hA e8 h8 => ?_
    exact q A H8 (e17.trans e8) ⟨S, N, h8, e8 _ _ (e7 _ _ hS6), (hNA.ex e7).ex e8⟩
end
end P61
end S_Jh
section S_Ji
namespace P61
open PySem PySem.Spec PyProof.Rows L2 Tl Hk
def spot (l l2 n2 : Nat) : Nat := 3 * (l2 + 1 - l) + n2
def bitB (p2 s : Nat) (q : Nat × List Bool) : Bool := decide (q.1 = p2) && q.2.getD s false
def tellsB (L : Lb) (p2 l2 n2 : Nat) : Bool := decide (l2 ≤ L.l + 1 ∧ L.l ≤ l2 + 1) && L.near.any (bitB p2 (spot L.l l2 n2))
def tiedB (A B : Lb) : Bool := tellsB A B.p B.l B.n || tellsB B A.p A.l A.n
/-- a pair of a label's rows -/
def YN (near : List (Nat × List Bool)) : Nat → Hp → V → Hp → Prop := fun i H v H' => H' = H ∧ ∃ r, v = .ref r ∧ H r = some (.tup [.int ((near.getD i (0, [])).1 : Int), .str (sS (near.getD i (0, [])).2)])
theorem ei_near {K : PySem.W.Frag} {σ : L2.St} {H : Hp} {te : TE} {N : Addr} {near : List (Nat × List Bool)} (h : Evl.Ev te σ H (.ref N)) (hN : NearAt H N near) : EvI (iTup K te) σ H near.length (YN near) := fun H1 e R k => by
  obtain ⟨rs, h1, h2, h3⟩ := hN
  have hl : (rs.map V.ref).length = near.length := by rw [List.length_map, h2]
  have w0 := walk_tup (K := K) (a := N) (xs := rs.map V.ref)
  rw [hl] at w0
  refine h H1 e _ fun H2 e2 => ⟨N, rfl, ⟨_, Evl.ex_t (e.trans e2) (Evl.st_of h1)⟩, k _ (fun A => SqT K A N (rs.map V.ref) ∧ Evl.Ex H A) H2 e2 (w0.mono (fun _ q => q.1) fun i A v A' hi q y => ?_) fun A ab _ => ⟨Evl.ex_t ab (Evl.st_of h1), ab⟩⟩
  obtain ⟨y1, y2⟩ := y
  have hr : i < rs.length := by omega
  rw [List.getElem?_map, List.getElem?_eq_getElem hr] at y2
  refine ⟨y1, rs[i], (Option.some.inj y2).symm, ?_⟩
  have := q.2 _ _ (h3 i _ _ (List.getElem?_eq_getElem hr) (List.getElem?_eq_getElem hi))
  rw [this, List.getD_eq_getElem?_getD, List.getElem?_eq_getElem hi]
  rfl
theorem aims_near {K : PySem.W.Frag} {near : List (Nat × List Bool)} {n j1 j2 : Nat} : Aims (gTup K 2 (gCons (gName j1) (gCons (gName j2) gNil))) n (YN near)
    (fun i σ => (σ.set j1 (some (.int ((near.getD i (0, [])).1 : Int)))).set j2 (some (.str (sS (near.getD i (0, [])).2)))) := fun i σ H v H' hi y => by
  obtain ⟨rfl, r, rfl, hr⟩ := y
  exact ⟨Evl.Ex.refl _, fun Q q => ⟨r, _, rfl, Evl.st_of hr, rfl, _, _, rfl, _, _, rfl, rfl, q⟩⟩
theorem ev_bit {σ : L2.St} {H : Hp} {ti : TE} {j : Nat} {b : List Bool} {i : Nat} (hv : σ[j]? = some (some (.str (sS b)))) (h : Evl.Ev ti σ H (.int (i : Int))) (hb : b.length ≤ 9) (hi : i < b.length) : Evl.Ev (tOp rEq (tOp rIxS (tVar j) ti) (tC (.str "1"))) σ H (.bl (b.getD i false)) := by
  have sz : (sS b).length ≤ sizeLine := by rw [sS_len, sizeLine_eq]; omega
  refine Evl.ev_is (Evl.ev_op (x := .str ⟨#[sg (b.getD i false)]⟩) (Evl.ev_op (Evl.ev_var hv) h fun H5 e5 Q' q' => ⟨sS b, _, sg (b.getD i false), rfl, rfl, sz, sS_at hi, q' H5 (Evl.Ex.refl _)⟩) Evl.ev_c (Evl.rv_eq rfl)) ?_
  cases b.getD i false <;> decide
theorem scTells : FnScope ["label", "seat", "own", "near", "piece", "signs"] ["label", "seat"] (defScope sTells) := ⟨rfl, rfl, rfl, by decide +kernel, rfl, by decide +kernel, by decide +kernel⟩
theorem scWanted : FnScope ["label", "part", "told"] ["label", "part"] (defScope sWanted) := ⟨rfl, rfl, rfl, by decide +kernel, rfl, by decide +kernel, by decide +kernel⟩
theorem scSayTied : FnScope ["one", "other"] ["one", "other"] (defScope sSayTied) := ⟨rfl, rfl, rfl, by decide +kernel, rfl, by decide +kernel, by decide +kernel⟩
theorem scAreTied : FnScope ["one", "other"] ["one", "other"] (defScope sAreTied) := ⟨rfl, rfl, rfl, by decide +kernel, rfl, by decide +kernel, by decide +kernel⟩
def spWanted : Sp := fun vs H Q _ => ∃ (L : Lb) (part : Str), vs = [.str (txt L), .str part] ∧ L.Ok ∧ ∀ A H1, Evl.Ex H H1 → LabAt H1 A L → Q (.ref A) H1
def spTells : Sp := fun vs H Q _ => ∃ (A S : Addr) (L : Lb) (p l n : Nat), vs = [.ref A, .ref S] ∧ L.Ok ∧ LabAt H A L ∧ SeatAt H S p l n ∧ l < 10 ∧ n < 3 ∧ ∀ H1, Evl.Ex H H1 → Q (.bl (tellsB L p l n)) H1
theorem spv_tells {H : Hp} {A S : Addr} {L : Lb} {p l n : Nat} (h : L.Ok) (h1 : LabAt H A L) (h2 : SeatAt H S p l n) (h3 : l < 10) (h4 : n < 3) : Evl.SpV spTells [.ref A, .ref S] H (.bl (tellsB L p l n)) := fun H1 e Q q E => ⟨A, S, L, p, l, n, rfl, h, h1.ex e, h2.ex e, h3, h4, q⟩
def spSay : Sp := fun vs H Q _ => ∃ (A B : Addr) (L M : Lb), vs = [.ref A, .ref B] ∧ L.Ok ∧ M.Ok ∧ LabAt H A L ∧ LabAt H B M ∧ ∀ H1, Evl.Ex H H1 → Q (.bl (tiedB L M)) H1
def spAre : Sp := fun vs H Q _ => ∃ (L M : Lb), vs = [.str (txt L), .str (txt M)] ∧ L.Ok ∧ M.Ok ∧ ∀ H1, Evl.Ex H H1 → Q (.bl (tiedB L M)) H1
theorem spv_are {H : Hp} {L M : Lb} (h : L.Ok) (h1 : M.Ok) : Evl.SpV spAre [.str (txt L), .str (txt M)] H (.bl (tiedB L M)) := fun H1 e Q q E => ⟨L, M, rfl, h, h1, q⟩
section
variable {P : Program} {w : World} {K : PySem.W.Frag} {mg : Str → Option Value} {base : Heap}
theorem ok_wanted {f fN : Addr} {fd fdN : FuncData} {k : Nat} (F : Fun K "_wanted_label" "_wanted_label" sWanted f fd)
    (FN : Fun K "label_in" "label_in" sLabelIn fN fdN) (GN : FnOk P w K mg base CX0 k fN fdN ["value"] spLabelIn) (bN : Binds K fdN ["value"] []) (gN : mg "label_in" = some (.ref fN)) :
    FnOk P w K mg base CX0 (k + 1) f fd ["label", "part"] spWanted := by
  refine F.ok scWanted (fun vs H Q E h => ?_) (fun cdv A outer s H vs Q E hr h => ?_)
  · obtain ⟨L, part, rfl, _⟩ := h
    rfl
  · obtain ⟨L, part, rfl, hL, q⟩ := h
    have nd := scWanted.nd
    refine ⟨_, pss_cons (ps_set (i := 2) nd rfl (.inl rfl) (pe_call GN hr (by rfl) gN FN.kp bN .nil pass0 (pa_cons (pv 0) pa_nil)))
      (pss_cons (ps_if (pt_cmpR op_isN (pv 2) pe_non (nomark _)) (pss_one ps_never) pss_nil) (pss_one (ps_ret (pv 2)))), ?_⟩
    refine ⟨_, rfl, L, rfl, hL, fun A H1 e1 hA => ?_⟩
    dsimp only [gName]
    refine Evl.q_when (b := false) (Evl.et_is (Evl.et_test (b := false) (Evl.ev_op (x := .ref A) (y := .non) (z := .bl false) (Evl.ev_var rfl) Evl.ev_c rv_isN)) rfl) (fun z => nomatch z) fun _ H2 e2 => ?_
    exact Evl.s_ret (Evl.ev_var rfl) fun H3 e3 => q A H3 ((e1.trans e2).trans e3) ((hA.ex e2).ex e3)
set_option maxHeartbeats 1000000 in
theorem ok_tells {f fS : Addr} {fd fdS : FuncData} {k : Nat} (F : Fun K "_tells" "_tells" sTells f fd)
    (FS : Fun K "_sign_of" "_sign_of" sSignOf fS fdS) (GS : FnOk P w K mg base CX0 k fS fdS ["seat", "other"] spSignOf) (bS : Binds K fdS ["seat", "other"] []) (gS : mg "_sign_of" = some (.ref fS))
    (mabs : mg "abs" = none) (many : mg "any" = none) : FnOk P w K mg base CX0 (k + 1) f fd ["label", "seat"] spTells := by
  refine F.ok scTells (fun vs H Q E h => ?_) (fun cdv A outer s H vs Q E hr h => ?_)
  · obtain ⟨A, S, L, p, l, n, rfl, _⟩ := h
    rfl
  · obtain ⟨A0, S, L, p, l, n, rfl, hL, ⟨O, N, hA, hO, hN⟩, hS, hl, hn, q⟩ := h
    have nd := scTells.nd
    have hl2 := hL.hl
    refine ⟨_, pss_cons (ps_asg (pv 0) (pg_tup (by rfl) (pgs_cons (pg_name (i := 2) nd rfl (Or.inr rfl)) (pgs_cons (pg_name (i := 3) nd rfl (Or.inl rfl)) pgs_nil))))
      (pss_cons (ps_if (pt_cmpR op_gt (pe_callB call_abs (by rfl) mabs (by decide +kernel) (pa_cons (pe_op op_sub (pe_ix ix_tup (pv 1) pe_int (fun _ _ => rfl)) (pe_ix ix_tup (pv 2) pe_int (fun _ _ => rfl))) pa_nil)) pe_int (nomark _)) (pss_one (ps_ret pe_bl)) pss_nil)
      (pss_one (ps_ret (pe_callB (cr_any rfl) (by rfl) many (by decide +kernel) (pa_cons
          (pe_lc (own := [("piece", 4), ("signs", 5)]) (g := gTup K 2 (gCons (gName 4) (gCons (gName 5) gNil))) (tt := tYes) (te := tAndV (tOp rEq (tVar 4) (tOp (rIxT K) (tVar 1) (tC (.int 0)))) (tOp rEq (tOp rIxS (tVar 5) (tCall spSignOf [] E0 (tCons (tVar 2) (tCons (tVar 1) tNil)))) (tC (.str "1")))) rfl nd (pi_tup (pv 3)) (blkOk_by (N := ["label", "seat", "own", "near", "piece", "signs"]) (sc := defScope sTells) (by decide +kernel)) (fun _ _ _ _ _ => pg_tup (by rfl) (pgs_cons (pg_name (i := 4) nd rfl (Or.inl rfl)) (pgs_cons (pg_name (i := 5) nd rfl (Or.inl rfl)) pgs_nil))) (fun _ _ _ _ _ => pts_nil)
            (fun _ _ _ _ _ => pe_and (pe_cmpR op_eq (pv 4) (pe_ix ix_tup (pv 1) pe_int (fun _ _ => rfl)) (nomark _)) (pe_one (pe_cmpR op_eq (pe_ix ix_str (pv 5) (pe_call GS hr (by rfl) gS FS.kp bS .nil pass0 (pa_cons (pv 2) (pa_cons (pv 1) pa_nil))) (fun _ _ => rfl)) pe_str (nomark _))))) pa_nil))))), ?_⟩
    refine ⟨.ref A0, rfl, A0, _, rfl, Evl.st_of hA, rfl, _, _, rfl, _, _, rfl, rfl, ?_⟩
    dsimp only [gName]
    refine Evl.q_when (b := !decide (l ≤ L.l + 1 ∧ L.l ≤ l + 1)) (Evl.et_is (Evl.et_test (Evl.ev_op (ev_abs (Evl.ev_op (ev_at (j := 1) (Evl.ev_var rfl) hS rfl) (ev_at (j := 1) (Evl.ev_var rfl) hO rfl) Evl.rv_I0)) Evl.ev_c Evl.rv_I0)) ?_) (fun hb H1 e1 => ?_) (fun hb H1 e1 => ?_)
    · rw [← decide_not]
      refine decide_eq_decide.mpr ?_
      split <;> omega
    · refine Evl.s_ret (v := .bl false) Evl.ev_c fun H2 e2 => ?_
      have : tellsB L p l n = false := by
        unfold tellsB
        rw [Bool.not_eq_true'] at hb
        rw [hb, Bool.false_and]
      rw [← this]
      exact q H2 (e1.trans e2)
    · rw [Bool.not_eq_false'] at hb
      have hd := of_decide_eq_true hb
      refine Evl.s_ret (v := .bl (tellsB L p l n)) (Evl.ev_is (ev_anyN (bs := L.near.map (bitB p (spot L.l l n))) ?_) ?_) fun H2 e2 => q H2 (e1.trans e2)
      · rw [List.map_map, ← given_all L.near (0, []) (V.bl ∘ bitB p (spot L.l l n))]
        refine el_lcI (t := tYes) (vs := [4, 5]) (fun _ => true) _ (ei_near (K := K) (Evl.ev_var (i := 3) rfl) (hN.ex e1)) (aims_near (j1 := 4) (j2 := 5)) (fun _ => rfl) (by have := hL.len; omega) (fun _ _ _ _ => et_yes) fun i H4 e4 hi _ => ?_
        generalize hq : L.near.getD i (0, []) = q'
        have hm : q' ∈ L.near := by
          rw [← hq, List.getD_eq_getElem?_getD, List.getElem?_eq_getElem hi]
          exact List.getElem_mem hi
        obtain ⟨_, b1, _⟩ := hL.each q' hm
        refine Evl.ev_is (Evl.ev_andV (a := decide (q'.1 = p)) (b := q'.2.getD (spot L.l l n) false) (Evl.ev_is (Evl.ev_op (Evl.ev_var rfl) (ev_at (j := 0) (Evl.ev_var rfl) ((hS.ex e1).ex e4) rfl) (Evl.rv_eq rfl)) ?_) fun _ => ev_bit rfl (Evl.ev_is (Evl.ev_call (Evl.ea_cons (Evl.ev_var rfl) (Evl.ea_cons (Evl.ev_var rfl) Evl.ea_nil)) (spv_signOf ((e4 _ _ (e1 _ _ hO) : SeatAt H4 O L.p L.l L.n)) ((hS.ex e1).ex e4) (by omega) (by omega))) ?_) (by omega) ?_) rfl
        · refine congrArg V.bl (decide_eq_decide.mpr ⟨fun z => ?_, fun z => by rw [z]⟩)
          have := V.int.inj z
          omega
        · unfold spot
          congr 1
          omega
        · unfold spot
          omega
      · unfold tellsB
        rw [hb, Bool.true_and, List.any_map]
        rfl
theorem ok_say {f fS : Addr} {fd fdS : FuncData} {k : Nat} (F : Fun K "say_tied" "say_tied" sSayTied f fd)
    (FS : Fun K "_tells" "_tells" sTells fS fdS) (GS : FnOk P w K mg base CX0 k fS fdS ["label", "seat"] spTells) (bS : Binds K fdS ["label", "seat"] []) (gS : mg "_tells" = some (.ref fS)) :
    FnOk P w K mg base CX0 (k + 1) f fd ["one", "other"] spSay := by
  refine F.ok scSayTied (fun vs H Q E h => ?_) (fun cdv A outer s H vs Q E hr h => ?_)
  · obtain ⟨A, B, L, M, rfl, _⟩ := h
    rfl
  · obtain ⟨A0, B0, L, M, rfl, hL, hM, hA, hB, q⟩ := h
    refine ⟨_, pss_one (ps_ret (pe_or (pe_call GS hr (by rfl) gS FS.kp bS .nil pass0 (pa_cons (pv 0) (pa_cons (pe_ix ix_tup (pv 1) pe_int (fun _ _ => rfl)) pa_nil))) (pe_one (pe_call GS hr (by rfl) gS FS.kp bS .nil pass0 (pa_cons (pv 1) (pa_cons (pe_ix ix_tup (pv 0) pe_int (fun _ _ => rfl)) pa_nil)))))), ?_⟩
    obtain ⟨S1, N1, a1, a2, a3⟩ := hA
    obtain ⟨S2, N2, b1, b2, b3⟩ := hB
    exact Evl.s_ret (Evl.ev_orV (Evl.ev_call (Evl.ea_cons (Evl.ev_var rfl) (Evl.ea_cons (ev_at (j := 0) (Evl.ev_var rfl) b1 rfl) Evl.ea_nil)) (spv_tells hL ⟨S1, N1, a1, a2, a3⟩ b2 hM.hl hM.hn)) fun _ => Evl.ev_call (Evl.ea_cons (Evl.ev_var rfl) (Evl.ea_cons (ev_at (j := 0) (Evl.ev_var rfl) a1 rfl) Evl.ea_nil)) (spv_tells hM ⟨S2, N2, b1, b2, b3⟩ a2 hL.hl hL.hn)) q
theorem ok_are {f fS fW : Addr} {fd fdS fdW : FuncData} {k : Nat} (F : Fun K "are_tied" "are_tied" sAreTied f fd)
    (FS : Fun K "say_tied" "say_tied" sSayTied fS fdS) (GS : FnOk P w K mg base CX0 k fS fdS ["one", "other"] spSay) (bS : Binds K fdS ["one", "other"] []) (gS : mg "say_tied" = some (.ref fS))
    (FW : Fun K "_wanted_label" "_wanted_label" sWanted fW fdW) (GW : FnOk P w K mg base CX0 k fW fdW ["label", "part"] spWanted) (bW : Binds K fdW ["label", "part"] []) (gW : mg "_wanted_label" = some (.ref fW)) :
    FnOk P w K mg base CX0 (k + 1) f fd ["one", "other"] spAre := by
  refine F.ok scAreTied (fun vs H Q E h => ?_) (fun cdv A outer s H vs Q E hr h => ?_)
  · obtain ⟨L, M, rfl, _⟩ := h
    rfl
  · obtain ⟨L, M, rfl, hL, hM, q⟩ := h
    refine ⟨_, pss_one (ps_ret (pe_call GS hr (by rfl) gS FS.kp bS .nil pass0 (pa_cons (pe_call GW hr (by rfl) gW FW.kp bW .nil pass0 (pa_cons (pv 0) (pa_cons pe_str pa_nil))) (pa_cons (pe_call GW hr (by rfl) gW FW.kp bW .nil pass0 (pa_cons (pv 1) (pa_cons pe_str pa_nil))) pa_nil)))), ?_⟩
    refine ⟨_, rfl, L, _, rfl, hL, fun A1 H1 e1 l1 => ⟨_, rfl, M, _, rfl, hM, fun A2 H2 e2 l2 => ⟨A1, A2, L, M, rfl, hL, hM, l1.ex e2, l2, fun H3 e3 => q H3 ((e1.trans e2).trans e3)⟩⟩⟩
end
end P61
end S_Ji
section S_Jk
namespace Hk
open PySem PySem.Spec PyProof.Rows L2 Tl
open Evl
/-- xs.extend(list) -/
theorem s_ext {K : PySem.W.Frag} {σ : L2.St} {H : Hp} {ta te : TE} {D : Ends} {l : Addr} {xs zs : List V} (hl : H l = some (.lst xs)) (ha : Ev ta σ H (.ref l)) (h : EvL te σ H zs) (hz : xs.length + zs.length ≤ 100000) (k : ∀ H1, Ex H H1 → D.nx σ (upd H1 l (.lst (xs ++ zs)))) :
    tDrop (tBM K "list" rExtend ta (tCons te tNil)) D σ H := ha H (Ex.refl H) _ fun H1 e1 =>
  ⟨Or.inl ⟨rfl, xs, sq_of (e1 l _ hl)⟩, h H1 e1 _ fun p H2 hp e2 h2 => ⟨l, p, xs, zs, rfl, rfl, e2 l _ (e1 l _ hl), h2, sz_of hz, k H2 (e1.trans e2)⟩⟩
end Hk
namespace P61
open PySem PySem.Spec PyProof.Rows L2 Tl Hk
def pre (L : Lb) (i : Nat) : List V := ([dS L.p, dS L.l, dS L.n] ++ ((L.near.take i).map gi).flatten).map V.str
theorem pre_len (L : Lb) (i : Nat) : (pre L i).length ≤ 3 + 3 * L.near.length := by
  unfold pre
  rw [List.length_map, List.length_append, flat_len, List.length_take]
  show 3 + _ ≤ _
  omega
theorem pre_succ {L : Lb} {i : Nat} (h : i < L.near.length) : pre L i ++ [V.str "/", V.str (dS (L.near.getD i (0, [])).1), V.str (sS (L.near.getD i (0, [])).2)] = pre L (i + 1) := by
  unfold pre
  have e : ((L.near.take (i + 1)).map gi).flatten = ((L.near.take i).map gi).flatten ++ gi L.near[i] := by
    rw [List.take_succ_eq_append_getElem h, List.map_append, List.flatten_append, List.map_cons, List.map_nil, List.flatten_cons, List.flatten_nil, List.append_nil]
  rw [e, ← List.append_assoc, List.map_append (l₂ := gi L.near[i])]
  congr 1
  rw [List.getD_eq_getElem?_getD, List.getElem?_eq_getElem h]
  rfl
theorem pre_all (L : Lb) : pre L L.near.length = (items L).map V.str := by
  unfold pre items
  rw [List.take_length]
theorem lg10 : ∀ n, n < 10 → ((n : Nat) : Int).natAbs.log2 < 1920 := by decide +kernel
theorem ev_strN {σ : L2.St} {H : Hp} {ta : TE} {n : Nat} (h : Evl.Ev ta σ H (.int (n : Int))) (hn : n < 10) : Evl.Ev (tCB (fun xs H Q => ∃ i, xs = [V.int i] ∧ i.natAbs.log2 < 1920 ∧ Q (.str (toString i)) H) (tCons ta tNil)) σ H (.str (dS n)) := fun H1 e Q q =>
  h H1 e _ fun H2 e2 => ⟨(n : Int), rfl, lg10 n hn, q H2 e2⟩
abbrev teStr (j : Nat) : TE := tCB (fun xs H Q => ∃ i, xs = [V.int i] ∧ i.natAbs.log2 < 1920 ∧ Q (.str (toString i)) H) (tCons (tVar j) tNil)
theorem el_seat {K : PySem.W.Frag} {σ : L2.St} {H : Hp} {te : TE} {S : Addr} {L : Lb} {j : Nat} (h : Evl.Ev te σ H (.ref S)) (hS : SeatAt H S L.p L.l L.n) (hL : L.Ok) (hw : ∀ x, wipe ((wipe σ [j]).set j x) [j] = wipe σ [j]) (hj : ∀ x, ((wipe σ [j]).set j (some x))[j]? = some (some x)) : Evl.EvL (tLc (iTup K te) (gName j) tYes (teStr j) [j]) σ H (pre L 0) := by
  have hn := hL.hn
  exact el_lcI (te := teStr j) (t := tYes) (vs := [j]) (fun _ => true) (fun i => V.str (([dS L.p, dS L.l, dS L.n] : List Str).getD i "")) (ei_tup (K := K) h (Evl.st_of hS)) (aims_at (j := j)) (fun _ => hw _) (by show 3 ≤ _; omega) (fun _ _ _ _ => et_yes) fun i H4 e4 hi _ => by
    have hi : i < 3 := hi
    match i, hi with
    | 0, _ => exact ev_strN (Evl.ev_var (hj _)) hL.hp
    | 1, _ => exact ev_strN (Evl.ev_var (hj _)) hL.hl
    | 2, _ => exact ev_strN (Evl.ev_var (hj _)) (by omega)
theorem el_row {σ : L2.St} {H : Hp} {L : Lb} {i j1 j2 : Nat} (hL : L.Ok) (hi : i < L.near.length) (h1 : σ[j1]? = some (some (.int ((L.near.getD i (0, [])).1 : Int)))) (h2 : σ[j2]? = some (some (.str (sS (L.near.getD i (0, [])).2)))) :
    Evl.EvL (tLst (tCons (tC (.str "/")) (tCons (teStr j1) (tCons (tVar j2) tNil)))) σ H [V.str "/", V.str (dS (L.near.getD i (0, [])).1), V.str (sS (L.near.getD i (0, [])).2)] := by
  refine Evl.el_lst (Evl.ea_cons Evl.ev_c (Evl.ea_cons (ev_strN (Evl.ev_var h1) ?_) (Evl.ea_cons (Evl.ev_var h2) Evl.ea_nil))) (by show 3 ≤ 100000; decide)
  rw [List.getD_eq_getElem?_getD, List.getElem?_eq_getElem hi]
  exact (hL.each _ (List.getElem_mem hi)).1
theorem ev_join {K : PySem.W.Frag} {σ : L2.St} {H : Hp} {L : Lb} {I : Addr} {j : Nat} (hL : L.Ok) (hj : σ[j]? = some (some (.ref I))) (hI : H I = some (.lst ((items L).map V.str))) :
    Evl.Ev (tBM K "str" (fun x xs H Q => ∃ a p, ∃ ys : List Str, x = .str a ∧ xs = [.ref p] ∧ (SqL K H p (ys.map V.str) ∨ SqT K H p (ys.map V.str)) ∧ (ys.map (·.length)).sum + ys.length * a.length ≤ 16777216 ∧ Q (.str (Txt.join a ys)) H) (tC (.str " ")) (tCons (tVar j) tNil)) σ H (.str (txt L)) := fun H1 e Q q =>
  ⟨rfl, ⟨_, hj, " ", I, items L, rfl, rfl, .inl (Evl.sq_of (e _ _ hI)), by
    have := items_sum hL
    show ((items L).map (·.length)).sum + (items L).length * 1 ≤ 16777216
    omega, q H1 (Evl.Ex.refl _)⟩⟩
theorem scLabelText : FnScope ["seat", "near", "items", "number", "piece", "signs"] ["seat", "near"] (defScope sLabelText) := ⟨rfl, rfl, rfl, by decide +kernel, rfl, by decide +kernel, by decide +kernel⟩
theorem scLText : FnScope ["label", "items", "number", "piece", "signs"] ["label"] (defScope sLText) := ⟨rfl, rfl, rfl, by decide +kernel, rfl, by decide +kernel, by decide +kernel⟩
def spLabelText : Sp := fun vs H Q _ => ∃ (S N : Addr) (L : Lb), vs = [.ref S, .ref N] ∧ L.Ok ∧ SeatAt H S L.p L.l L.n ∧ NearAt H N L.near ∧ ∀ H1, Evl.Ex H H1 → Q (.str (txt L)) H1
theorem spv_labelText {H : Hp} {S N : Addr} {L : Lb} (h : L.Ok) (h1 : SeatAt H S L.p L.l L.n) (h2 : NearAt H N L.near) : Evl.SpV spLabelText [.ref S, .ref N] H (.str (txt L)) := fun H1 e Q q E => ⟨S, N, L, rfl, h, h1.ex e, h2.ex e, q⟩
def spLText : Sp := fun vs H Q _ => ∃ (A : Addr) (L : Lb), vs = [.ref A] ∧ L.Ok ∧ LabAt H A L ∧ ∀ H1, Evl.Ex H H1 → Q (.str (txt L)) H1
theorem spv_lText {H : Hp} {A : Addr} {L : Lb} (h : L.Ok) (h1 : LabAt H A L) : Evl.SpV spLText [.ref A] H (.str (txt L)) := fun H1 e Q q E => ⟨A, L, rfl, h, h1.ex e, q⟩
section
variable {P : Program} {w : World} {K : PySem.W.Frag} {mg : Str → Option Value} {base : Heap}
set_option maxHeartbeats 1000000 in
theorem ok_labelText {f fS fP : Addr} {fd fdS fdP : FuncData} {k : Nat} (F : Fun K "label_text" "label_text" sLabelText f fd)
    (FS : Fun K "_is_small_seat" "_is_small_seat" sSmallSeat fS fdS) (GS : FnOk P w K mg base CX0 k fS fdS ["value"] spSeat) (bS : Binds K fdS ["value"] []) (gS : mg "_is_small_seat" = some (.ref fS))
    (FP : Fun K "_are_near_pieces" "_are_near_pieces" sNearPieces fP fdP) (GP : FnOk P w K mg base CX0 k fP fdP ["seat", "value"] spNearPieces) (bP : Binds K fdP ["seat", "value"] []) (gP : mg "_are_near_pieces" = some (.ref fP))
    (mstr : mg "str" = none) : FnOk P w K mg base CX0 (k + 1) f fd ["seat", "near"] spLabelText := by
  refine F.ok scLabelText (fun vs H Q E h => ?_) (fun cdv A outer s H vs Q E hr h => ?_)
  · obtain ⟨S, N, L, rfl, _⟩ := h
    rfl
  · obtain ⟨S, N, L, rfl, hL, hS, hN, q⟩ := h
    have nd := scLabelText.nd
    refine ⟨_, pss_cons (ps_if (pt_not (pt_val (pe_call GS hr (by rfl) gS FS.kp bS .nil pass0 (pa_cons (pv 0) pa_nil)))) (pss_one ps_never) pss_nil)
      (pss_cons (ps_if (pt_not (pt_val (pe_call GP hr (by rfl) gP FP.kp bP .nil pass0 (pa_cons (pv 0) (pa_cons (pv 1) pa_nil))))) (pss_one ps_never) pss_nil)
      (pss_cons (ps_setLc (i := 2) (own := [("number", 3)]) (g := gName 3) (tt := tYes) (te := teStr 3) rfl nd rfl rfl (sw_true rfl rfl rfl (by decide +kernel)) (pi_tup (pv 0)) (blkOk_by (N := ["seat", "near", "items", "number", "piece", "signs"]) (sc := defScope sLabelText) (by decide +kernel)) (fun _ _ _ _ _ => pg_name (i := 3) nd rfl (Or.inl rfl)) (fun _ _ _ _ _ => pts_nil)
          (fun _ _ _ _ _ => pe_callTy call_str_int (by rfl) mstr (by decide +kernel) (pa_cons (pv 3) pa_nil)))
      (pss_cons (ps_for PassesOwn.never rfl (pi_tup (pv 1)) (pg_tup (by rfl) (pgs_cons (pg_name (i := 4) nd rfl (Or.inl rfl)) (pgs_cons (pg_name (i := 5) nd rfl (Or.inl rfl)) pgs_nil)))
          (pss_one (ps_expr (pe_bm PySem.F.plainAttrs_list PySem.F.slot_list_extend PySem.F.type_list_extend mt_extend (pv 2) (pa_cons (pe_lst (pa_cons pe_str (pa_cons (pe_callTy call_str_int (by rfl) mstr (by decide +kernel) (pa_cons (pv 4) pa_nil)) (pa_cons (pv 5) pa_nil)))) pa_nil)))))
      (pss_one (ps_ret (pe_bm PySem.F.plainAttrs_str PySem.F.slot_str_join PySem.F.type_str_join mt_join pe_str (pa_cons (pv 2) pa_nil))))))), ?_⟩
    refine Evl.q_when (b := false) (Evl.et_is (Evl.et_not (Evl.et_B (Evl.ev_call (Evl.ea_cons (Evl.ev_var rfl) Evl.ea_nil) (spv_seat hS hL.hp hL.hl hL.hn)))) rfl) (fun z => nomatch z) fun _ H1 e1 => ?_
    refine Evl.q_when (b := false) (Evl.et_is (Evl.et_not (Evl.et_B (Evl.ev_call (Evl.ea_cons (Evl.ev_var rfl) (Evl.ea_cons (Evl.ev_var rfl) Evl.ea_nil)) (spv_nearPieces hL (hS.ex e1) (hN.ex e1))))) rfl) (fun z => nomatch z) fun _ H2 e2 => ?_
    have hS2 := (hS.ex e1).ex e2
    have hN2 := (hN.ex e1).ex e2
    have e12 := e1.trans e2
    refine Evl.q_asgL (xs := pre L 0) (el_seat (Evl.ev_var rfl) hS2 hL (fun _ => rfl) fun _ => rfl) fun I H3 hI e3 h3 => ?_
    have hn4 := hL.len
    refine q_forI (B := H2) (ei_near (K := K) (Evl.ev_var (i := 1) rfl) hN2) (aims_near (j1 := 4) (j2 := 5)) e3 (fun G i σ' H' => ∃ y4 y5, σ' = [some (.ref S), some (.ref N), some (.ref I), none, y4, y5] ∧ H' I = some (.lst (pre L i)) ∧ ∀ a o, a ≠ I → G a = some o → H' a = some o)
      (fun G eG => ⟨_, _, rfl, eG _ _ h3, fun _ _ _ h => h⟩) (fun G i σ' H' eG hi p => ?_) (fun G i σ' H' H'' eG hi p e4 => ?_) (fun G σ' H' eG p => ?_)
    · obtain ⟨y4, y5, rfl, hI', hk⟩ := p
      exact ⟨fun a o h => hk a o (ne_of_none h hI) (eG _ _ (e3 _ _ h)), fun a o h1 h2 => hk a o (fun z => by rw [z, h3] at h1; cases h1) h2⟩
    · obtain ⟨y4, y5, rfl, hI', hk⟩ := p
      have hpl := pre_len L i
      refine s_ext (xs := pre L i) (e4 _ _ hI') (Evl.ev_var rfl) (el_row hL hi rfl rfl) (by show (pre L i).length + 3 ≤ 100000; omega) fun H5 e5 => ?_
      exact ⟨_, _, rfl, by rw [pre_succ hi]; exact upd_same, fun a o hne h => by rw [upd_ne hne]; exact e5 _ _ (e4 _ _ (hk a o hne h))⟩
    · obtain ⟨y4, y5, rfl, hI', hk⟩ := p
      rw [pre_all] at hI'
      refine Evl.s_ret (ev_join hL rfl hI') fun H5 e5 => q H5 fun a o h => e5 _ _ (hk a o (ne_of_none (e12 _ _ h) hI) (eG _ _ (e3 _ _ (e12 _ _ h))))
set_option maxHeartbeats 1000000 in
theorem ok_lText {f : Addr} {fd : FuncData} {k : Nat} (F : Fun K "_law_text" "_law_text" sLText f fd)
    (mstr : mg "str" = none) : FnOk P w K mg base CX0 (k + 1) f fd ["label"] spLText := by
  refine F.ok scLText (fun vs H Q E h => ?_) (fun cdv A outer s H vs Q E hr h => ?_)
  · obtain ⟨A, L, rfl, _⟩ := h
    rfl
  · obtain ⟨A0, L, rfl, hL, ⟨S, N, hA, hS, hN⟩, q⟩ := h
    have nd := scLText.nd
    refine ⟨_, pss_cons (ps_setLc (i := 1) (own := [("number", 2)]) (g := gName 2) (tt := tYes) (te := teStr 2) rfl nd rfl rfl (sw_true rfl rfl rfl (by decide +kernel)) (pi_tup (pe_ix ix_tup (pv 0) pe_int (fun _ _ => rfl))) (blkOk_by (N := ["label", "items", "number", "piece", "signs"]) (sc := defScope sLText) (by decide +kernel)) (fun _ _ _ _ _ => pg_name (i := 2) nd rfl (Or.inl rfl)) (fun _ _ _ _ _ => pts_nil)
          (fun _ _ _ _ _ => pe_callTy call_str_int (by rfl) mstr (by decide +kernel) (pa_cons (pv 2) pa_nil)))
      (pss_cons (ps_for PassesOwn.never rfl (pi_tup (pe_ix ix_tup (pv 0) pe_int (fun _ _ => rfl))) (pg_tup (by rfl) (pgs_cons (pg_name (i := 3) nd rfl (Or.inl rfl)) (pgs_cons (pg_name (i := 4) nd rfl (Or.inl rfl)) pgs_nil)))
          (pss_one (ps_set (i := 1) nd rfl (.inl rfl) (pe_op op_cat (pv 1) (pe_lst (pa_cons pe_str (pa_cons (pe_callTy call_str_int (by rfl) mstr (by decide +kernel) (pa_cons (pv 3) pa_nil)) (pa_cons (pv 4) pa_nil))))))))
      (pss_one (ps_ret (pe_bm PySem.F.plainAttrs_str PySem.F.slot_str_join PySem.F.type_str_join mt_join pe_str (pa_cons (pv 1) pa_nil))))), ?_⟩
    have hn4 := hL.len
    refine Evl.q_asgL (xs := pre L 0) (el_seat (ev_at (j := 0) (Evl.ev_var rfl) hA rfl) hS hL (fun _ => rfl) fun _ => rfl) fun I H3 hI e3 h3 => ?_
    refine q_forI (B := H3) (ei_near (K := K) (ev_at (j := 1) (Evl.ev_var (i := 0) rfl) (e3 _ _ hA) rfl) (hN.ex e3)) (aims_near (j1 := 3) (j2 := 4)) (Evl.Ex.refl _) (fun G i σ' H' => ∃ I' y4 y5, σ' = [some (.ref A0), some (.ref I'), none, y4, y5] ∧ H' I' = some (.lst (pre L i)) ∧ Evl.Ex G H')
      (fun G eG => ⟨_, _, _, rfl, eG _ _ h3, Evl.Ex.refl _⟩) (fun G i σ' H' eG hi p => ?_) (fun G i σ' H' H'' eG hi p e4 => ?_) (fun G σ' H' eG p => ?_)
    · obtain ⟨I', y4, y5, rfl, hI', hk⟩ := p
      exact ⟨eG.trans hk, fun a o _ h2 => hk _ _ h2⟩
    · obtain ⟨I', y4, y5, rfl, hI', hk⟩ := p
      have hpl := pre_len L i
      refine Evl.s_asgL (xs := pre L (i + 1)) ?_ fun p H5 hp e5 h5 => ⟨_, _, _, rfl, h5, (hk.trans e4).trans e5⟩
      rw [← pre_succ hi]
      exact el_catVN (Evl.ev_var rfl) (e4 _ _ hI') (el_row hL hi rfl rfl) (by show (pre L i).length + 3 ≤ 100000; omega)
    · obtain ⟨I', y4, y5, rfl, hI', hk⟩ := p
      rw [pre_all] at hI'
      refine Evl.s_ret (ev_join hL rfl hI') fun H5 e5 => q H5 ((e3.trans eG).trans (hk.trans e5))
end
end P61
end S_Jk
section S_Jl
namespace P61
open PySem PySem.Spec PyProof.Rows L2 Tl Hk
theorem scLTells : FnScope ["label", "seat", "apart", "piece", "signs"] ["label", "seat"] (defScope sLTells) := ⟨rfl, rfl, rfl, by decide +kernel, rfl, by decide +kernel, by decide +kernel⟩
theorem scLTied : FnScope ["one", "other"] ["one", "other"] (defScope sLTied) := ⟨rfl, rfl, rfl, by decide +kernel, rfl, by decide +kernel, by decide +kernel⟩
theorem scLSigns : FnScope ["clerk", "layer", "lane", "found", "at", "is_barred"] ["clerk", "layer", "lane"] (defScope sLSigns) := ⟨rfl, rfl, rfl, by decide +kernel, rfl, by decide +kernel, by decide +kernel⟩
theorem ones_given {n : Nat} {f : Nat → Bool} : Evl.given n f (fun _ => V.int 1) = (((List.range n).filter f).map fun _ => (1 : Int)).map V.int := by
  unfold Evl.given
  rw [List.map_map]
  rfl
theorem filt_any {near : List (Nat × List Bool)} {f : Nat × List Bool → Bool} : (!(((List.range near.length).filter fun i => f (near.getD i (0, []))).map fun _ => (1 : Int)).isEmpty) = near.any f := by
  rw [Bool.eq_iff_iff, List.any_eq_true, Bool.not_eq_true', ← Bool.not_eq_true, List.isEmpty_iff, List.map_eq_nil_iff, List.filter_eq_nil_iff]
  constructor
  · intro h
    have h : ¬ ∀ a, a ∈ List.range near.length → ¬ f (near.getD a (0, [])) = true := h
    obtain ⟨i, hi⟩ := Classical.not_forall.mp h
    obtain ⟨h1, h2⟩ := Classical.not_imp.mp hi
    have h1 := List.mem_range.mp h1
    have h2 := Classical.not_not.mp h2
    rw [List.getD_eq_getElem?_getD, List.getElem?_eq_getElem h1] at h2
    exact ⟨_, List.getElem_mem h1, h2⟩
  · rintro ⟨q, hq, hf⟩ h
    obtain ⟨i, hi, rfl⟩ := List.mem_iff_getElem.mp hq
    refine h i (List.mem_range.mpr hi) ?_
    rw [List.getD_eq_getElem?_getD, List.getElem?_eq_getElem hi]
    exact hf
section
variable {P : Program} {w : World} {K : PySem.W.Frag} {mg : Str → Option Value} {base : Heap}
set_option maxHeartbeats 1000000 in
theorem ok_lTells {f : Addr} {fd : FuncData} {k : Nat} (F : Fun K "_law_tells" "_law_tells" sLTells f fd) : FnOk P w K mg base CX0 (k + 1) f fd ["label", "seat"] spTells := by
  refine F.ok scLTells (fun vs H Q E h => ?_) (fun cdv A outer s H vs Q E hr h => ?_)
  · obtain ⟨A, S, L, p, l, n, rfl, _⟩ := h
    rfl
  · obtain ⟨A0, S, L, p, l, n, rfl, hL, ⟨O, N, hA, hO, hN⟩, hS, hl, hn, q⟩ := h
    have nd := scLTells.nd
    have hl2 := hL.hl
    refine ⟨_, pss_cons (ps_set (i := 2) nd rfl (.inr rfl) (pe_op op_sub (pe_ix ix_tup (pv 1) pe_int (fun _ _ => rfl)) (pe_ix ix_tup (pe_ix ix_tup (pv 0) pe_int (fun _ _ => rfl)) pe_int (fun _ _ => rfl))))
      (pss_cons (ps_if (PW.pt (pw_or (pt_cmpR op_lt (pv 2) (pe_un un_neg pe_int) (nomark _)) (pw_or1 (pt_cmpR op_gt (pv 2) pe_int (nomark _))))) (pss_one (ps_ret pe_bl)) pss_nil)
      (pss_one (ps_ret (pe_cmpR (op_neD hr.units) (pe_lc (own := [("piece", 3), ("signs", 4)]) (g := gTup K 2 (gCons (gName 3) (gCons (gName 4) gNil))) (tt := tAnd (tTest (tOp rEq (tVar 3) (tOp (rIxT K) (tVar 1) (tC (.int 0))))) (tTest (tOp rEq (tOp rIxS (tVar 4) (tOp (rI0 fun i j => .int (i + j)) (tOp (rI CMul fun i j => .int (i * j)) (tC (.int 3)) (tOp (rI0 fun i j => .int (i + j)) (tVar 2) (tC (.int 1)))) (tOp (rIxT K) (tVar 1) (tC (.int 2))))) (tC (.str "1"))))) (te := tC (.int 1)) rfl nd (pi_tup (pe_ix ix_tup (pv 0) pe_int (fun _ _ => rfl))) (blkOk_by (N := ["label", "seat", "apart", "piece", "signs"]) (sc := defScope sLTells) (by decide +kernel)) (fun _ _ _ _ _ => pg_tup (by rfl) (pgs_cons (pg_name (i := 3) nd rfl (Or.inl rfl)) (pgs_cons (pg_name (i := 4) nd rfl (Or.inl rfl)) pgs_nil)))
            (fun _ _ _ _ _ => pts_one (PW.pt (pw_and (pt_cmpR op_eq (pv 3) (pe_ix ix_tup (pv 1) pe_int (fun _ _ => rfl)) (nomark _)) (pw_and1 (pt_cmpR op_eq (pe_ix ix_str (pv 4) (pe_op op_add (pe_op op_mul pe_int (pe_op op_add (pv 2) pe_int)) (pe_ix ix_tup (pv 1) pe_int (fun _ _ => rfl))) (fun _ _ => rfl)) pe_str (nomark _))))))
            (fun _ _ _ _ _ => pe_int)) (pe_lst pa_nil) (nomark _))))), ?_⟩
    refine Evl.q_asg (v := .int ((l : Int) - (L.l : Int))) (Evl.ev_op (ev_at (j := 1) (Evl.ev_var rfl) hS rfl) (ev_at (j := 1) (ev_at (j := 0) (Evl.ev_var rfl) hA rfl) hO rfl) Evl.rv_I0) fun H1 e1 => ?_
    refine Evl.q_when (b := !decide (l ≤ L.l + 1 ∧ L.l ≤ l + 1)) (Evl.et_is (Evl.et_or (Evl.et_test (Evl.ev_op (Evl.ev_var rfl) (Evl.ev_un Evl.ev_c Evl.ru_neg) Evl.rv_I0)) fun _ => Evl.et_test (Evl.ev_op (Evl.ev_var rfl) Evl.ev_c Evl.rv_I0)) ?_) (fun hb H2 e2 => ?_) (fun hb H2 e2 => ?_)
    · rw [← Bool.decide_or, ← decide_not]
      refine decide_eq_decide.mpr ?_
      omega
    · refine Evl.s_ret (v := .bl false) Evl.ev_c fun H3 e3 => ?_
      have : tellsB L p l n = false := by
        unfold tellsB
        rw [Bool.not_eq_true'] at hb
        rw [hb, Bool.false_and]
      rw [← this]
      exact q H3 ((e1.trans e2).trans e3)
    · rw [Bool.not_eq_false'] at hb
      have hd := of_decide_eq_true hb
      have e12 := e1.trans e2
      refine Evl.s_ret (v := .bl (tellsB L p l n)) (Evl.ev_is (ev_neNilL (cs := ((List.range L.near.length).filter fun i => bitB p (spot L.l l n) (L.near.getD i (0, []))).map fun _ => (1 : Int)) ?_) ?_) fun H3 e3 => q H3 (e12.trans e3)
      · rw [← ones_given]
        refine el_lcI (te := tC (.int 1)) (vs := [3, 4]) (fun i => bitB p (spot L.l l n) (L.near.getD i (0, []))) _ (ei_near (K := K) (ev_at (j := 1) (Evl.ev_var (i := 0) rfl) (e12 _ _ hA) rfl) (hN.ex e12)) (aims_near (j1 := 3) (j2 := 4)) (fun _ => rfl) (by have := hL.len; omega) (fun i H4 e4 hi => ?_) fun _ _ _ _ _ => Evl.ev_c
        generalize hq : L.near.getD i (0, []) = q'
        have hm : q' ∈ L.near := by
          rw [← hq, List.getD_eq_getElem?_getD, List.getElem?_eq_getElem hi]
          exact List.getElem_mem hi
        obtain ⟨_, b1, _⟩ := hL.each q' hm
        have hS4 := (hS.ex e12).ex e4
        refine Evl.et_is (Evl.et_and (a := decide (q'.1 = p)) (b := q'.2.getD (spot L.l l n) false) (Evl.et_is (Evl.et_test (Evl.ev_op (Evl.ev_var rfl) (ev_at (j := 0) (Evl.ev_var rfl) hS4 rfl) (Evl.rv_eq rfl))) ?_) fun _ => Evl.et_test (ev_bit rfl (Evl.ev_is (Evl.ev_op (Evl.ev_op Evl.ev_c (Evl.ev_op (Evl.ev_var rfl) Evl.ev_c Evl.rv_I0) (Evl.rv_I (.inl ⟨by omega, by omega⟩))) (ev_at (j := 2) (Evl.ev_var rfl) hS4 rfl) Evl.rv_I0) ?_) (by omega) ?_)) rfl
        · refine decide_eq_decide.mpr ⟨fun z => ?_, fun z => by rw [z]⟩
          have := V.int.inj z
          omega
        · unfold spot
          congr 1
          omega
        · unfold spot
          omega
      · rw [filt_any]
        unfold tellsB
        rw [hb, Bool.true_and]
theorem ok_lTied {f fS : Addr} {fd fdS : FuncData} {k : Nat} (F : Fun K "_law_tied" "_law_tied" sLTied f fd)
    (FS : Fun K "_law_tells" "_law_tells" sLTells fS fdS) (GS : FnOk P w K mg base CX0 k fS fdS ["label", "seat"] spTells) (bS : Binds K fdS ["label", "seat"] []) (gS : mg "_law_tells" = some (.ref fS)) :
    FnOk P w K mg base CX0 (k + 1) f fd ["one", "other"] spSay := by
  refine F.ok scLTied (fun vs H Q E h => ?_) (fun cdv A outer s H vs Q E hr h => ?_)
  · obtain ⟨A, B, L, M, rfl, _⟩ := h
    rfl
  · obtain ⟨A0, B0, L, M, rfl, hL, hM, hA, hB, q⟩ := h
    refine ⟨_, pss_one (ps_ret (pe_or (pe_call GS hr (by rfl) gS FS.kp bS .nil pass0 (pa_cons (pv 0) (pa_cons (pe_ix ix_tup (pv 1) pe_int (fun _ _ => rfl)) pa_nil))) (pe_one (pe_call GS hr (by rfl) gS FS.kp bS .nil pass0 (pa_cons (pv 1) (pa_cons (pe_ix ix_tup (pv 0) pe_int (fun _ _ => rfl)) pa_nil)))))), ?_⟩
    obtain ⟨S1, N1, a1, a2, a3⟩ := hA
    obtain ⟨S2, N2, b1, b2, b3⟩ := hB
    exact Evl.s_ret (Evl.ev_orV (Evl.ev_call (Evl.ea_cons (Evl.ev_var rfl) (Evl.ea_cons (ev_at (j := 0) (Evl.ev_var rfl) b1 rfl) Evl.ea_nil)) (spv_tells hL ⟨S1, N1, a1, a2, a3⟩ b2 hM.hl hM.hn)) fun _ => Evl.ev_call (Evl.ea_cons (Evl.ev_var rfl) (Evl.ea_cons (ev_at (j := 0) (Evl.ev_var rfl) a1 rfl) Evl.ea_nil)) (spv_tells hM ⟨S2, N2, b1, b2, b3⟩ a2 hL.hl hL.hn)) q
end
end P61
end S_Jl
section S_Jm
namespace P61
open PySem PySem.Spec PyProof.Rows L2 Tl Hk
theorem kept_mut {t p : Addr} {H H' : Hp} {o : HO} (k : Kept t H H') (h : H p = none) : Kept t H (upd H' p o) := fun a u n e => by
  rw [upd_ne (ne_of_none e h)]
  exact k a u n e
theorem kept_fresh {t c p : Addr} {n n' : Nat} {H H' : Hp} (k : Kept t H H') (T : Tub H t c n) (T' : Tub H' t c n') (h : H' p = none) : H p = none := by
  cases e : H p with
  | none => rfl
  | some o =>
    have := k p o (T'.ne h).1 e
    rw [h] at this
    cases this
def chS (b : Bool) : Str := ⟨#[sg b]⟩
theorem ch0 : ("0" : Str) = chS false := by decide
theorem ch1 : ("1" : Str) = chS true := by decide
theorem joinL_ch : ∀ bs : List Bool, TL.joinL [] (bs.map fun b => [sg b]) = bs.map sg
  | [] => rfl
  | [b] => rfl
  | b :: d :: r => by
    have ih := joinL_ch (d :: r)
    show [sg b] ++ ([] ++ TL.joinL [] ((d :: r).map fun b => [sg b])) = _
    rw [ih]
    rfl
theorem join_ch (bs : List Bool) : Txt.join "" (bs.map chS) = sS bs := by
  have h : TL.tl (Txt.join "" (bs.map chS)) = bs.map sg := by
    rw [TL.join_eq, TL.tl_join, List.map_map]
    exact joinL_ch bs
  rw [← TL.mk_tl (Txt.join "" (bs.map chS)), h]
  rfl
def barB (l : Nat) (x : V) (j : Nat) : Bool := (decide (l = 0) && decide (j < 3)) || (match x with | .int m => decide ((j : Int) = 3 + m) | _ => false)
def Bars (l : Nat) (x : V) (k : Nat) (b : List Bool) : Prop := b.length = k ∧ ∀ j, j < k → barB l x j = true → b.getD j false = false
theorem Bars.sg {l : Nat} {x : V} {b : List Bool} (h : Bars l x 9 b) : SgOk l b := by
  refine ⟨h.1, fun hl => ?_⟩
  have hb : ∀ j, j < 3 → b.getD j false = false := fun j hj => h.2 j (by omega) (by unfold barB; rw [decide_eq_true hl, decide_eq_true hj]; rfl)
  have h0 := hb 0 (by omega)
  have h1 := hb 1 (by omega)
  have h2 := hb 2 (by omega)
  have hlen := h.1
  match b, hlen, h0, h1, h2 with
  | a0 :: a1 :: a2 :: r, _, h0, h1, h2 =>
    have h0 : a0 = false := h0
    have h1 : a1 = false := h1
    have h2 : a2 = false := h2
    subst h0 h1 h2
    rfl
theorem Bars.snoc {l : Nat} {x : V} {k : Nat} {b : List Bool} {y : Bool} (h : Bars l x k b) (hy : barB l x k = true → y = false) : Bars l x (k + 1) (b ++ [y]) := by
  refine ⟨by rw [List.length_append, h.1, List.length_singleton], fun j hj hb => ?_⟩
  rw [List.getD_eq_getElem?_getD]
  rcases Nat.lt_or_ge j k with z | z
  · rw [List.getElem?_append_left (by rw [h.1]; exact z), ← List.getD_eq_getElem?_getD]
    exact h.2 j z hb
  · have e : j = k := by omega
    subst e
    rw [List.getElem?_append_right (by rw [h.1]; exact Nat.le_refl _), h.1, Nat.sub_self]
    exact hy hb
def LaneV (x : V) : Prop := x = .non ∨ ∃ m : Nat, m < 3 ∧ x = .int (m : Int)
def spSigns : Sp := fun vs H Q _ => ∃ (t c : Addr) (n l : Nat) (x : V), vs = [.ref t, .int (l : Int), x] ∧ LaneV x ∧ l < 100 ∧ Tub H t c n ∧ n ≤ 100000 ∧ ∀ b H', Bars l x 9 b → Kept t H H' → Tub H' t c (n + 9) → Q (.str (sS b)) H'
section
variable {P : Program} {w : World} {K : PySem.W.Frag} {mg : Str → Option Value} {base : Heap}
set_option maxHeartbeats 1000000 in
theorem ok_signs {f fS : Addr} {fd fdS : FuncData} {k : Nat} (F : Fun K "_law_signs" "_law_signs" sLSigns f fd)
    (FS : Fun K "_law_mark" "_law_mark" sScoop fS fdS) (GS : FnOk P w K mg base CX0 k fS fdS ["clerk", "many"] spScoop) (bS : Binds K fdS ["clerk", "many"] []) (gS : mg "_law_mark" = some (.ref fS)) (mrange : mg "range" = none) :
    FnOk P w K mg base CX0 (k + 1) f fd ["clerk", "layer", "lane"] spSigns := by
  refine F.ok scLSigns (fun vs H Q E h => ?_) (fun cdv A outer s H vs Q E hr h => ?_)
  · obtain ⟨t, c, n, l, x, rfl, _⟩ := h
    rfl
  · obtain ⟨t, c, n, l, x, rfl, hx, hl, T, hn, q⟩ := h
    have nd := scLSigns.nd
    refine ⟨_, pss_cons (ps_set (i := 3) nd rfl (.inl rfl) (pe_lst pa_nil))
      (pss_cons (ps_for PassesOwn.never rfl (pi_range1 (by rfl) mrange (pa_cons pe_int pa_nil)) (pg_name (i := 4) nd rfl (Or.inl rfl))
          (pss_cons (ps_set (i := 5) nd rfl (.inl rfl) (pe_or (pe_and (pe_cmpR op_eq (pv 1) pe_int (nomark _)) (pe_one (pe_cmpR op_lt (pv 4) pe_int (nomark _)))) (pe_one (pe_and (pe_cmpR op_notN (pv 2) pe_non (nomark _)) (pe_one (pe_cmpR op_eq (pv 4) (pe_op op_add pe_int (pv 2)) (nomark _)))))))
          (pss_one (ps_expr (pe_bm PySem.F.plainAttrs_list PySem.F.slot_list_append PySem.F.type_list_append mt_append (pv 3) (pa_cons (pe_ifExp (PW.pt (pw_or (pt_val (pv 5)) (pw_or1 (pt_cmpR op_eq (pe_call GS hr (by rfl) gS FS.kp bS .nil pass0 (pa_cons (pv 0) (pa_cons pe_int pa_nil))) pe_int (nomark _))))) pe_str pe_str) pa_nil))))))
      (pss_one (ps_ret (pe_bm PySem.F.plainAttrs_str PySem.F.slot_str_join PySem.F.type_str_join mt_join pe_str (pa_cons (pv 3) pa_nil))))), ?_⟩
    refine Evl.q_asgL (xs := []) (Evl.el_lst Evl.ea_nil (Nat.zero_le _)) fun D H1 hD e1 h1 => ?_
    have Dt := (T.ne hD).1
    refine Evl.q_forR1 (n := 9) (Evl.ea_cons Evl.ev_c Evl.ea_nil) ⟨by decide, by decide⟩ (fun i σ' H' => ∃ bs y4 y5, σ' = [some (.ref t), some (.int (l : Int)), some x, some (.ref D), y4, y5] ∧ Bars l x i bs ∧ H' D = some (.lst ((bs.map chS).map V.str)) ∧ Kept t H H' ∧ Tub H' t c (n + i))
      (fun H2 e2 => ⟨[], _, _, rfl, ⟨rfl, fun j hj => absurd hj (Nat.not_lt_zero j)⟩, e2 _ _ h1, kept_ex (e1.trans e2), T.ex (e1.trans e2)⟩) (fun i σ' H' hi p => ?_) (fun σ' H' p => ?_)
    · obtain ⟨bs, y4, y5, rfl, hb, hD', k', T'⟩ := p
      have hi : i < 9 := by omega
      refine Evl.q_asg (v := .bl (barB l x i)) ?_ fun H2 e2 => ?_
      · have b1 : ∀ G, Evl.Ev (tAndV (tOp rEq (tVar 1) (tC (.int 0))) (tOp (rI0 fun i j => .bl (decide (i < j))) (tVar 4) (tC (.int 3)))) [some (.ref t), some (.int (l : Int)), some x, some (.ref D), some (.int (i : Int)), y5] G (.bl (decide (l = 0) && decide (i < 3))) := fun G =>
          Evl.ev_andV (Evl.ev_is (Evl.ev_op (Evl.ev_var rfl) Evl.ev_c (Evl.rv_eq rfl)) (congrArg V.bl (decide_eq_decide.mpr ⟨fun z => by have := V.int.inj z; omega, fun z => by rw [z]; rfl⟩))) fun _ => Evl.ev_is (Evl.ev_op (Evl.ev_var rfl) Evl.ev_c Evl.rv_I0) (congrArg V.bl (decide_eq_decide.mpr ⟨fun z => by omega, fun z => by omega⟩))
        rcases hx with rfl | ⟨m, hm, rfl⟩
        · exact Evl.ev_orV (b1 _) fun _ => Evl.ev_is (Evl.ev_andV (a := false) (b := false) (Evl.ev_is (Evl.ev_op (x := .non) (y := .non) (z := .bl false) (Evl.ev_var rfl) Evl.ev_c fun G eG Q' q' => ⟨rfl, q' G (Evl.Ex.refl _)⟩) rfl) fun z => nomatch z) rfl
        · exact Evl.ev_orV (b1 _) fun _ => Evl.ev_is (Evl.ev_andV (a := true) (b := decide ((i : Int) = 3 + (m : Int))) (Evl.ev_is (Evl.ev_op (x := .int (m : Int)) (y := .non) (z := .bl true) (Evl.ev_var rfl) Evl.ev_c fun G eG Q' q' => ⟨rfl, q' G (Evl.Ex.refl _)⟩) rfl) fun _ => Evl.ev_is (Evl.ev_op (Evl.ev_var rfl) (Evl.ev_op Evl.ev_c (Evl.ev_var rfl) Evl.rv_I0) (Evl.rv_eq rfl)) (congrArg V.bl (decide_eq_decide.mpr ⟨fun z => V.int.inj z, fun z => by rw [z]⟩))) (by rw [Bool.true_and])
      · have T2 := T'.ex e2
        have k2 := k'.trans (kept_ex e2)
        have hD2 := e2 _ _ hD'
        have fin : ∀ (y : Bool) H5, Kept t H2 H5 → Tub H5 t c (n + (i + 1)) → (barB l x i = true → y = false) → rAppend (.ref D) [.str (chS y)] H5 (fun _ H6 => ∃ bs y4 y5, ([some (.ref t), some (.int (l : Int)), some x, some (.ref D), some (.int (i : Int)), some (.bl (barB l x i))] : L2.St) = [some (.ref t), some (.int (l : Int)), some x, some (.ref D), y4, y5] ∧ Bars l x (i + 1) bs ∧ H6 D = some (.lst ((bs.map chS).map V.str)) ∧ Kept t H H6 ∧ Tub H6 t c (n + (i + 1))) := fun y H5 k5 T5 hy => by
          refine ⟨D, _, _, rfl, rfl, k5 _ _ Dt hD2, Evl.sz_lt (by rw [List.length_map, List.length_map, hb.1]; omega), bs ++ [y], _, _, rfl, hb.snoc hy, ?_, kept_mut (k2.trans k5) hD, T5.upd Dt (T.ne hD).2⟩
          rw [upd_same, List.map_append, List.map_append]
          rfl
        refine ⟨_, rfl, Or.inl ⟨rfl, _, Evl.sq_of hD2⟩, _, rfl, _, rfl, if_go (fun hb2 => if_go (fun _ => ?_) (fun z => nomatch z)) (fun hb2 => ?_)⟩
        · have := fin false H2 (Kept.refl _ _) (T2.mono (by omega)) fun _ => rfl
          exact this
        · refine ⟨_, rfl, t, c, 2, n + i, rfl, T2, by omega, by omega, by omega, fun r H5 r0 r1 k5 T5 => ⟨rfl, _, rfl, if_go (fun _ => ?_) (fun _ => ?_)⟩⟩
          · exact fin false H5 k5 T5 fun _ => rfl
          · exact fin true H5 k5 T5 fun z => by rw [hb2] at z; cases z
    · obtain ⟨bs, y4, y5, rfl, hb, hD', k', T'⟩ := p
      have hb : Bars l x 9 bs := hb
      refine Evl.s_ret (v := .str (sS bs)) (fun G eG Q' q' => ⟨rfl, ⟨_, rfl, "", D, bs.map chS, rfl, rfl, .inl (Evl.sq_of (eG _ _ hD')), ?_, ?_⟩⟩) fun G eG => q bs G hb (k'.trans (kept_ex eG)) (T'.ex eG)
      · have := sum_le (ps := bs.map chS) (m := 1) fun s hs => by
          obtain ⟨b, _, rfl⟩ := List.mem_map.mp hs
          exact Nat.le_refl _
        rw [List.length_map, hb.1] at this
        show ((bs.map chS).map (·.length)).sum + (bs.map chS).length * 0 ≤ _
        omega
      · rw [join_ch]
        exact q' G (Evl.Ex.refl _)
end
end P61
end S_Jm
section S_Jn
namespace P61
open PySem PySem.Spec PyProof.Rows L2 Tl Hk
theorem RowsP.snoc {H : Hp} {rs : List Addr} {near : List (Nat × List Bool)} {r : Addr} {q : Nat × List Bool} (h : RowsP H rs near) (hr : PairAt H r q) : RowsP H (rs ++ [r]) (near ++ [q]) := by
  obtain ⟨hl, h⟩ := h
  refine ⟨by rw [List.length_append, List.length_append, hl]; rfl, fun i r' q' a b => ?_⟩
  rcases Nat.lt_or_ge i rs.length with z | z
  · rw [List.getElem?_append_left z] at a
    rw [List.getElem?_append_left (by omega)] at b
    exact h i r' q' a b
  · rw [List.getElem?_append_right z] at a
    rw [List.getElem?_append_right (by omega), ← hl] at b
    rcases Nat.lt_or_ge (i - rs.length) 1 with y | y
    · have e : i - rs.length = 0 := by omega
      rw [e] at a b
      cases a
      cases b
      exact hr
    · rw [List.getElem?_eq_none (by rw [List.length_singleton]; exact y)] at a
      cases a
theorem RowsP.cons {H : Hp} {rs : List Addr} {near : List (Nat × List Bool)} {r : Addr} {q : Nat × List Bool} (h : RowsP H rs near) (hr : PairAt H r q) : RowsP H (r :: rs) (q :: near) := by
  refine ⟨by rw [List.length_cons, List.length_cons, h.1], fun i r' q' a b => ?_⟩
  cases i with
  | zero => cases a; cases b; exact hr
  | succ i => exact h.2 i r' q' (by simpa using a) (by simpa using b)
theorem RowsP.mono {H H' : Hp} {rs : List Addr} {near : List (Nat × List Bool)} (h : RowsP H rs near) (e : ∀ r q, PairAt H r q → PairAt H' r q) : RowsP H' rs near := ⟨h.1, fun i r q a b => e _ _ (h.2 i r q a b)⟩
theorem pair_upd {H : Hp} {D : Addr} {l l' : List V} (h : H D = some (.lst l)) (r : Addr) (q : Nat × List Bool) (hp : PairAt H r q) : PairAt (upd H D (.lst l')) r q := by
  have hp : H r = some (.tup [.int (q.1 : Int), .str (sS q.2)]) := hp
  have ne : r ≠ D := fun z => by rw [z, h] at hp; cases hp
  show upd H D _ r = _
  rw [upd_ne ne]
  exact hp
theorem pair_kept {H H' : Hp} {t c : Addr} {n : Nat} (T : Tub H t c n) (k : Kept t H H') (r : Addr) (q : Nat × List Bool) (hp : PairAt H r q) : PairAt H' r q := by
  have hp : H r = some (.tup [.int (q.1 : Int), .str (sS q.2)]) := hp
  refine k r _ (fun z => ?_) hp
  obtain ⟨cs, turn, rest, h1, _⟩ := T
  rw [z, h1] at hp
  cases hp
theorem tub_at {H : Hp} {t c : Addr} {n : Nat} (T : Tub H t c n) : ∃ o, H t = some o := by
  obtain ⟨cs, turn, rest, h1, _⟩ := T
  exact ⟨_, h1⟩
theorem cons_any {te : TE} {tr : TA} {σ : L2.St} {H : Hp} {Q : List V → Hp → Prop} (h : te σ H fun v H1 => tr σ H1 fun vs H2 => Q (v :: vs) H2) : tCons te tr σ H Q := h
theorem asg_go {te : TE} {tz : TS} {i : Nat} {D : Ends} {σ : L2.St} {H : Hp} (h : te σ H fun v H1 => tz D (σ.set i (some v)) H1) : tSeq (tAsg te (gName i)) tz D σ H := h
theorem sl_go {r : V → Option Int → Option Int → Hp → VK → Prop} {te : TE} {tl th : TO} {σ : L2.St} {H : Hp} {Q : VK} (h : te σ H fun x H1 => tl σ H1 fun lo H2 => th σ H2 fun hi H3 => r x lo hi H3 Q) : tSl r te tl th σ H Q := h
theorem op_go {r : R2} {ta tb : TE} {σ : L2.St} {H : Hp} {Q : VK} (h : ta σ H fun x H1 => tb σ H1 fun y H2 => r x y H2 Q) : tOp r ta tb σ H Q := h
theorem tup_go {ta : TA} {σ : L2.St} {H : Hp} {Q : VK} (h : ta σ H fun xs H1 => xs.length ≤ sizeLine ∧ ∀ p, H1 p = none → Q (.ref p) (upd H1 p (.tup xs))) : tTup ta σ H Q := h
theorem lst_go {ta : TA} {σ : L2.St} {H : Hp} {Q : VK} (h : ta σ H fun xs H1 => xs.length ≤ sizeLine ∧ ∀ p, H1 p = none → Q (.ref p) (upd H1 p (.lst xs))) : tLst ta σ H Q := h
theorem ret_go {te : TE} {D : Ends} {σ : L2.St} {H : Hp} (h : te σ H D.rt) : tRet te D σ H := h
theorem call_go {sp : Sp} {dvs vs : List V} {E : XK} {ta : TA} {σ : L2.St} {H : Hp} {Q : VK} (h : Evl.EvA ta σ H vs) (k : ∀ H1, Evl.Ex H H1 → sp (vs ++ dvs) H1 Q E) : tCall sp dvs E ta σ H Q := h H (Evl.Ex.refl H) _ k
/-- [(piece, _law_signs(clerk, layer, None)) for piece in ..] -/
theorem go_rows {K : PySem.W.Frag} {σ : L2.St} {H : Hp} {Q : VK} {t c O : Addr} {n l i0 io j : Nat} {tl : TE} {ps : List Nat} (T : Tub H t c n) (hn : n + 9 * ps.length ≤ 100000) (hl : l < 100)
    (h0 : ((wipe σ [j]))[i0]? = some (some (.ref t))) (ho : σ[io]? = some (some (.ref O))) (hO : H O = some (.lst (ps.map fun p : Nat => V.int (p : Int)))) (hOt : O ≠ t)
    (hw : ∀ x, wipe ((wipe σ [j]).set j x) [j] = wipe σ [j]) (hj : ∀ x, ((wipe σ [j]).set j (some x))[j]? = some (some x)) (h0' : ∀ x, ((wipe σ [j]).set j (some x))[i0]? = some (some (.ref t)))
    (hv : ∀ x A, Kept t H A → Evl.Ev tl ((wipe σ [j]).set j (some x)) A (.int (l : Int)))
    (hd : ∀ D rs bl A, H D = none → D ≠ t → A D = some (.lst (rs.map V.ref)) → bl.map (·.1) = ps → RowsP A rs bl → (∀ q ∈ bl, SgOk l q.2) → Kept t H A → Tub A t c (n + 9 * ps.length) → Q (.ref D) A) :
    tLc (iList K (tVar io)) (gName j) tYes (tTup (tCons (tVar j) (tCons (tCall spSigns [] E0 (tCons (tVar i0) (tCons tl (tCons (tC .non) tNil)))) tNil))) [j] σ H Q := by
  obtain ⟨o, ht⟩ := tub_at T
  have hb : but t H O = some (.lst (ps.map fun p : Nat => V.int (p : Int))) := by rw [but_at hOt]; exact hO
  have hlen : (ps.map fun p : Nat => V.int (p : Int)).length = ps.length := List.length_map _
  refine go_lcT ht (ei_list (K := K) (Evl.ev_var ho) (Evl.sq_of hb)) (aims_at (j := j)) (fun _ => hw _) (by omega)
    (fun i acc A => ∃ rs bl, acc = rs.map V.ref ∧ bl.map (·.1) = ps.take i ∧ RowsP A rs bl ∧ (∀ q ∈ bl, SgOk l q.2) ∧ Tub A t c (n + 9 * i))
    (fun H2 e2 => ⟨[], [], rfl, by rw [List.take_zero]; rfl, ⟨rfl, (fun i r q a _ => by simp at a)⟩, (fun q hq => by cases hq), T.ex e2⟩)
    (fun i acc A B ⟨rs, bl, a1, a2, a3, a4, a5⟩ e => ⟨rs, bl, a1, a2, a3.ex e, a4, a5.ex e⟩)
    (fun i acc A D l1 l2 D0 Dt hD ⟨rs, bl, a1, a2, a3, a4, a5⟩ => ⟨rs, bl, a1, a2, a3.mono (pair_upd hD), a4, a5.upd Dt (T.ne D0).2⟩)
    (fun i acc A F1 F2 hi kA hacc ⟨rs, bl, a1, a2, a3, a4, a5⟩ f1 f2 => ?_) (fun D acc A D0 Dt hD hle kA ⟨rs, bl, a1, a2, a3, a4, a5⟩ => ?_)
  · rw [hlen] at hi
    have gi : (ps.map fun p : Nat => V.int (p : Int)).getD i .non = .int ((ps[i] : Nat) : Int) := by
      rw [List.getD_eq_getElem?_getD, List.getElem?_map, List.getElem?_eq_getElem hi]
      rfl
    rw [gi]
    refine yes_at (P := fun H3 => _) ?_
    refine ⟨_, hj _, cons_any (call_go (Evl.ea_cons (Evl.ev_var (h0' _)) (Evl.ea_cons (hv _ _ kA) (Evl.ea_cons Evl.ev_c Evl.ea_nil))) fun A2 e2 => ⟨t, c, n + 9 * i, l, .non, rfl, .inl rfl, hl, a5.ex e2, by omega, fun b H4 hb4 k4 T4 => ⟨by show 2 ≤ sizeLine; decide, fun R hR => ?_⟩⟩)⟩
    have k24 : ∀ a o, a ≠ t → A a = some o → upd H4 R (.tup [.int ((ps[i] : Nat) : Int), .str (sS b)]) a = some o := fun a o ha h => by
      have := k4 a o ha (e2 _ _ h)
      rw [upd_ne (ne_of_none this hR)]
      exact this
    refine f1 (.ref R) _ k24 ⟨rs ++ [R], bl ++ [(ps[i], b)], by rw [a1, List.map_append]; rfl, by rw [List.map_append, a2, List.take_succ_eq_append_getElem hi]; rfl, ?_, ?_, ?_⟩
    · refine RowsP.snoc (a3.mono fun r q hp => pair_kept a5 k24 r q hp) ?_
      exact upd_same
    · intro q hq
      rcases List.mem_append.mp hq with hq | hq
      · exact a4 q hq
      · obtain rfl := List.mem_singleton.mp hq
        exact hb4.sg
    · refine Tub.mono (T4.same (same_new hR)) (by omega)
  · rw [hlen] at a2 a5
    rw [List.take_length] at a2
    rw [a1] at hD
    exact hd D rs bl A D0 Dt hD a2 a3 a4 kA a5
end P61
end S_Jn
section S_Jo
namespace P61
open PySem PySem.Spec PyProof.Rows L2 Tl Hk
theorem scLLabel : FnScope ["clerk", "seat", "others", "near", "piece"] ["clerk"] (defScope sLLabel) := ⟨rfl, rfl, rfl, by decide +kernel, rfl, by decide +kernel, by decide +kernel⟩
def spLabel : Sp := fun vs H Q _ => ∃ (t c : Addr) (n : Nat), vs = [.ref t] ∧ Tub H t c n ∧ n ≤ 50000 ∧ ∀ A L H', L.Ok → L.l < 4 → LabAt H' A L → Kept t H H' → Tub H' t c (n + 60) → Q (.ref A) H'
theorem lb_ok {p l n : Nat} {b : List Bool} {bl : List (Nat × List Bool)} (hp : p < 10) (hl : l < 10) (hn : n < 3) (hb : Bars l (.int (n : Int)) 9 b) (h1 : bl.length ≤ 3) (h2 : (bl.map (·.1)).Pairwise (· < ·)) (h3 : p ∉ bl.map (·.1)) (h4 : ∀ k ∈ bl.map (·.1), k < 10) (h5 : ∀ q ∈ bl, SgOk l q.2) : Lb.Ok ⟨p, l, n, (p, b) :: bl⟩ where
  hp := hp
  hl := hl
  hn := hn
  len := by show bl.length + 1 ≤ 4; omega
  head := ⟨b, bl, rfl, h2, h3⟩
  own := fun q hq e => by
    rcases List.mem_cons.mp hq with rfl | hq
    · refine hb.2 (3 + n) (by omega) ?_
      unfold barB
      have : decide (((3 + n : Nat) : Int) = 3 + (n : Int)) = true := decide_eq_true (by omega)
      show (_ || decide (((3 + n : Nat) : Int) = 3 + (n : Int))) = true
      rw [this, Bool.or_true]
    · exact absurd (List.mem_map.mpr ⟨q, hq, e⟩) h3
  each := fun q hq => by
    rcases List.mem_cons.mp hq with rfl | hq
    · exact ⟨hp, hb.sg⟩
    · exact ⟨h4 _ (List.mem_map.mpr ⟨q, hq, rfl⟩), h5 q hq⟩
abbrev teOthers (K : PySem.W.Frag) : TE := tLc (iRng1 (tCons (tC (.int 7)) tNil)) (gName 4) (tAnd (tTest (tOp rNe (tVar 4) (tOp (rIxT K) (tVar 1) (tC (.int 0))))) (tTest (tOp rEq (tCall spScoop [] E0 (tCons (tVar 0) (tCons (tC (.int 3)) tNil))) (tC (.int 0))))) (tVar 4) [4]
section
variable {P : Program} {w : World} {K : PySem.W.Frag} {mg : Str → Option Value} {base : Heap}
theorem go_others {σ : L2.St} {H : Hp} {Q : VK} {t c S : Addr} {n p l m : Nat} (T : Tub H t c n) (hn : n ≤ 60000) (hS : SeatAt H S p l m) (h0 : σ = [some (.ref t), some (.ref S), none, none, none])
    (hd : ∀ (D : Addr) (ps : List Nat) (A : Hp), H D = none → D ≠ t → A D = some (.lst (ps.map fun k : Nat => V.int (k : Int))) → ps.Pairwise (· < ·) → (∀ k ∈ ps, k < 7 ∧ k ≠ p) → ps.length ≤ 7 → Kept t H A → Tub A t c (n + 7) → Q (.ref D) A) : teOthers K σ H Q := by
  subst h0
  obtain ⟨o, ht⟩ := tub_at T
  have St : S ≠ t := fun z => by
    obtain ⟨cs, turn, rest, h1, _⟩ := T
    have hS : H S = _ := hS
    rw [z, h1] at hS
    cases hS
  refine go_lcT (n := (7 : Int).toNat) ht (ei_rng1 (Evl.ea_cons Evl.ev_c Evl.ea_nil) (by decide) (by decide)) (aims_fn (j := 4)) (fun _ => rfl) (by decide)
    (fun i acc A => ∃ ps : List Nat, acc = ps.map (fun k : Nat => V.int (k : Int)) ∧ ps.Pairwise (· < ·) ∧ (∀ k ∈ ps, k < i ∧ k ≠ p) ∧ ps.length ≤ i ∧ Tub A t c (n + i))
    (fun H2 e2 => ⟨[], rfl, List.Pairwise.nil, (fun k hk => by cases hk), Nat.le_refl _, T.ex e2⟩)
    (fun i acc A B ⟨ps, a1, a2, a3, a4, a5⟩ e => ⟨ps, a1, a2, a3, a4, a5.ex e⟩)
    (fun i acc A D l1 l2 D0 Dt hD ⟨ps, a1, a2, a3, a4, a5⟩ => ⟨ps, a1, a2, a3, a4, a5.upd Dt (T.ne D0).2⟩)
    (fun i acc A F1 F2 hi kA hacc ⟨ps, a1, a2, a3, a4, a5⟩ f1 f2 => ?_) (fun D acc A D0 Dt hD hle kA ⟨ps, a1, a2, a3, a4, a5⟩ => ?_)
  · have hi : i < 7 := hi
    have hSA : A S = some (.tup [.int (p : Int), .int (l : Int), .int (m : Int)]) := kA _ _ St hS
    have skip : ∀ G, (∀ a o, a ≠ t → A a = some o → G a = some o) → Tub G t c (n + (i + 1)) → F2 G := fun G k TG => f2 G k ⟨ps, a1, a2, fun k hk => ⟨Nat.lt_succ_of_lt (a3 k hk).1, (a3 k hk).2⟩, Nat.le_succ_of_le a4, TG⟩
    refine (Evl.et_test (Evl.ev_op (x := .int (0 + (i : Int))) (y := .int (p : Int)) (Evl.ev_var rfl) (ev_at (j := 0) (Evl.ev_var rfl) hSA rfl) (Evl.rv_ne rfl))) A (Evl.Ex.refl _) _ fun A1 e1 => if_go (fun hb => ?_) (fun hb => if_go (fun z => nomatch z) fun _ => skip A1 (fun a o _ h => e1 _ _ h) ((a5.ex e1).mono (by omega)))
    have ip : i ≠ p := fun z => by
      rw [Bool.not_eq_true', decide_eq_false_iff_not] at hb
      exact hb (by rw [z, Int.zero_add])
    refine ⟨_, rfl, t, c, 3, n + i, rfl, a5.ex e1, by omega, by omega, by omega, fun r G r0 r1 k2 T2 => ⟨rfl, _, rfl, if_go (fun _ => ⟨_, rfl, f1 _ G (fun a o ha h => k2 a o ha (e1 _ _ h)) ⟨ps ++ [i], ?_, ?_, ?_, ?_, T2⟩⟩) (fun _ => skip G (fun a o ha h => k2 a o ha (e1 _ _ h)) T2)⟩⟩
    · rw [a1, List.map_append, List.map_cons, List.map_nil, Int.zero_add]
    · refine List.pairwise_append.mpr ⟨a2, List.pairwise_singleton _ _, fun x hx y hy => ?_⟩
      obtain rfl := List.mem_singleton.mp hy
      exact (a3 x hx).1
    · intro k hk
      rcases List.mem_append.mp hk with hk | hk
      · exact ⟨Nat.lt_succ_of_lt (a3 k hk).1, (a3 k hk).2⟩
      · obtain rfl := List.mem_singleton.mp hk
        exact ⟨Nat.lt_succ_self _, ip⟩
    · rw [List.length_append, List.length_singleton]
      omega
  · rw [a1] at hD
    exact hd D ps A D0 Dt hD a2 a3 a4 kA a5
set_option maxHeartbeats 1000000 in
theorem ok_label {f fS fG : Addr} {fd fdS fdG : FuncData} {k : Nat} (F : Fun K "_law_label" "_law_label" sLLabel f fd)
    (FS : Fun K "_law_mark" "_law_mark" sScoop fS fdS) (GS : FnOk P w K mg base CX0 k fS fdS ["clerk", "many"] spScoop) (bS : Binds K fdS ["clerk", "many"] []) (gS : mg "_law_mark" = some (.ref fS))
    (FG : Fun K "_law_signs" "_law_signs" sLSigns fG fdG) (GG : FnOk P w K mg base CX0 k fG fdG ["clerk", "layer", "lane"] spSigns) (bG : Binds K fdG ["clerk", "layer", "lane"] []) (gG : mg "_law_signs" = some (.ref fG)) (mrange : mg "range" = none) (mtup : mg "tuple" = none) :
    FnOk P w K mg base CX0 (k + 1) f fd ["clerk"] spLabel := by
  refine F.ok scLLabel (fun vs H Q E h => ?_) (fun cdv A outer s H vs Q E hr h => ?_)
  · obtain ⟨t, c, n, rfl, _⟩ := h
    rfl
  · obtain ⟨t, c, n, rfl, T, hn, q⟩ := h
    have nd := scLLabel.nd
    refine ⟨_, pss_cons (ps_set (i := 1) nd rfl (.inr rfl) (pe_tup (pa_cons (pe_call GS hr (by rfl) gS FS.kp bS .nil pass0 (pa_cons (pv 0) (pa_cons pe_int pa_nil))) (pa_cons (pe_call GS hr (by rfl) gS FS.kp bS .nil pass0 (pa_cons (pv 0) (pa_cons pe_int pa_nil))) (pa_cons (pe_call GS hr (by rfl) gS FS.kp bS .nil pass0 (pa_cons (pv 0) (pa_cons pe_int pa_nil))) pa_nil)))))
      (pss_cons (ps_set (i := 2) nd rfl (.inl rfl) (pe_slice sl_list (pe_lc (own := [("piece", 4)]) (g := gName 4) (tt := tAnd (tTest (tOp rNe (tVar 4) (tOp (rIxT K) (tVar 1) (tC (.int 0))))) (tTest (tOp rEq (tCall spScoop [] E0 (tCons (tVar 0) (tCons (tC (.int 3)) tNil))) (tC (.int 0))))) (te := tVar 4) rfl nd (pi_range1 (by rfl) mrange (pa_cons pe_int pa_nil)) (blkOk_by (N := ["clerk", "seat", "others", "near", "piece"]) (sc := defScope sLLabel) (by decide +kernel)) (fun _ _ _ _ _ => pg_name (i := 4) nd rfl (Or.inl rfl))
            (fun _ _ _ _ _ => pts_one (PW.pt (pw_and (pt_cmpR op_ne (pv 4) (pe_ix ix_tup (pv 1) pe_int (fun _ _ => rfl)) (nomark _)) (pw_and1 (pt_cmpR op_eq (pe_call GS hr (by rfl) gS FS.kp bS .nil pass0 (pa_cons (pv 0) (pa_cons pe_int pa_nil))) pe_int (nomark _)))))) (fun _ _ _ _ _ => pv 4)) po_none (po_some pe_int)))
      (pss_cons (ps_set (i := 3) nd rfl (.inl rfl) (pe_op op_cat (pe_lst (pa_cons (pe_tup (pa_cons (pe_ix ix_tup (pv 1) pe_int (fun _ _ => rfl)) (pa_cons (pe_call GG hr (by rfl) gG FG.kp bG .nil pass0 (pa_cons (pv 0) (pa_cons (pe_ix ix_tup (pv 1) pe_int (fun _ _ => rfl)) (pa_cons (pe_ix ix_tup (pv 1) pe_int (fun _ _ => rfl)) pa_nil)))) pa_nil))) pa_nil))
          (pe_lc (own := [("piece", 4)]) (g := gName 4) (tt := tYes) (te := tTup (tCons (tVar 4) (tCons (tCall spSigns [] E0 (tCons (tVar 0) (tCons (tOp (rIxT K) (tVar 1) (tC (.int 1))) (tCons (tC .non) tNil)))) tNil))) rfl nd (pi_list (pv 2)) (blkOk_by (N := ["clerk", "seat", "others", "near", "piece"]) (sc := defScope sLLabel) (by decide +kernel)) (fun _ _ _ _ _ => pg_name (i := 4) nd rfl (Or.inl rfl)) (fun _ _ _ _ _ => pts_nil)
            (fun _ _ _ _ _ => pe_tup (pa_cons (pv 4) (pa_cons (pe_call GG hr (by rfl) gG FG.kp bG .nil pass0 (pa_cons (pv 0) (pa_cons (pe_ix ix_tup (pv 1) pe_int (fun _ _ => rfl)) (pa_cons pe_non pa_nil)))) pa_nil))))))
      (pss_one (ps_ret (pe_tup (pa_cons (pv 1) (pa_cons (pe_callTy call_tuple_of (by rfl) mtup (by decide +kernel) (pa_cons (pv 3) pa_nil)) pa_nil))))))), ?_⟩
    refine ⟨_, rfl, t, c, 5, n, rfl, T, by omega, by omega, by omega, fun p H1 p0 p1 k1 T1 => ⟨_, rfl, t, c, 4, n + 1, rfl, T1, by omega, by omega, by omega, fun l H2 l0 l1 k2 T2 => ⟨_, rfl, t, c, 3, n + 2, rfl, T2, by omega, by omega, by omega, fun m H3 m0 m1 k3 T3 => ⟨by show 3 ≤ sizeLine; decide, fun S hS => ?_⟩⟩⟩⟩
    dsimp only [gName]
    obtain ⟨p, rfl⟩ : ∃ z : Nat, p = (z : Int) := ⟨p.toNat, by omega⟩
    obtain ⟨l, rfl⟩ : ∃ z : Nat, l = (z : Int) := ⟨l.toNat, by omega⟩
    obtain ⟨m, rfl⟩ : ∃ z : Nat, m = (z : Int) := ⟨m.toNat, by omega⟩
    have k03 := k1.trans (k2.trans k3)
    have S0 := kept_fresh k03 T T3 hS
    have St := (T.ne S0).1
    have hS4 : SeatAt (upd H3 S (.tup [.int (p : Int), .int (l : Int), .int (m : Int)])) S p l m := upd_same
    have T4 := T3.same (same_new (o := .tup [.int (p : Int), .int (l : Int), .int (m : Int)]) hS)
    have k04 := kept_mut (o := .tup [.int (p : Int), .int (l : Int), .int (m : Int)]) k03 S0
    generalize upd H3 S (.tup [.int (p : Int), .int (l : Int), .int (m : Int)]) = H4 at hS4 T4 k04 ⊢
    refine asg_go (sl_go (go_others (K := K) (n := n + 3) T4 (by omega) hS4 rfl fun D ps A D0 Dt hD pw hk hpl kA TA => ?_))
    refine ⟨3, rfl, D, _, rfl, Evl.sq_of hD, fun O hO => ?_⟩
    dsimp only [gName]
    have k05 := k04.trans kA
    have O0 := kept_fresh k05 T TA hO
    have Ot := (T.ne O0).1
    have hO5 : upd A O (.lst (cutV (ps.map fun k : Nat => V.int (k : Int)) none (some 3))) O = some (.lst ((ps.take 3).map fun k : Nat => V.int (k : Int))) := by
      rw [upd_same, show (3 : Int) = ((3 : Nat) : Int) from rfl, cutTo', List.map_take]
    have hS5 : SeatAt (upd A O (.lst (cutV (ps.map fun k : Nat => V.int (k : Int)) none (some 3)))) S p l m := same_new hO _ _ (kA _ _ St hS4)
    have T5 := TA.same (same_new (o := .lst (cutV (ps.map fun k : Nat => V.int (k : Int)) none (some 3))) hO)
    have k06 := kept_mut (o := .lst (cutV (ps.map fun k : Nat => V.int (k : Int)) none (some 3))) k05 O0
    generalize upd A O (.lst (cutV (ps.map fun k : Nat => V.int (k : Int)) none (some 3))) = H5 at hO5 hS5 T5 k06 ⊢
    have hS5' : H5 S = some (.tup [.int (p : Int), .int (l : Int), .int (m : Int)]) := hS5
    -- the first row
    refine asg_go (op_go (lst_go (cons_any (tup_go (cons_any ((ev_at (K := K) (j := 0) (Evl.ev_var rfl) hS5' rfl) H5 (Evl.Ex.refl _) _ fun H6 e6 => ?_))))))
    have hS6 := e6 _ _ hS5'
    refine cons_any (call_go (Evl.ea_cons (Evl.ev_var rfl) (Evl.ea_cons (ev_at (j := 1) (Evl.ev_var rfl) hS6 rfl) (Evl.ea_cons (ev_at (j := 2) (Evl.ev_var rfl) hS6 rfl) Evl.ea_nil))) fun H7 e7 => ⟨t, c, n + 10, l, .int (m : Int), rfl, .inr ⟨m, by omega, rfl⟩, by omega, (T5.ex e6).ex e7, by omega, fun b H8 hb k8 T8 => ⟨by show 2 ≤ sizeLine; decide, fun R hR => ⟨by show 1 ≤ sizeLine; decide, fun L1 hL1 => ?_⟩⟩⟩)
    have k08 := (k06.trans (kept_ex (e6.trans e7))).trans k8
    have R0 := kept_fresh k08 T T8 hR
    have T9 := T8.same (same_new (o := .tup [.int (p : Int), .str (sS b)]) hR)
    have k09 := kept_mut (o := .tup [.int (p : Int), .str (sS b)]) k08 R0
    have hR9 : PairAt (upd H8 R (.tup [.int (p : Int), .str (sS b)])) R (p, b) := upd_same
    have hS9 : SeatAt (upd H8 R (.tup [.int (p : Int), .str (sS b)])) S p l m := same_new hR _ _ (k8 _ _ St (e7 _ _ hS6))
    have hO9 : upd H8 R (.tup [.int (p : Int), .str (sS b)]) O = some (.lst ((ps.take 3).map fun k : Nat => V.int (k : Int))) := same_new hR _ _ (k8 _ _ Ot (e7 _ _ (e6 _ _ hO5)))
    generalize upd H8 R (.tup [.int (p : Int), .str (sS b)]) = H9 at hL1 T9 k09 hR9 hS9 hO9 ⊢
    have L0 := kept_fresh k09 T T9 hL1
    have Lt := (T.ne L0).1
    have T10 := T9.same (same_new (o := .lst [.ref R]) hL1)
    have k010 := kept_mut (o := .lst [.ref R]) k09 L0
    have hR10 : PairAt (upd H9 L1 (.lst [.ref R])) R (p, b) := same_new hL1 _ _ hR9
    have hS10 : SeatAt (upd H9 L1 (.lst [.ref R])) S p l m := same_new hL1 _ _ hS9
    have hO10 := same_new (o := .lst [.ref R]) hL1 _ _ hO9
    have hL10 : upd H9 L1 (.lst [.ref R]) L1 = some (.lst [.ref R]) := upd_same
    generalize upd H9 L1 (.lst [.ref R]) = H10 at T10 k010 hR10 hS10 hO10 hL10 ⊢
    have tl3 : (ps.take 3).length ≤ 3 := by rw [List.length_take]; omega
    refine go_rows (K := K) (σ := [some (.ref t), some (.ref S), some (.ref O), none, none]) (i0 := 0) (io := 2) (j := 4) (l := l) (n := n + 19) (ps := ps.take 3) T10 (by omega) (by omega) rfl rfl hO10 Ot (fun _ => rfl) (fun _ => rfl) (fun _ => rfl) (fun x A hA => ev_at (j := 1) (Evl.ev_var rfl) (hA _ _ St hS10) rfl) fun D rs bl A D0 Dt hD h1 h2 h3 kA TA => ?_
    refine ⟨L1, D, [.ref R], rs.map V.ref, rfl, rfl, kA _ _ Lt hL10, hD, ?_, fun N hN => ?_⟩
    · have : rs.length ≤ 3 := by rw [h2.1, ← List.length_map, h1]; exact tl3
      refine Evl.sz_of ?_
      rw [List.length_map]
      show 1 + rs.length ≤ 100000
      omega
    dsimp only [gName]
    refine ⟨_, rfl, _, rfl, N, (R :: rs).map V.ref, rfl, .inl ⟨Evl.sq_of upd_same, fun U hU => ⟨by show 2 ≤ sizeLine; decide, fun B hB => ?_⟩⟩⟩
    have k011 := k010.trans kA
    have hRA := pair_kept T10 kA _ _ hR10
    have hSA : A S = some (.tup [.int (p : Int), .int (l : Int), .int (m : Int)]) := kA _ _ St hS10
    have N0 := kept_fresh k011 T TA hN
    have T12 := TA.same (same_new (o := .lst ([.ref R] ++ rs.map V.ref)) hN)
    have k012 := kept_mut (o := .lst ([.ref R] ++ rs.map V.ref)) k011 N0
    have n12 := same_new (o := .lst ([.ref R] ++ rs.map V.ref)) hN
    generalize upd A N (.lst ([.ref R] ++ rs.map V.ref)) = H12 at hU hB T12 k012 n12 ⊢
    have U0 := kept_fresh k012 T T12 hU
    have T13 := T12.same (same_new (o := .tup ((R :: rs).map V.ref)) hU)
    have k013 := kept_mut (o := .tup ((R :: rs).map V.ref)) k012 U0
    have n13 := same_new (o := .tup ((R :: rs).map V.ref)) hU
    have hU13 : upd H12 U (.tup ((R :: rs).map V.ref)) U = some (.tup ((R :: rs).map V.ref)) := upd_same
    generalize upd H12 U (.tup ((R :: rs).map V.ref)) = H13 at hB T13 k013 n13 hU13 ⊢
    have B0 := kept_fresh k013 T T13 hB
    have n14 := same_new (o := .tup [.ref S, .ref U]) hB
    refine q B ⟨p, l, m, (p, b) :: bl⟩ _ (lb_ok (by omega) (by omega) (by omega) hb ?_ ?_ ?_ ?_ h3) (by show l < 4; omega) ⟨S, U, upd_same, n14 _ _ (n13 _ _ (n12 _ _ hSA)), R :: rs, n14 _ _ hU13, ?_⟩ (kept_mut k013 B0) ((T13.same n14).mono (by omega))
    · have := congrArg List.length h1
      rw [List.length_map] at this
      omega
    · rw [h1]
      exact pw.sublist (List.take_sublist _ _)
    · rw [h1]
      exact fun z => (hk p (List.mem_of_mem_take z)).2 rfl
    · rw [h1]
      intro k hk'
      have := (hk k (List.mem_of_mem_take hk')).1
      omega
    · exact RowsP.cons (h2.mono fun r q' hp => n14 _ _ (n13 _ _ (n12 _ _ hp))) (n14 _ _ (n13 _ _ (n12 _ _ hRA)))
end
end P61
end S_Jo
section S_Jp
namespace P61
open PySem PySem.Spec PyProof.Rows L2 Tl Hk
theorem tup_kept {H H' : Hp} {t c : Addr} {n : Nat} {a : Addr} {xs : List V} (T : Tub H t c n) (k : Kept t H H') (h : H a = some (.tup xs)) : H' a = some (.tup xs) := by
  refine k a _ (fun z => ?_) h
  obtain ⟨cs, turn, rest, h1, _⟩ := T
  rw [z, h1] at h
  cases h
theorem LabAt.kept {H H' : Hp} {t c : Addr} {n : Nat} {A : Addr} {L : Lb} (h : LabAt H A L) (T : Tub H t c n) (k : Kept t H H') : LabAt H' A L := by
  obtain ⟨S, N, a1, a2, rs, b1, b2⟩ := h
  exact ⟨S, N, tup_kept T k a1, tup_kept T k a2, rs, tup_kept T k b1, b2.mono fun r q hp => pair_kept T k r q hp⟩
theorem ei_tupU {K : PySem.W.Frag} {σ : L2.St} {H : Hp} {te : TE} {xs : List V} (h : Evl.EvU te σ H xs) : EvI (iTup K te) σ H xs.length (YAt xs) := fun H1 e R k =>
  h H1 e _ fun a H2 ha e2 hx => ⟨a, rfl, ⟨xs, Evl.st_of hx⟩, k _ _ H2 e2 walk_tup fun A _ ab => Evl.st_of (ab _ _ ha hx)⟩
theorem given_filt {α : Type} (ns : List α) (d : α) (g : α → Bool) (f : α → V) : Evl.given ns.length (fun i => g (ns.getD i d)) (fun i => f (ns.getD i d)) = (ns.filter g).map f := by
  unfold Evl.given
  have e : (List.range ns.length).map (fun i => ns.getD i d) = ns := by
    refine List.ext_getElem (by simp) fun i h1 h2 => ?_
    rw [List.getElem_map, List.getElem_range, List.getD_eq_getElem?_getD, List.getElem?_eq_getElem h2]
    rfl
  conv => rhs; rw [← e, List.filter_map, List.map_map]
  rfl
theorem cons_c {v : V} {tr : TA} {σ : L2.St} {H : Hp} {Q : List V → Hp → Prop} (h : tr σ H fun vs H2 => Q (v :: vs) H2) : tCons (tC v) tr σ H Q := h
theorem call_raw {sp : Sp} {dvs : List V} {E : XK} {ta : TA} {σ : L2.St} {H : Hp} {Q : VK} (h : ta σ H fun vs H1 => sp (vs ++ dvs) H1 Q E) : tCall sp dvs E ta σ H Q := h
theorem cb_go {r : List V → Hp → VK → Prop} {ta : TA} {σ : L2.St} {H : Hp} {Q : VK} (h : ta σ H fun vs H1 => r vs H1 Q) : tCB r ta σ H Q := h
abbrev nLN : List Str := ["clerk", "label", "seat", "near", "piece", "layer", "others", "rows", "pair", "other"]
theorem scLNear : FnScope nLN ["clerk", "label"] (defScope sLNear) := ⟨rfl, rfl, rfl, by decide +kernel, rfl, by decide +kernel, by decide +kernel⟩
def spNear : Sp := fun vs H Q _ => ∃ (t c : Addr) (n : Nat) (A0 : Addr) (L : Lb), vs = [.ref t, .ref A0] ∧ Tub H t c n ∧ n ≤ 40000 ∧ L.Ok ∧ L.l < 4 ∧ LabAt H A0 L ∧ ∀ A M H', M.Ok → LabAt H' A M → Kept t H H' → Tub H' t c (n + 200) → Q (.ref A) H'
section
variable {P : Program} {w : World} {K : PySem.W.Frag} {mg : Str → Option Value} {base : Heap}
set_option maxHeartbeats 2000000 in
theorem ok_near {f fS fG fP fL : Addr} {fd fdS fdG fdP fdL : FuncData} {k : Nat} (F : Fun K "_law_near" "_law_near" sLNear f fd)
    (FS : Fun K "_law_mark" "_law_mark" sScoop fS fdS) (GS : FnOk P w K mg base CX0 k fS fdS ["clerk", "many"] spScoop) (bS : Binds K fdS ["clerk", "many"] []) (gS : mg "_law_mark" = some (.ref fS))
    (FG : Fun K "_law_signs" "_law_signs" sLSigns fG fdG) (GG : FnOk P w K mg base CX0 k fG fdG ["clerk", "layer", "lane"] spSigns) (bG : Binds K fdG ["clerk", "layer", "lane"] []) (gG : mg "_law_signs" = some (.ref fG))
    (FP : Fun K "_law_one_of" "_law_one_of" sPick fP fdP) (GP : FnOk P w K mg base CX0 k fP fdP ["clerk", "some"] (spPick K)) (bP : Binds K fdP ["clerk", "some"] []) (gP : mg "_law_one_of" = some (.ref fP))
    (FL : Fun K "_law_label" "_law_label" sLLabel fL fdL) (GL : FnOk P w K mg base CX0 k fL fdL ["clerk"] spLabel) (bL : Binds K fdL ["clerk"] []) (gL : mg "_law_label" = some (.ref fL)) (mmax : mg "max" = none) (mtup : mg "tuple" = none) :
    FnOk P w K mg base CX0 (k + 1) f fd ["clerk", "label"] spNear := by
  refine F.ok scLNear (fun vs H Q E h => ?_) (fun cdv A outer s H vs Q E hr h => ?_)
  · obtain ⟨t, c, n, A0, L, rfl, _⟩ := h
    rfl
  · obtain ⟨t, c, n, A0, L, rfl, T, hn, hL, hL4, hA0, q⟩ := h
    have nd := scLNear.nd
    refine ⟨_, pss_cons (ps_asg (pe_call GL hr (by rfl) gL FL.kp bL .nil pass0 (pa_cons (pv 0) pa_nil)) (pg_tup (by rfl) (pgs_cons (pg_name (i := 2) nd rfl (Or.inl rfl)) (pgs_cons (pg_name (i := 3) nd rfl (Or.inl rfl)) pgs_nil))))
      (pss_cons (ps_if (pt_cmpR op_eq (pe_call GS hr (by rfl) gS FS.kp bS .nil pass0 (pa_cons (pv 0) (pa_cons pe_int pa_nil))) pe_int (nomark _)) (pss_one (ps_ret (pe_tup (pa_cons (pv 2) (pa_cons (pv 3) pa_nil))))) pss_nil)
      (pss_cons (ps_set (i := 4) nd rfl (.inr rfl) (pe_call GP hr (by rfl) gP FP.kp bP .nil pass0 (pa_cons (pv 0) (pa_cons (pe_lc (own := [("pair", 8)]) (g := gName 8) (tt := tYes) (te := tOp (rIxT K) (tVar 8) (tC (.int 0))) rfl nd (pi_tup (pe_ix ix_tup (pv 1) pe_int (fun _ _ => rfl))) (blkOk_by (N := nLN) (sc := defScope sLNear) (by decide +kernel)) (fun _ _ _ _ _ => pg_name (i := 8) nd rfl (Or.inl rfl)) (fun _ _ _ _ _ => pts_nil)
            (fun _ _ _ _ _ => pe_ix ix_tup (pv 8) pe_int (fun _ _ => rfl))) pa_nil))))
      (pss_cons (ps_set (i := 5) nd rfl (.inr rfl) (pe_callB (call_max2 (by rfl)) (by rfl) mmax (by decide +kernel) (pa_cons pe_int (pa_cons (pe_op op_add (pe_ix ix_tup (pe_ix ix_tup (pv 1) pe_int (fun _ _ => rfl)) pe_int (fun _ _ => rfl)) (pe_call GP hr (by rfl) gP FP.kp bP .nil pass0 (pa_cons (pv 0) (pa_cons (pe_lst (pa_cons (pe_un un_neg pe_int) (pa_cons pe_int (pa_cons pe_int (pa_cons pe_int (pa_cons pe_int (pa_cons pe_int pa_nil))))))) pa_nil)))) pa_nil))))
      (pss_cons (ps_set (i := 2) nd rfl (.inl rfl) (pe_tup (pa_cons (pv 4) (pa_cons (pv 5) (pa_cons (pe_call GS hr (by rfl) gS FS.kp bS .nil pass0 (pa_cons (pv 0) (pa_cons pe_int pa_nil))) pa_nil)))))
      (pss_cons (ps_setLc (i := 6) (own := [("pair", 8)]) (g := gName 8) (tt := tTest (tOp rNe (tOp (rIxT K) (tVar 8) (tC (.int 0))) (tVar 4))) (te := tOp (rIxT K) (tVar 8) (tC (.int 0))) rfl nd rfl rfl (sw_true rfl rfl rfl (by decide +kernel)) (pi_tup (pe_slice sl_tupA (pv 3) (po_some pe_int) po_none)) (blkOk_by (N := nLN) (sc := defScope sLNear) (by decide +kernel)) (fun _ _ _ _ _ => pg_name (i := 8) nd rfl (Or.inl rfl)) (fun _ _ _ _ _ => pts_one (pt_cmpR op_ne (pe_ix ix_tup (pv 8) pe_int (fun _ _ => rfl)) (pv 4) (nomark _)))
            (fun _ _ _ _ _ => pe_ix ix_tup (pv 8) pe_int (fun _ _ => rfl)))
      (pss_cons (ps_set (i := 7) nd rfl (.inl rfl) (pe_op op_cat (pe_lst (pa_cons (pe_tup (pa_cons (pv 4) (pa_cons (pe_call GG hr (by rfl) gG FG.kp bG .nil pass0 (pa_cons (pv 0) (pa_cons (pv 5) (pa_cons (pe_ix ix_tup (pv 2) pe_int (fun _ _ => rfl)) pa_nil)))) pa_nil))) pa_nil))
          (pe_lc (own := [("other", 9)]) (g := gName 9) (tt := tYes) (te := tTup (tCons (tVar 9) (tCons (tCall spSigns [] E0 (tCons (tVar 0) (tCons (tVar 5) (tCons (tC .non) tNil)))) tNil))) rfl nd (pi_list (pv 6)) (blkOk_by (N := nLN) (sc := defScope sLNear) (by decide +kernel)) (fun _ _ _ _ _ => pg_name (i := 9) nd rfl (Or.inl rfl)) (fun _ _ _ _ _ => pts_nil)
            (fun _ _ _ _ _ => pe_tup (pa_cons (pv 9) (pa_cons (pe_call GG hr (by rfl) gG FG.kp bG .nil pass0 (pa_cons (pv 0) (pa_cons (pv 5) (pa_cons pe_non pa_nil)))) pa_nil))))))
      (pss_one (ps_ret (pe_tup (pa_cons (pv 2) (pa_cons (pe_callTy call_tuple_of (by rfl) mtup (by decide +kernel) (pa_cons (pv 7) pa_nil)) pa_nil))))))))))), ?_⟩
    refine ⟨_, rfl, t, c, n, rfl, T, by omega, fun A1 M H1 hM hM4 hA1 k1 T1 => ?_⟩
    obtain ⟨S1, N1, a1, a2, rs1, a3, a4⟩ := hA1
    refine ⟨A1, _, rfl, Evl.st_of a1, rfl, _, _, rfl, _, _, rfl, rfl, ?_⟩
    dsimp only [gName]
    refine ⟨_, rfl, t, c, 4, n + 60, rfl, T1, by omega, by omega, by omega, fun r H2 r0 r1 k2 T2 => ⟨rfl, _, rfl, if_go (fun _ => ?_) (fun _ => ?_)⟩⟩
    · refine ⟨_, rfl, _, rfl, by show 2 ≤ sizeLine; decide, fun B hB => ?_⟩
      have n3 := same_new (o := .tup [.ref S1, .ref N1]) hB
      have k02 := k1.trans k2
      exact q B M _ hM ⟨S1, N1, upd_same, n3 _ _ (tup_kept T1 k2 a2), rs1, n3 _ _ (tup_kept T1 k2 a3), a4.mono fun r q hp => n3 _ _ (pair_kept T1 k2 r q hp)⟩ (kept_mut k02 (kept_fresh k02 T T2 hB)) ((T2.same n3).mono (by omega))
    dsimp only [tNext]
    have k02 := k1.trans k2
    have hA2 := hA0.kept T k02
    obtain ⟨S0, N0, b1, b2, b3⟩ := hA2
    have a3 := tup_kept T1 k2 a3
    have a4 := a4.mono fun r q hp => pair_kept T1 k2 r q hp
    have hL1 : 1 ≤ L.near.length := by
      obtain ⟨b, r, e, _⟩ := hL.head
      rw [e]; exact Nat.succ_le_succ (Nat.zero_le _)
    have hLn := hL.len
    refine asg_go (call_raw (cons_any ⟨_, rfl, cons_l (xs := (L.near.map fun q => (q.1 : Int)).map V.int) ?_ fun Pl H3 hPl e3 h3 => ⟨t, c, Pl, _, n + 61, rfl, T2.ex e3, by omega, (T2.ne hPl).1, Evl.sq_of h3, by rw [List.length_map, List.length_map]; exact hL1, by rw [List.length_map, List.length_map]; omega, fun jj v H4 hv k4 T4 => ?_⟩⟩))
    · rw [List.map_map, ← given_all L.near (0, []) (V.int ∘ fun q : Nat × List Bool => (q.1 : Int))]
      obtain ⟨rs, c1, c2⟩ := b3
      have lr : (rs.map V.ref).length = L.near.length := by rw [List.length_map, c2.1]
      rw [← lr]
      refine el_lcI (t := tYes) (vs := [8]) (fun _ => true) _ (ei_tup (K := K) (ev_at (j := 1) (Evl.ev_var (i := 1) rfl) b1 rfl) (Evl.st_of c1)) (aims_at (j := 8)) (fun _ => rfl) (by omega) (fun _ _ _ _ => et_yes) fun i G e hi _ => ?_
      rw [lr] at hi
      have hi2 : i < rs.length := by rw [c2.1]; exact hi
      have hp := c2.2 i _ _ (List.getElem?_eq_getElem hi2) (List.getElem?_eq_getElem hi)
      have x1 : (rs.map V.ref).getD i .non = .ref rs[i] := by rw [List.getD_eq_getElem?_getD, List.getElem?_map, List.getElem?_eq_getElem hi2] <;> rfl
      rw [x1, List.getD_eq_getElem?_getD, List.getElem?_eq_getElem hi]
      exact ev_at (j := 0) (Evl.ev_var rfl) (e _ _ hp) rfl
    have hm := List.mem_of_getElem? hv
    obtain ⟨z0, hz0, rfl⟩ := List.mem_map.mp hm
    obtain ⟨q0, hq0, rfl⟩ := List.mem_map.mp hz0
    obtain ⟨pc, hpc, hpc10⟩ : ∃ pc : Nat, q0.1 = pc ∧ pc < 10 := ⟨_, rfl, (hL.each q0 hq0).1⟩
    rw [hpc]
    have k24 : Kept t H2 H4 := (kept_ex e3).trans k4
    have k04 := k02.trans k24
    have a3 := tup_kept T2 k24 a3
    have a4 := a4.mono fun r q hp => pair_kept T2 k24 r q hp
    have b1 := tup_kept T2 k24 b1
    have b2 := tup_kept T2 k24 b2
    clear hm hz0 hv h3 hPl e3 k4 hpc
    refine asg_go (cb_go (cons_c (cons_any (op_go ((ev_at (K := K) (j := 1) (ev_at (j := 0) (Evl.ev_var (i := 1) rfl) b1 rfl) b2 rfl) H4 (Evl.Ex.refl _) _ fun H5 e5 => call_raw (cons_any ⟨_, rfl, cons_l (xs := [.int (-1), .int 0, .int 0, .int 1, .int 1, .int 2]) (Evl.el_lst (Evl.ea_cons (Evl.ev_un Evl.ev_c Evl.ru_neg) (Evl.ea_cons Evl.ev_c (Evl.ea_cons Evl.ev_c (Evl.ea_cons Evl.ev_c (Evl.ea_cons Evl.ev_c (Evl.ea_cons Evl.ev_c Evl.ea_nil)))))) (by show 6 ≤ 100000; decide)) fun Pl H6 hPl e6 h6 => ⟨t, c, Pl, _, n + 62, rfl, (T4.ex e5).ex e6, by omega, ((T4.ex e5).ne hPl).1, Evl.sq_of h6, by show 1 ≤ 6; decide, by show 6 ≤ 10000; decide, fun jj v H7 hv k7 T7 => ?_⟩⟩))))))
    obtain ⟨z, rfl, z1, z2⟩ : ∃ z : Int, v = .int z ∧ -1 ≤ z ∧ z ≤ 2 := by
      have hm := List.mem_of_getElem? hv
      simp only [List.mem_cons, List.not_mem_nil, or_false] at hm
      rcases hm with e | e | e | e | e | e <;> exact ⟨_, e, by decide, by decide⟩
    refine ⟨_, _, rfl, rfl, 0, _, rfl, ?_⟩
    obtain ⟨ly, hly, hly6⟩ : ∃ ly : Nat, (if (L.l : Int) + z > 0 then (L.l : Int) + z else 0) = (ly : Int) ∧ ly < 10 := by
      refine ⟨(if (L.l : Int) + z > 0 then (L.l : Int) + z else 0).toNat, ?_, ?_⟩ <;> split <;> omega
    rw [hly]
    have k47 : Kept t H4 H7 := (kept_ex (e5.trans e6)).trans k7
    have k07 := k04.trans k47
    have a3 := tup_kept T4 k47 a3
    have a4 := a4.mono fun r q hp => pair_kept T4 k47 r q hp
    clear hv h6 hPl e6 e5 k7
    refine ⟨_, rfl, _, rfl, _, rfl, t, c, 3, n + 63, rfl, T7, by omega, by omega, by omega, fun m H8 m0 m1 k8 T8 => ⟨by show 3 ≤ sizeLine; decide, fun S hS => ?_⟩⟩
    dsimp only [gName]
    obtain ⟨m, rfl⟩ : ∃ z : Nat, m = (z : Int) := ⟨m.toNat, by omega⟩
    have k08 := k07.trans k8
    have a3 := tup_kept T7 k8 a3
    have a4 := a4.mono fun r q hp => pair_kept T7 k8 r q hp
    have Sz := kept_fresh k08 T T8 hS
    have St := (T.ne Sz).1
    have nS := same_new (o := .tup [.int (pc : Int), .int (ly : Int), .int (m : Int)]) hS
    have a3 := nS _ _ a3
    have a4 := a4.mono fun r q hp => nS _ _ hp
    have hS9 : SeatAt (upd H8 S (.tup [.int (pc : Int), .int (ly : Int), .int (m : Int)])) S pc ly m := upd_same
    have T9 := T8.same nS
    have k09 := kept_mut (o := .tup [.int (pc : Int), .int (ly : Int), .int (m : Int)]) k08 Sz
    generalize upd H8 S (.tup [.int (pc : Int), .int (ly : Int), .int (m : Int)]) = H9 at a3 a4 hS9 T9 k09 ⊢
    clear nS hS
    obtain ⟨bM, r, eM, pwM, _⟩ := hM.head
    have hlr : r.length ≤ 3 := by
      have := hM.len
      rw [eM, List.length_cons] at this
      omega
    rw [eM] at a4
    match rs1, a3, a4 with
    | [], _, a4 => exact absurd a4.1 (by simp)
    | R1 :: rs', a3, a4 =>
    have a4' : RowsP H9 rs' r := ⟨by have := a4.1; simpa using this, fun i x q a b => a4.2 (i + 1) x q (by simpa using a) (by simpa using b)⟩
    have ers : ((R1 :: rs').map V.ref).drop 1 = rs'.map V.ref := rfl
    have lr' : (((R1 :: rs').map V.ref).drop 1).length = r.length := by rw [ers, List.length_map, a4'.1]
    refine Evl.q_asgL (xs := ((r.filter fun q => !decide (q.1 = pc)).map (·.1)).map fun k : Nat => V.int (k : Int)) ?_ fun O H10 hO e10 hO10 => ?_
    · rw [List.map_map, ← given_filt r (0, []) (fun q => !decide (q.1 = pc)) ((fun k : Nat => V.int (k : Int)) ∘ (·.1)), ← lr']
      have at_ : ∀ i, i < r.length → ∃ x q, (((R1 :: rs').map V.ref).drop 1).getD i .non = .ref x ∧ r.getD i (0, []) = q ∧ PairAt H9 x q := fun i hi => by
        have hi2 : i < rs'.length := by rw [a4'.1]; exact hi
        refine ⟨rs'[i], r[i], ?_, ?_, a4'.2 i _ _ (List.getElem?_eq_getElem hi2) (List.getElem?_eq_getElem hi)⟩
        · rw [ers, List.getD_eq_getElem?_getD, List.getElem?_map, List.getElem?_eq_getElem hi2] <;> rfl
        · rw [List.getD_eq_getElem?_getD, List.getElem?_eq_getElem hi] <;> rfl
      refine el_lcI (vs := [8]) _ _ (ei_tupU (K := K) (eu_slFrom1 (Evl.ev_var (i := 3) rfl) (Evl.eo_some Evl.ev_c) (Evl.st_of a3) (by rw [List.length_map, List.length_cons]; omega))) (aims_at (j := 8)) (fun _ => rfl) (by omega) (fun i G e hi => ?_) fun i G e hi _ => ?_
      · rw [lr'] at hi
        obtain ⟨x, q1, x1, x2, x3⟩ := at_ i hi
        rw [x1, x2]
        refine Evl.et_is (Evl.et_test (Evl.ev_op (ev_at (j := 0) (Evl.ev_var rfl) (e _ _ x3) rfl) (Evl.ev_var rfl) (Evl.rv_ne rfl))) ?_
        congr 1
        exact decide_eq_decide.mpr ⟨fun z => by have := V.int.inj z; omega, fun z => by rw [z]⟩
      · rw [lr'] at hi
        obtain ⟨x, q1, x1, x2, x3⟩ := at_ i hi
        rw [x1, x2]
        exact ev_at (j := 0) (Evl.ev_var rfl) (e _ _ x3) rfl
    obtain ⟨ps, hps, pw, hk, hpl⟩ : ∃ ps : List Nat, (r.filter fun q => !decide (q.1 = pc)).map (·.1) = ps ∧ ps.Pairwise (· < ·) ∧ (∀ k ∈ ps, k < 10 ∧ k ≠ pc) ∧ ps.length ≤ 3 := by
      refine ⟨_, rfl, pwM.sublist (List.filter_sublist.map _), fun k hk => ?_, ?_⟩
      · obtain ⟨q1, hq1, rfl⟩ := List.mem_map.mp hk
        obtain ⟨h1, h2⟩ := List.mem_filter.mp hq1
        refine ⟨(hM.each q1 (by rw [eM]; exact List.mem_cons_of_mem _ h1)).1, fun z => ?_⟩
        rw [z] at h2
        simp at h2
      · rw [List.length_map]
        exact Nat.le_trans (List.length_filter_le _ _) hlr
    rw [hps] at hO10
    have Oz : H O = none := kept_fresh k09 T T9 hO
    have Ot := (T.ne Oz).1
    have T10 := T9.ex e10
    have k010 := k09.trans (kept_ex e10)
    have hS10 : H10 S = some (.tup [.int (pc : Int), .int (ly : Int), .int (m : Int)]) := e10 _ _ hS9
    clear hO hps a3 a4 a4' ers lr'
    refine asg_go (op_go (lst_go (cons_any (tup_go (cons_any ⟨_, rfl, cons_any (call_go (Evl.ea_cons (Evl.ev_var rfl) (Evl.ea_cons (Evl.ev_var rfl) (Evl.ea_cons (ev_at (j := 2) (Evl.ev_var rfl) hS10 rfl) Evl.ea_nil))) fun H11 e11 => ⟨t, c, n + 64, ly, .int (m : Int), rfl, .inr ⟨m, by omega, rfl⟩, by omega, T10.ex e11, by omega, fun b H12 hb k12 T12 => ⟨by show 2 ≤ sizeLine; decide, fun R hR => ⟨by show 1 ≤ sizeLine; decide, fun L1 hL1 => ?_⟩⟩⟩)⟩)))))
    have k012 := (k010.trans (kept_ex e11)).trans k12
    have R0 := kept_fresh k012 T T12 hR
    have T13 := T12.same (same_new (o := .tup [.int (pc : Int), .str (sS b)]) hR)
    have k013 := kept_mut (o := .tup [.int (pc : Int), .str (sS b)]) k012 R0
    have hR13 : PairAt (upd H12 R (.tup [.int (pc : Int), .str (sS b)])) R (pc, b) := upd_same
    have hS13 : SeatAt (upd H12 R (.tup [.int (pc : Int), .str (sS b)])) S pc ly m := same_new hR _ _ (k12 _ _ St (e11 _ _ hS10))
    have hO13 : upd H12 R (.tup [.int (pc : Int), .str (sS b)]) O = some (.lst (ps.map fun k : Nat => V.int (k : Int))) := same_new hR _ _ (k12 _ _ Ot (e11 _ _ hO10))
    generalize upd H12 R (.tup [.int (pc : Int), .str (sS b)]) = H13 at hL1 T13 k013 hR13 hS13 hO13 ⊢
    have L0 := kept_fresh k013 T T13 hL1
    have Lt := (T.ne L0).1
    have T14 := T13.same (same_new (o := .lst [.ref R]) hL1)
    have k014 := kept_mut (o := .lst [.ref R]) k013 L0
    have hR14 : PairAt (upd H13 L1 (.lst [.ref R])) R (pc, b) := same_new hL1 _ _ hR13
    have hS14 : SeatAt (upd H13 L1 (.lst [.ref R])) S pc ly m := same_new hL1 _ _ hS13
    have hO14 := same_new (o := .lst [.ref R]) hL1 _ _ hO13
    have hL14 : upd H13 L1 (.lst [.ref R]) L1 = some (.lst [.ref R]) := upd_same
    generalize upd H13 L1 (.lst [.ref R]) = H14 at T14 k014 hR14 hS14 hO14 hL14 ⊢
    refine go_rows (K := K) (σ := [some (.ref t), some (.ref A0), some (.ref S), some (.ref N1), some (.int (pc : Int)), some (.int (ly : Int)), some (.ref O), none, none, none]) (i0 := 0) (io := 6) (j := 9) (l := ly) (n := n + 73) (ps := ps) T14 (by omega) (by omega) rfl rfl hO14 Ot (fun _ => rfl) (fun _ => rfl) (fun _ => rfl) (fun x A hA => Evl.ev_var rfl) fun D rs bl A D0 Dt hD h1 h2 h3 kA TA => ?_
    refine ⟨L1, D, [.ref R], rs.map V.ref, rfl, rfl, kA _ _ Lt hL14, hD, ?_, fun N hN => ?_⟩
    · have : rs.length ≤ 3 := by rw [h2.1, ← List.length_map, h1]; exact hpl
      refine Evl.sz_of ?_
      rw [List.length_map]
      show 1 + rs.length ≤ 100000
      omega
    dsimp only [gName]
    refine ⟨_, rfl, _, rfl, N, (R :: rs).map V.ref, rfl, .inl ⟨Evl.sq_of upd_same, fun U hU => ⟨by show 2 ≤ sizeLine; decide, fun B hB => ?_⟩⟩⟩
    have k015 := k014.trans kA
    have hRA := pair_kept T14 kA _ _ hR14
    have hSA : A S = some (.tup [.int (pc : Int), .int (ly : Int), .int (m : Int)]) := kA _ _ St hS14
    have N0 := kept_fresh k015 T TA hN
    have T16 := TA.same (same_new (o := .lst ([.ref R] ++ rs.map V.ref)) hN)
    have k016 := kept_mut (o := .lst ([.ref R] ++ rs.map V.ref)) k015 N0
    have n16 := same_new (o := .lst ([.ref R] ++ rs.map V.ref)) hN
    generalize upd A N (.lst ([.ref R] ++ rs.map V.ref)) = H16 at hU hB T16 k016 n16 ⊢
    have U0 := kept_fresh k016 T T16 hU
    have T17 := T16.same (same_new (o := .tup ((R :: rs).map V.ref)) hU)
    have k017 := kept_mut (o := .tup ((R :: rs).map V.ref)) k016 U0
    have n17 := same_new (o := .tup ((R :: rs).map V.ref)) hU
    have hU17 : upd H16 U (.tup ((R :: rs).map V.ref)) U = some (.tup ((R :: rs).map V.ref)) := upd_same
    generalize upd H16 U (.tup ((R :: rs).map V.ref)) = H17 at hB T17 k017 n17 hU17 ⊢
    have B0 := kept_fresh k017 T T17 hB
    have n18 := same_new (o := .tup [.ref S, .ref U]) hB
    refine q B ⟨pc, ly, m, (pc, b) :: bl⟩ _ (lb_ok hpc10 hly6 (by omega) hb ?_ ?_ ?_ ?_ h3) ⟨S, U, upd_same, n18 _ _ (n17 _ _ (n16 _ _ hSA)), R :: rs, n18 _ _ hU17, ?_⟩ (kept_mut k017 B0) ((T17.same n18).mono (by omega))
    · have := congrArg List.length h1
      rw [List.length_map] at this
      omega
    · rw [h1]
      exact pw
    · rw [h1]
      exact fun z => (hk pc z).2 rfl
    · rw [h1]
      exact fun k hk' => (hk k hk').1
    · exact RowsP.cons (h2.mono fun r q' hp => n18 _ _ (n17 _ _ (n16 _ _ hp))) (n18 _ _ (n17 _ _ (n16 _ _ hRA)))
end
end P61
end S_Jp
section S_Jq
namespace P61
open PySem PySem.Spec PyProof.Rows L2 Tl Hk
def flipQ (p s : Nat) (q : Nat × List Bool) : Nat × List Bool := if q.1 = p then (q.1, q.2.set s (!q.2.getD s false)) else q
def bentL (L : Lb) (p s : Nat) : Lb := ⟨L.p, L.l, L.n, L.near.map (flipQ p s)⟩
theorem flip_fst (p s : Nat) (q : Nat × List Bool) : (flipQ p s q).1 = q.1 := by
  unfold flipQ
  split <;> rfl
theorem flip_fsts (p s : Nat) (near : List (Nat × List Bool)) : (near.map (flipQ p s)).map (·.1) = near.map (·.1) := by
  rw [List.map_map]
  exact List.map_congr_left fun q _ => flip_fst p s q
theorem set_getD {b : List Bool} {s k : Nat} {y : Bool} (h : s ≠ k) : (b.set s y).getD k false = b.getD k false := by
  rw [List.getD_eq_getElem?_getD, List.getD_eq_getElem?_getD, List.getElem?_set_ne h]
theorem set_take3 {b : List Bool} {s : Nat} {y : Bool} (h : 3 ≤ s) : (b.set s y).take 3 = b.take 3 := by
  refine List.ext_getElem? fun i => ?_
  rw [List.getElem?_take, List.getElem?_take]
  split
  · rw [List.getElem?_set_ne (by omega)]
  · rfl
theorem flip_sg {p s l : Nat} {q : Nat × List Bool} (h : SgOk l q.2) (hs : l = 0 → 3 ≤ s) : SgOk l (flipQ p s q).2 := by
  unfold flipQ
  split
  · exact ⟨by rw [List.length_set]; exact h.1, fun z => by rw [set_take3 (hs z)]; exact h.2 z⟩
  · exact h
theorem bent_ok {L M : Lb} (hL : L.Ok) (h1 : M.l ≤ L.l + 1) (h2 : L.l ≤ M.l + 1) (hn : M.n < 3) (hne : ¬(L.p = M.p ∧ L.l = M.l ∧ L.n = M.n)) : (bentL L M.p (spot L.l M.l M.n)).Ok where
  hp := hL.hp
  hl := hL.hl
  hn := hL.hn
  len := by show (L.near.map _).length ≤ 4; rw [List.length_map]; exact hL.len
  head := by
    obtain ⟨b, r, e, p1, p2⟩ := hL.head
    refine ⟨(flipQ M.p (spot L.l M.l M.n) (L.p, b)).2, r.map (flipQ M.p (spot L.l M.l M.n)), ?_, ?_, ?_⟩
    · show L.near.map _ = _
      rw [e, List.map_cons]
      congr 1
      exact Prod.ext (flip_fst _ _ _) rfl
    · rw [flip_fsts]; exact p1
    · rw [flip_fsts]; exact p2
  own := fun q' hq e => by
    obtain ⟨q, hq2, rfl⟩ := List.mem_map.mp hq
    rw [flip_fst] at e
    have e : q.1 = L.p := e
    have ho := hL.own q hq2 e
    have hn1 := hL.hn
    show (flipQ M.p (spot L.l M.l M.n) q).2.getD (3 + L.n) false = false
    unfold flipQ
    split
    · rename_i hp
      rw [set_getD]
      · exact ho
      · intro z
        unfold spot at z
        exact hne ⟨by omega, by omega, by omega⟩
    · exact ho
  each := fun q' hq => by
    obtain ⟨q, hq2, rfl⟩ := List.mem_map.mp hq
    obtain ⟨a1, a2⟩ := hL.each q hq2
    refine ⟨by rw [flip_fst]; exact a1, flip_sg a2 fun z => ?_⟩
    unfold spot
    have z : L.l = 0 := z
    omega
theorem tied_comm (A B : Lb) : tiedB A B = tiedB B A := by
  unfold tiedB
  exact Bool.or_comm _ _
theorem tied_own {L : Lb} (hL : L.Ok) : tiedB L L = false := by
  have h : tellsB L L.p L.l L.n = false := by
    unfold tellsB
    have : L.near.any (bitB L.p (spot L.l L.l L.n)) = false := by
      rw [List.any_eq_false]
      intro q hq z
      unfold bitB at z
      rw [Bool.and_eq_true_iff] at z
      have e := of_decide_eq_true z.1
      have := hL.own q hq e
      have es : spot L.l L.l L.n = 3 + L.n := by unfold spot; omega
      rw [es, this] at z
      cases z.2
    rw [this, Bool.and_false]
  unfold tiedB
  rw [h]
  rfl
theorem flip_str {b : List Bool} {s : Nat} (h : s < b.length) (y : Bool) : cutS (sS b) none (some (s : Int)) ++ chS y ++ cutS (sS b) (some ((s + 1 : Nat) : Int)) none = sS (b.set s y) := by
  refine TL.ext_tl ?_
  have hl := sS_len b
  have e1 : TL.tl (cutS (sS b) none (some (s : Int))) = (b.map sg).take s := by
    unfold cutS
    rw [HT.sIx_none, HT.sIx_nat, hl, Nat.min_eq_left (Nat.le_of_lt h)]
    rfl
  have e2 : TL.tl (cutS (sS b) (some ((s + 1 : Nat) : Int)) none) = (b.map sg).drop (s + 1) := by
    unfold cutS
    rw [HT.sIx_none, HT.sIx_nat, hl, Nat.min_eq_left h]
    show ((b.map sg).drop (s + 1)).take (b.length - (s + 1)) = _
    exact List.take_of_length_le (by rw [List.length_drop, List.length_map]; exact Nat.le_refl _)
  rw [TL.tl_append, TL.tl_append, e1, e2]
  show (b.map sg).take s ++ [sg y] ++ (b.map sg).drop (s + 1) = (b.set s y).map sg
  rw [List.map_set, List.set_eq_take_append_cons_drop, if_pos (by rw [List.length_map]; exact h), List.append_assoc]
  rfl
end P61
end S_Jq
section S_Jr
namespace P61
open PySem PySem.Spec PyProof.Rows L2 Tl Hk
def swap2 {α : Type} : List α → List α → List α
  | _, [a, b] => [b, a]
  | _, r => r
def spLaw (K : PySem.W.Frag) : Sp := fun vs H Q _ => ∃ (a : Addr) (ns : List Int), vs = [.ref a] ∧ SqL K H a (ns.map V.int) ∧ ns.length ≤ 63 ∧ ∀ H', Q (.bl true) H'
abbrev nLw : List Str := ["script", "clerk", "turn", "one", "other", "texts", "due", "apart", "rows", "spot", "piece", "signs", "turned", "bent"]
theorem scLaw : FnScope nLw ["script"] (defScope sLaw) := ⟨rfl, rfl, rfl, by decide +kernel, rfl, by decide +kernel, by decide +kernel⟩
theorem ev_repr2 {K : PySem.W.Frag} {te : TE} {σ : L2.St} {H : Hp} {b : Bool} (h : Evl.EvL te σ H [.bl b, .bl b]) : Evl.Ev (tCB (rReprB K) (tCons te tNil)) σ H (.str (PyData.list [.bool b, .bool b]).shown) := fun H1 e Q q =>
  h H1 e _ fun p H2 hp e2 h2 => .inl ⟨p, .list [.bool b, .bool b], rfl, .lst (Evl.sq_of h2) (.cons (.bl b) (.cons (.bl b) .nil)), by cases b <;> rfl, by cases b <;> rfl, by cases b <;> decide, by rw [sizeLine_eq]; cases b <;> decide +kernel, q H2 e2⟩
theorem eqv_tup (ns ms : List Int) : PyData.eqv (.tuple (dz ns)) (.tuple (dz ms)) = decide (ns = ms) := PySem.W.Datum.eqv (α := List Int) ns ms
theorem et_neT2 {K : PySem.W.Frag} {σ : L2.St} {H : Hp} {ta tb : TE} {a b : Addr} {ns ms : List Int} (ha : Evl.Ev ta σ H (.ref a)) (hb : Evl.Ev tb σ H (.ref b)) (h1 : H a = some (.tup (ns.map V.int))) (h2 : H b = some (.tup (ms.map V.int))) : Evl.EvT (tTest (tOp (rNeD K) ta tb)) σ H (!decide (ns = ms)) :=
  Evl.et_test (Evl.ev_op ha hb fun H1 e Q q => by
    refine ⟨.tuple (dz ns), .tuple (dz ms), .tup (Evl.st_of (e _ _ h1)) (dp_z ns), .tup (Evl.st_of (e _ _ h2)) (dp_z ms), z_shT ns, z_shT ms, ?_⟩
    rw [eqv_tup]
    exact q H1 (Evl.Ex.refl _))
theorem spv_say {H : Hp} {A B : Addr} {L M : Lb} (h : L.Ok) (h1 : M.Ok) (h2 : LabAt H A L) (h3 : LabAt H B M) : Evl.SpV spSay [.ref A, .ref B] H (.bl (tiedB L M)) := fun H1 e Q q E => ⟨A, B, L, M, rfl, h, h1, h2.ex e, h3.ex e, q⟩
theorem ev_callN {sp : Sp} {gV : List V → List V → List V} {E : XK} {tk : TA} {σ : L2.St} {H : Hp} {zs : List V} {m : Nat} {v : V} (h : Evl.EvA tk σ H zs) (hm : zs.length = m) (hs : Evl.SpV sp (gV [] zs) H v) : Evl.Ev (tCallN 0 m sp gV E tNil tk) σ H v := fun H1 e Q q =>
  h H1 e _ fun H2 e2 => ⟨rfl, hm, hs H2 (e.trans e2) Q (fun H3 e3 => q H3 (e2.trans e3)) E⟩
theorem et_chain {σ : L2.St} {H : Hp} {ta tb tc : TE} {i j k : Int} (h1 : Evl.Ev ta σ H (.int i)) (h2 : Evl.Ev tb σ H (.int j)) (h3 : Evl.Ev tc σ H (.int k)) : Evl.EvT (tTest (tChain (rI0 fun i j => .bl (decide (i ≤ j))) (rI0 fun i j => .bl (decide (i ≤ j))) ta tb tc)) σ H (decide (i ≤ j) && decide (j ≤ k)) := fun H1 e Q q =>
  h1 H1 e _ fun H2 e2 => h2 H2 (e.trans e2) _ fun H3 e3 => ⟨i, j, rfl, rfl, decide (i ≤ j), rfl, if_go (fun hb => h3 H3 ((e.trans e2).trans e3) _ fun H4 e4 => ⟨j, k, rfl, rfl, decide (j ≤ k), rfl, by rw [hb, Bool.true_and] at q; exact q H4 ((e2.trans e3).trans e4)⟩) (fun hb => ⟨false, rfl, by rw [hb, Bool.false_and] at q; exact q H3 (e2.trans e3)⟩)⟩
theorem ev_slS {σ : L2.St} {H : Hp} {te : TE} {tl th : TO} {z : Str} {lo hi : Option Int} (h : Evl.Ev te σ H (.str z)) (h1 : Evl.EvO tl σ H lo) (h2 : Evl.EvO th σ H hi) (hz : z.length ≤ sizeLine) : Evl.Ev (tSl rSlS te tl th) σ H (.str (cutS z lo hi)) := fun H1 e Q q =>
  h H1 e _ fun H2 e2 => h1 H2 (e.trans e2) _ fun H3 e3 => h2 H3 ((e.trans e2).trans e3) _ fun H4 e4 => ⟨z, rfl, hz, q H4 ((e2.trans e3).trans e4)⟩
theorem rv_cat {H : Hp} {x y : Str} (h : x.length + y.length ≤ sizeLine) : Evl.RV (fun x y H Q => ∃ i j, x = V.str i ∧ y = V.str j ∧ i.length + j.length ≤ sizeLine ∧ Q (.str (i ++ j)) H) (.str x) (.str y) H (.str (x ++ y)) := fun H1 e Q q => ⟨x, y, rfl, rfl, h, q H1 (Evl.Ex.refl _)⟩
theorem _root_.Evl.SpV.is {sp : Sp} {vs : List V} {H : Hp} {v w : V} (h : Evl.SpV sp vs H v) (e : v = w) : Evl.SpV sp vs H w := e ▸ h
theorem par_go {i j : Nat} {ta : TA} {tz : TS} {D : Ends} {σ : L2.St} {H : Hp} (h : ta σ H fun vs H1 => ∃ v w, vs = [v, w] ∧ tz D ((σ.set i (some v)).set j (some w)) H1) : tSeq (tPar i j ta) tz D σ H := h
section
variable {P : Program} {w : World} {K : PySem.W.Frag} {mg : Str → Option Value} {base : Heap}
set_option maxHeartbeats 4000000 in
theorem ok_law {f fT fLa fNe fTx fTi fAr fLt : Addr} {fd fdT fdLa fdNe fdTx fdTi fdAr fdLt : FuncData} {k : Nat} (F : Fun K "law" "law" sLaw f fd)
    (FT : Fun K "_law_clerk" "_law_clerk" sTub fT fdT) (GT : FnOk P w K mg base CX0 (k + 1) fT fdT ["script"] (spTub K)) (bT : Binds K fdT ["script"] []) (gT : mg "_law_clerk" = some (.ref fT))
    (FLa : Fun K "_law_label" "_law_label" sLLabel fLa fdLa) (GLa : FnOk P w K mg base CX0 (k + 1) fLa fdLa ["clerk"] spLabel) (bLa : Binds K fdLa ["clerk"] []) (gLa : mg "_law_label" = some (.ref fLa))
    (FNe : Fun K "_law_near" "_law_near" sLNear fNe fdNe) (GNe : FnOk P w K mg base CX0 (k + 1) fNe fdNe ["clerk", "label"] spNear) (bNe : Binds K fdNe ["clerk", "label"] []) (gNe : mg "_law_near" = some (.ref fNe))
    (FTx : Fun K "_law_text" "_law_text" sLText fTx fdTx) (GTx : FnOk P w K mg base CX0 (k + 1) fTx fdTx ["label"] spLText) (bTx : Binds K fdTx ["label"] []) (gTx : mg "_law_text" = some (.ref fTx))
    (FTi : Fun K "_law_tied" "_law_tied" sLTied fTi fdTi) (GTi : FnOk P w K mg base CX0 (k + 1) fTi fdTi ["one", "other"] spSay) (bTi : Binds K fdTi ["one", "other"] []) (gTi : mg "_law_tied" = some (.ref fTi))
    (FAr : Fun K "are_tied" "are_tied" sAreTied fAr fdAr) (GAr : FnOk P w K mg base CX0 (k + 1) fAr fdAr ["one", "other"] spAre) (bAr : Binds K fdAr ["one", "other"] []) (kAr : KBn K fdAr ["one", "other"] 0 ["other", "one"] swap2 swap2) (gAr : mg "are_tied" = some (.ref fAr))
    (FLt : Fun K "label_text" "label_text" sLabelText fLt fdLt) (GLt : FnOk P w K mg base CX0 (k + 1) fLt fdLt ["seat", "near"] spLabelText) (bLt : Binds K fdLt ["seat", "near"] []) (gLt : mg "label_text" = some (.ref fLt))
    (mrange : mg "range" = none) (mrepr : mg "repr" = none) (mtup : mg "tuple" = none) :
    FnG P w K mg base (k + 2) f fd ["script"] (spLaw K) := by
  refine fn_g F scLaw (fun {vs H Q E} h => ?_) (fun cdv A outer s H vs Q E hgd hr h => ?_)
  · obtain ⟨a, ns, rfl, _⟩ := h
    rfl
  · obtain ⟨a, ns, rfl, hS, hl, q⟩ := h
    have nd := scLaw.nd
    refine ⟨_, pss_cons (ps_set (i := 1) nd rfl (.inl rfl) (pe_call GT hr (by rfl) gT FT.kp bT .nil pass0 (pa_cons (pv 0) pa_nil)))
      (pss_cons (ps_for PassesOwn.never rfl (pi_range1 (by rfl) mrange (pa_cons pe_int pa_nil)) (pg_name (i := 2) nd rfl (.inl rfl))
        (pss_cons (ps_set (i := 3) nd rfl (.inl rfl) (pe_call GLa hr (by rfl) gLa FLa.kp bLa .nil pass0 (pa_cons (pv 1) pa_nil)))
        (pss_cons (ps_set (i := 4) nd rfl (.inl rfl) (pe_call GNe hr (by rfl) gNe FNe.kp bNe .nil pass0 (pa_cons (pv 1) (pa_cons (pv 3) pa_nil))))
        (pss_cons (ps_set (i := 5) nd rfl (.inl rfl) (pe_lst (pa_cons (pe_call GTx hr (by rfl) gTx FTx.kp bTx .nil pass0 (pa_cons (pv 3) pa_nil)) (pa_cons (pe_call GTx hr (by rfl) gTx FTx.kp bTx .nil pass0 (pa_cons (pv 4) pa_nil)) pa_nil))))
        (pss_cons (ps_set (i := 6) nd rfl (.inl rfl) (pe_call GTi hr (by rfl) gTi FTi.kp bTi .nil pass0 (pa_cons (pv 3) (pa_cons (pv 4) pa_nil))))
        (pss_cons (ps_if (pt_cmpR op_ne (pe_callB (call_reprB hgd hr.units) (by rfl) mrepr (by decide +kernel) (pa_cons (pe_lst (pa_cons (pe_call GAr hr (by rfl) gAr FAr.kp bAr .nil pass0 (pa_cons (pe_ix ix_list (pv 5) pe_int (fun _ _ => rfl)) (pa_cons (pe_ix ix_list (pv 5) pe_int (fun _ _ => rfl)) pa_nil)))
              (pa_cons (pe_callN0 GAr hr (by rfl) gAr FAr.kp kAr pass0 (pk_cons (pe_ix ix_list (pv 5) pe_int (fun _ _ => rfl)) (pk_cons (pe_ix ix_list (pv 5) pe_int (fun _ _ => rfl)) pk_nil))) pa_nil))) pa_nil))
            (pe_callB (call_reprB hgd hr.units) (by rfl) mrepr (by decide +kernel) (pa_cons (pe_lst (pa_cons (pv 6) (pa_cons (pv 6) pa_nil))) pa_nil)) (nomark _)) (pss_one (ps_ret pe_bl)) pss_nil)
        (pss_cons (ps_if (pt_cmpR op_isnot_bl (pe_call GAr hr (by rfl) gAr FAr.kp bAr .nil pass0 (pa_cons (pe_ix ix_list (pv 5) pe_int (fun _ _ => rfl)) (pa_cons (pe_ix ix_list (pv 5) pe_int (fun _ _ => rfl)) pa_nil))) pe_bl (nomark _)) (pss_one (ps_ret pe_bl)) pss_nil)
        (pss_cons (ps_set (i := 7) nd rfl (.inl rfl) (pe_op op_sub (pe_ix ix_tup (pe_ix ix_tup (pv 4) pe_int (fun _ _ => rfl)) pe_int (fun _ _ => rfl)) (pe_ix ix_tup (pe_ix ix_tup (pv 3) pe_int (fun _ _ => rfl)) pe_int (fun _ _ => rfl))))
        (pss_one (ps_if (PW.pt (pw_and (pt_chain op_le op_le (pe_un un_neg pe_int) (pv 7) pe_int) (pw_and1 (pt_cmpR (op_neD hr.units) (pe_ix ix_tup (pv 3) pe_int (fun _ _ => rfl)) (pe_ix ix_tup (pv 4) pe_int (fun _ _ => rfl)) (nomark _)))))
          (pss_cons (ps_par (i := 8) (j := 9) (by rfl) nd rfl rfl (by decide) rfl rfl (pa_cons (pe_lst pa_nil) (pa_cons (pe_op op_add (pe_op op_mul pe_int (pe_op op_add (pv 7) pe_int)) (pe_ix ix_tup (pe_ix ix_tup (pv 4) pe_int (fun _ _ => rfl)) pe_int (fun _ _ => rfl))) pa_nil)) (by rfl))
          (pss_cons (ps_for PassesOwn.never rfl (pi_tup (pe_ix ix_tup (pv 3) pe_int (fun _ _ => rfl))) (pg_tup (by rfl) (pgs_cons (pg_name (i := 10) nd rfl (Or.inl rfl)) (pgs_cons (pg_name (i := 11) nd rfl (Or.inl rfl)) pgs_nil)))
            (pss_cons (ps_set (i := 12) nd rfl (.inl rfl) (pe_ifExp (pt_cmpR op_eq (pe_ix ix_str (pv 11) (pv 9) (fun _ _ => rfl)) pe_str (nomark _)) pe_str pe_str))
            (pss_one (ps_expr (pe_bm PySem.F.plainAttrs_list PySem.F.slot_list_append PySem.F.type_list_append mt_append (pv 8) (pa_cons (pe_tup (pa_cons (pv 10) (pa_cons (pe_ifExp (pt_cmpR op_eq (pv 10) (pe_ix ix_tup (pe_ix ix_tup (pv 4) pe_int (fun _ _ => rfl)) pe_int (fun _ _ => rfl)) (nomark _))
                (pe_op op_add_str (pe_op op_add_str (pe_slice sl_str (pv 11) po_none (po_some (pv 9))) (pv 12)) (pe_slice sl_str (pv 11) (po_some (pe_op op_add (pv 9) pe_int)) po_none)) (pv 11)) pa_nil))) pa_nil))))))
          (pss_cons (ps_set (i := 13) nd rfl (.inl rfl) (pe_tup (pa_cons (pe_ix ix_tup (pv 3) pe_int (fun _ _ => rfl)) (pa_cons (pe_callTy call_tuple_of (by rfl) mtup (by decide +kernel) (pa_cons (pv 8) pa_nil)) pa_nil))))
          (pss_one (ps_if (pt_cmpR op_ne (pe_call GAr hr (by rfl) gAr FAr.kp bAr .nil pass0 (pa_cons (pe_call GLt hr (by rfl) gLt FLt.kp bLt .nil pass0 (pa_cons (pe_ix ix_tup (pv 13) pe_int (fun _ _ => rfl)) (pa_cons (pe_ix ix_tup (pv 13) pe_int (fun _ _ => rfl)) pa_nil))) (pa_cons (pe_ix ix_list (pv 5) pe_int (fun _ _ => rfl)) pa_nil)))
              (pe_call GTi hr (by rfl) gTi FTi.kp bTi .nil pass0 (pa_cons (pv 13) (pa_cons (pv 4) pa_nil))) (nomark _)) (pss_one (ps_ret pe_bl)) pss_nil))))) pss_nil))))))))))
      (pss_one (ps_ret pe_bl))), ?_⟩
    refine ⟨_, rfl, a, ns, rfl, hS, by omega, fun t c H1 ht hc sm T0 => ?_⟩
    dsimp only [gName]
    refine Evl.q_forR1 (n := 6) (Evl.ea_cons Evl.ev_c Evl.ea_nil) ⟨by decide, by decide⟩ (fun i σ' H' => ∃ y2 y3 y4 y5 y6 y7 y8 y9 y10 y11 y12 y13 : Option V, σ' = [some (.ref a), some (.ref t), y2, y3, y4, y5, y6, y7, y8, y9, y10, y11, y12, y13] ∧ Tub H' t c (300 * i))
      (fun H2 e2 => ⟨_, _, _, _, _, _, _, _, _, _, _, _, rfl, (T0.ex e2).mono (by omega)⟩) (fun i σ' H' hi p => ?_) (fun σ' H' p => ?_)
    · obtain ⟨y2, y3, y4, y5, y6, y7, y8, y9, y10, y11, y12, y13, rfl, T'⟩ := p
      refine ⟨_, rfl, t, c, 300 * i, rfl, T', by omega, fun A1 L H2 hL hL4 hA1 k1 T1 => ?_⟩
      dsimp only [gName]
      refine ⟨_, rfl, _, rfl, t, c, 300 * i + 60, A1, L, rfl, T1, by omega, hL, hL4, hA1, fun A2 M H3 hM hA2 k2 T2 => ?_⟩
      dsimp only [gName]
      have hA1 := hA1.kept T1 k2
      refine Evl.q_asgL (xs := [.str (txt L), .str (txt M)]) (Evl.el_lst (Evl.ea_cons (Evl.ev_call (Evl.ea_cons (Evl.ev_var rfl) Evl.ea_nil) (spv_lText hL hA1)) (Evl.ea_cons (Evl.ev_call (Evl.ea_cons (Evl.ev_var rfl) Evl.ea_nil) (spv_lText hM hA2)) Evl.ea_nil)) (by show 2 ≤ 100000; decide)) fun X H4 hX e4 h4 => ?_
      refine Evl.q_asg (v := .bl (tiedB L M)) (Evl.ev_call (Evl.ea_cons (Evl.ev_var rfl) (Evl.ea_cons (Evl.ev_var rfl) Evl.ea_nil)) (spv_say hL hM (hA1.ex e4) (hA2.ex e4))) fun H5 e5 => ?_
      have t0 : ∀ {σ : L2.St} {G : Hp}, σ[5]? = some (some (.ref X)) → Evl.Ex H4 G → Evl.Ev (tOp (rIxL K) (tVar 5) (tC (.int 0))) σ G (.str (txt L)) := fun h e => Evl.ev_op (Evl.ev_var h) Evl.ev_c (Evl.rv_ixL (Evl.sq_of (e _ _ h4)) (atI_nat (j := 0) rfl))
      have t1 : ∀ {σ : L2.St} {G : Hp}, σ[5]? = some (some (.ref X)) → Evl.Ex H4 G → Evl.Ev (tOp (rIxL K) (tVar 5) (tC (.int 1))) σ G (.str (txt M)) := fun h e => Evl.ev_op (Evl.ev_var h) Evl.ev_c (Evl.rv_ixL (Evl.sq_of (e _ _ h4)) (atI_nat (j := 1) rfl))
      refine Evl.q_when (b := false) (et_neStr (z := (PyData.list [.bool (tiedB L M), .bool (tiedB L M)]).shown) (ev_repr2 (Evl.el_lst (Evl.ea_cons (Evl.ev_call (Evl.ea_cons (t0 rfl e5) (Evl.ea_cons (t1 rfl e5) Evl.ea_nil)) (spv_are hL hM)) (Evl.ea_cons (ev_callN (Evl.ea_cons (t0 rfl e5) (Evl.ea_cons (t1 rfl e5) Evl.ea_nil)) rfl (Evl.SpV.is (spv_are hM hL) (congrArg V.bl (tied_comm M L)))) Evl.ea_nil)) (by show 2 ≤ 100000; decide))) (ev_repr2 (Evl.el_lst (Evl.ea_cons (Evl.ev_var rfl) (Evl.ea_cons (Evl.ev_var rfl) Evl.ea_nil)) (by show 2 ≤ 100000; decide)))) (fun z => nomatch z) fun _ H6 e6 => ?_
      have e46 := e5.trans e6
      refine Evl.q_when (b := false) (Evl.et_is (Evl.et_test (b := !decide (tiedB L L = false)) (Evl.ev_op (x := .bl (tiedB L L)) (y := .bl false) (z := .bl (!decide (tiedB L L = false))) (Evl.ev_call (Evl.ea_cons (t0 rfl e46) (Evl.ea_cons (t0 rfl e46) Evl.ea_nil)) (spv_are hL hL)) Evl.ev_c fun G eG Q' q' => ⟨_, _, rfl, rfl, q' G (Evl.Ex.refl _)⟩)) (by rw [tied_own hL]; rfl)) (fun z => nomatch z) fun _ H7 e7 => ?_
      have e47 := e46.trans e7
      have T7 := (T2.ex e4).ex e47
      have hA7 := (hA1.ex e4).ex e47
      have hB7 := (hA2.ex e4).ex e47
      obtain ⟨S1, N1, a1, a2, a3⟩ := id hA7
      obtain ⟨S2, N2, b1, b2, b3⟩ := id hB7
      have hLl := hL.hl
      have hLn := hL.hn
      have hMl := hM.hl
      have hMn := hM.hn
      refine Evl.q_asg (v := .int ((M.l : Int) - (L.l : Int))) (Evl.ev_op (ev_at (j := 1) (ev_at (j := 0) (Evl.ev_var rfl) b1 rfl) b2 rfl) (ev_at (j := 1) (ev_at (j := 0) (Evl.ev_var rfl) a1 rfl) a2 rfl) Evl.rv_I0) fun H8 e8 => ?_
      refine Evl.s_when (b := decide (M.l ≤ L.l + 1 ∧ L.l ≤ M.l + 1) && !decide (([L.p, L.l, L.n] : List Nat).map (fun k : Nat => (k : Int)) = ([M.p, M.l, M.n] : List Nat).map (fun k : Nat => (k : Int)))) (Evl.et_and (Evl.et_is (et_chain (Evl.ev_un Evl.ev_c Evl.ru_neg) (Evl.ev_var rfl) Evl.ev_c) ?_) fun _ => et_neT2 (ev_at (j := 0) (Evl.ev_var rfl) (e8 _ _ a1) rfl) (ev_at (j := 0) (Evl.ev_var rfl) (e8 _ _ b1) rfl) (e8 _ _ a2) (e8 _ _ b2)) (fun hb H9 e9 => ?_) (fun hb H9 e9 => ⟨_, _, _, _, _, _, _, _, _, _, _, _, rfl, ((T7.ex e8).ex e9).mono (by omega)⟩)
      · rw [← Bool.decide_and]
        exact decide_eq_decide.mpr ⟨fun ⟨z1, z2⟩ => ⟨by omega, by omega⟩, fun ⟨z1, z2⟩ => ⟨by omega, by omega⟩⟩
      rw [Bool.and_eq_true_iff] at hb
      obtain ⟨hb1, hb2⟩ := hb
      obtain ⟨z1, z2⟩ := of_decide_eq_true hb1
      have hne : ¬(L.p = M.p ∧ L.l = M.l ∧ L.n = M.n) := fun ⟨u1, u2, u3⟩ => by
        rw [u1, u2, u3, decide_eq_true rfl] at hb2
        cases hb2
      have hbent := bent_ok hL z1 z2 hMn hne
      obtain ⟨s, hs, hs9⟩ : ∃ s, spot L.l M.l M.n = s ∧ s < 9 := ⟨_, rfl, by unfold spot; omega⟩
      rw [hs] at hbent
      have e79 := e8.trans e9
      have a1 := e79 _ _ a1
      have a2 := e79 _ _ a2
      have b1 := e79 _ _ b1
      have b2 := e79 _ _ b2
      have a3 := a3.ex e79
      have hB9 := hB7.ex e79
      have hX9 : Evl.Ex H4 H9 := e47.trans e79
      have T9 := T7.ex e79
      clear e8 e9 e79 hA7 hB7 e7 e6 e5 e46 e47 T7
      refine par_go (cons_l (xs := []) (Evl.el_lst Evl.ea_nil (Nat.zero_le _)) fun Rw H10 hRw e10 h10 => cons_v (v := .int (s : Int)) (Evl.ev_is (Evl.ev_op (Evl.ev_op Evl.ev_c (Evl.ev_op (Evl.ev_var rfl) Evl.ev_c Evl.rv_I0) (Evl.rv_I (.inl ⟨by omega, by omega⟩))) (ev_at (j := 2) (ev_at (j := 0) (Evl.ev_var rfl) (e10 _ _ b1) rfl) (e10 _ _ b2) rfl) Evl.rv_I0) ?_) fun H11 e11 => ⟨_, _, rfl, ?_⟩)
      · rw [← hs]
        unfold spot
        congr 1
        omega
      refine q_forI (B := H9) (ei_near (K := K) (ev_at (j := 1) (Evl.ev_var (i := 3) rfl) a1 rfl) a3) (aims_near (j1 := 10) (j2 := 11)) (e10.trans e11) (fun G j σ' H' => ∃ z10 z11 z12 rs, σ' = [some (.ref a), some (.ref t), some (.int (i : Int)), some (.ref A1), some (.ref A2), some (.ref X), some (.bl (tiedB L M)), some (.int ((M.l : Int) - (L.l : Int))), some (.ref Rw), some (.int (s : Int)), z10, z11, z12, y13] ∧ H' Rw = some (.lst (rs.map V.ref)) ∧ RowsP H' rs ((L.near.map (flipQ M.p s)).take j) ∧ ∀ a o, a ≠ Rw → G a = some o → H' a = some o)
        (fun G eG => ⟨_, _, _, [], rfl, eG _ _ (e11 _ _ h10), ⟨rfl, fun _ _ _ z _ => by simp at z⟩, fun _ _ _ h => h⟩) (fun G j σ' H' eG hj p => ?_) (fun G j σ' H' H'' eG hj p e4 => ?_) (fun G σ' H' eG p => ?_)
      · obtain ⟨z10, z11, z12, rs, rfl, hR, hrs, hk⟩ := p
        exact ⟨fun a o h => hk a o (ne_of_none h hRw) (eG _ _ (e11 _ _ (e10 _ _ h))), fun a o h1 h2 => hk a o (fun z => by rw [z, e11 _ _ h10] at h1; cases h1) h2⟩
      · obtain ⟨z10, z11, z12, rs, rfl, hR, hrs, hk⟩ := p
        generalize hq : L.near.getD j (0, []) = q'
        have hq2 : L.near[j] = q' := by rw [← hq, List.getD_eq_getElem?_getD, List.getElem?_eq_getElem hj] <;> rfl
        have hm : q' ∈ L.near := by rw [← hq2]; exact List.getElem_mem hj
        obtain ⟨q10, qb, _⟩ := hL.each q' hm
        have sz : ∀ (b : List Bool), b.length = 9 → (sS b).length ≤ sizeLine := fun b hb => by rw [sS_len, sizeLine_eq]; omega
        have hL4 := hL.len
        have hrl : rs.length ≤ 4 := by
          have := hrs.1
          rw [List.length_take, List.length_map] at this
          omega
        have g9 : Evl.Ex H9 H'' := fun a o h => e4 _ _ (hk a o (ne_of_none h hRw) (eG _ _ (e11 _ _ (e10 _ _ h))))
        refine Evl.q_asg (v := .str (chS (!q'.2.getD s false))) (Evl.ev_if (b := q'.2.getD s false) (Evl.et_test (ev_bit rfl (Evl.ev_var rfl) (by omega) (by omega))) (fun h => Evl.ev_is Evl.ev_c (by rw [h]; exact congrArg V.str ch0)) (fun h => Evl.ev_is Evl.ev_c (by rw [h]; exact congrArg V.str ch1))) fun G2 e12 => ?_
        have g92 := g9.trans e12
        refine Evl.s_appU (xs := rs.map V.ref) (ys := [.int (q'.1 : Int), .str (sS (flipQ M.p s q').2)]) (e12 _ _ (e4 _ _ hR)) (Evl.ev_var rfl) (Evl.eu_tup (Evl.ea_cons (Evl.ev_var rfl) (Evl.ea_cons (Evl.ev_if (b := decide (q'.1 = M.p)) (Evl.et_is (Evl.et_test (Evl.ev_op (Evl.ev_var rfl) (ev_at (j := 0) (ev_at (j := 0) (Evl.ev_var rfl) (g92 _ _ b1) rfl) (g92 _ _ b2) rfl) (Evl.rv_eq rfl))) ?_) (fun h => Evl.ev_is (Evl.ev_op (Evl.ev_op (ev_slS (Evl.ev_var rfl) Evl.eo_none (Evl.eo_some (Evl.ev_var rfl)) (sz _ qb)) (Evl.ev_var rfl) (rv_cat ?_)) (ev_slS (Evl.ev_var rfl) (Evl.eo_some (Evl.ev_op (Evl.ev_var rfl) Evl.ev_c Evl.rv_I0)) Evl.eo_none (sz _ qb)) (rv_cat ?_)) ?_) (fun h => Evl.ev_is (Evl.ev_var rfl) ?_)) Evl.ea_nil)) (by show 2 ≤ 100000; decide)) (by rw [List.length_map]; omega) fun p H12 hp e13 h13 => ?_
        · exact decide_eq_decide.mpr ⟨fun z => by have := V.int.inj z; omega, fun z => by rw [z]⟩
        · have := cutS_length (sS q'.2) none (some (s : Int))
          rw [sS_len, qb] at this
          show _ + 1 ≤ sizeLine
          rw [sizeLine_eq]
          omega
        · rw [strLen_append]
          have h1 := cutS_length (sS q'.2) none (some (s : Int))
          have h2 := cutS_length (sS q'.2) (some ((s : Int) + 1)) none
          rw [sS_len, qb] at h1 h2
          have h3 : (chS (!q'.2.getD s false)).length = 1 := rfl
          rw [sizeLine_eq]
          omega
        · rw [show (s : Int) + 1 = ((s + 1 : Nat) : Int) by omega, flip_str (by rw [qb]; exact hs9)]
          unfold flipQ
          rw [if_pos (of_decide_eq_true h)]
        · unfold flipQ
          rw [if_neg (of_decide_eq_false h)]
        · have g3 : Evl.Ex H' H12 := (e4.trans e12).trans e13
          have hR12 := g3 _ _ hR
          refine ⟨_, _, _, rs ++ [p], rfl, by rw [upd_same, List.map_append]; rfl, ?_, fun a o ha h => by rw [upd_ne ha]; exact g3 _ _ (hk a o ha h)⟩
          have hpl : PairAt H12 p (flipQ M.p s q') := by
            show H12 p = some (.tup [.int ((flipQ M.p s q').1 : Int), .str (sS (flipQ M.p s q').2)])
            rw [flip_fst]
            exact h13
          have := ((hrs.ex g3).snoc hpl).mono (pair_upd (l' := rs.map V.ref ++ [.ref p]) hR12)
          rw [List.take_succ_eq_append_getElem (by rw [List.length_map]; exact hj), List.getElem_map, hq2]
          exact this
      · obtain ⟨z10, z11, z12, rs, rfl, hR, hrs, hk⟩ := p
        have g9 : Evl.Ex H9 H' := fun a o h => hk a o (ne_of_none h hRw) (eG _ _ (e11 _ _ (e10 _ _ h)))
        have hrs : RowsP H' rs (L.near.map (flipQ M.p s)) := by
          rw [List.take_of_length_le (by rw [List.length_map]; exact Nat.le_refl _)] at hrs
          exact hrs
        refine asg_go (tup_go (cons_any ((ev_at (K := K) (j := 0) (Evl.ev_var (i := 3) rfl) (g9 _ _ a1) rfl) H' (Evl.Ex.refl _) _ fun Ha ea => cons_any ⟨_, rfl, Rw, rs.map V.ref, rfl, .inl ⟨Evl.sq_of (ea _ _ hR), fun U hU => ⟨by show 2 ≤ sizeLine; decide, fun B hB => ?_⟩⟩⟩)))
        have n1 := same_new (o := .tup (rs.map V.ref)) hU
        have hU1 : upd Ha U (.tup (rs.map V.ref)) U = some (.tup (rs.map V.ref)) := upd_same
        generalize upd Ha U (.tup (rs.map V.ref)) = Hb at hB n1 hU1 ⊢
        have n2 := same_new (o := .tup [.ref S1, .ref U]) hB
        have hB1 : upd Hb B (.tup [.ref S1, .ref U]) B = some (.tup [.ref S1, .ref U]) := upd_same
        generalize upd Hb B (.tup [.ref S1, .ref U]) = Hc at n2 hB1 ⊢
        have gc : Evl.Ex H9 Hc := fun a o h => n2 _ _ (n1 _ _ (ea _ _ (g9 _ _ h)))
        have hSc : SeatAt Hc S1 (bentL L M.p s).p (bentL L M.p s).l (bentL L M.p s).n := gc _ _ a2
        have hNc : NearAt Hc U (bentL L M.p s).near := ⟨rs, n2 _ _ hU1, hrs.mono fun r q hp => n2 _ _ (n1 _ _ (ea _ _ hp))⟩
        refine Evl.s_when (b := false) (Evl.et_is (Evl.et_test (Evl.ev_op (Evl.ev_call (Evl.ea_cons (Evl.ev_call (Evl.ea_cons (ev_at (j := 0) (Evl.ev_var rfl) hB1 rfl) (Evl.ea_cons (ev_at (j := 1) (Evl.ev_var rfl) hB1 rfl) Evl.ea_nil)) (spv_labelText hbent hSc hNc)) (Evl.ea_cons (t1 rfl (hX9.trans gc)) Evl.ea_nil)) (spv_are hbent hM)) (Evl.ev_call (Evl.ea_cons (Evl.ev_var rfl) (Evl.ea_cons (Evl.ev_var rfl) Evl.ea_nil)) (spv_say hbent hM ⟨S1, U, hB1, hSc, hNc⟩ (hB9.ex gc))) (Evl.rv_ne rfl))) (by rw [decide_eq_true rfl]; rfl)) (fun z => nomatch z) fun _ Hd ed => ?_
        exact ⟨_, _, _, _, _, _, _, _, _, _, _, _, rfl, ((T9.ex gc).ex ed).mono (by omega)⟩
    · exact Evl.s_ret Evl.ev_c fun H2 e2 => q H2
end
end P61
end S_Jr
section S_Ju
namespace P61
open PySem PySem.Spec PyProof.Rows L2 Tl Hk
theorem swap2_rel {vs zs : List V} {us ws : List Value} (r : Vals zs ws) : Vals (swap2 vs zs) (swap2 us ws) := by
  match zs, ws, r with
  | [], [], .nil => exact .nil
  | [_], [_], .cons a .nil => exact .cons a .nil
  | [_, _], [_, _], .cons a (.cons b .nil) => exact .cons b (.cons a .nil)
  | _ :: _ :: _ :: _, _ :: _ :: _ :: _, .cons a (.cons b (.cons c d)) => exact .cons a (.cons b (.cons c d))
set_option maxHeartbeats 4000000 in
theorem all_mk {l : PySem.W.OpenLaw} {w : World} {K : PySem.W.Frag} {h : Heap} {mg : Str → Option Value} {fa fIn fWi fLi fRo fNi fSe fLt fAr fLb fSy fWa fSm fNp fNq fSo fTe fCk fMk fPk fLx fLy fLz fLl fLu fLv fLa : Addr} (X : K.In h) (G : h.Ns mainGlobals mg) (hfa : mg "law" = some (.ref fa))
    {odIn anIn : Option Addr} {slIn : Array (Option Value)} {ocIn kVIn dcIn pmIn cdIn ctIn : Value}
    (aIn : PySem.W.nsIn K mainGlobals "is_integer" = some (some (.ref fIn)))
    (lIn : K.lookup fIn = some ⟨ocIn, odIn, .func (PySem.W.fnOf "is_integer" "is_integer" (defArgs sInteger) (defBody sInteger) (defScope sInteger) .none kVIn dcIn pmIn anIn cdIn ctIn), slIn⟩)
    (cIn : PySem.W.codeIn K cdIn "is_integer" = true)
    (kIn : PySem.W.keepIn K (.ref fIn) = true)
    {odWi anWi : Option Addr} {slWi : Array (Option Value)} {ocWi kVWi dcWi pmWi cdWi ctWi : Value}
    (aWi : PySem.W.nsIn K mainGlobals "is_within" = some (some (.ref fWi)))
    (lWi : K.lookup fWi = some ⟨ocWi, odWi, .func (PySem.W.fnOf "is_within" "is_within" (defArgs sWithin) (defBody sWithin) (defScope sWithin) .none kVWi dcWi pmWi anWi cdWi ctWi), slWi⟩)
    (cWi : PySem.W.codeIn K cdWi "is_within" = true)
    (kWi : PySem.W.keepIn K (.ref fWi) = true)
    {odLi anLi : Option Addr} {slLi : Array (Option Value)} {ocLi kVLi dcLi pmLi cdLi ctLi : Value}
    (aLi : PySem.W.nsIn K mainGlobals "is_list" = some (some (.ref fLi)))
    (lLi : K.lookup fLi = some ⟨ocLi, odLi, .func (PySem.W.fnOf "is_list" "is_list" (defArgs sList) (defBody sList) (defScope sList) .none kVLi dcLi pmLi anLi cdLi ctLi), slLi⟩)
    (cLi : PySem.W.codeIn K cdLi "is_list" = true)
    (kLi : PySem.W.keepIn K (.ref fLi) = true)
    {odRo anRo : Option Addr} {slRo : Array (Option Value)} {ocRo kVRo dcRo pmRo cdRo ctRo : Value}
    (aRo : PySem.W.nsIn K mainGlobals "is_row" = some (some (.ref fRo)))
    (lRo : K.lookup fRo = some ⟨ocRo, odRo, .func (PySem.W.fnOf "is_row" "is_row" (defArgs sRow) (defBody sRow) (defScope sRow) .none kVRo dcRo pmRo anRo cdRo ctRo), slRo⟩)
    (cRo : PySem.W.codeIn K cdRo "is_row" = true)
    (kRo : PySem.W.keepIn K (.ref fRo) = true)
    {odNi anNi : Option Addr} {slNi : Array (Option Value)} {ocNi kVNi dcNi pmNi cdNi ctNi : Value}
    (aNi : PySem.W.nsIn K mainGlobals "number_in" = some (some (.ref fNi)))
    (lNi : K.lookup fNi = some ⟨ocNi, odNi, .func (PySem.W.fnOf "number_in" "number_in" (defArgs sNumberIn) (defBody sNumberIn) (defScope sNumberIn) .none kVNi dcNi pmNi anNi cdNi ctNi), slNi⟩)
    (cNi : PySem.W.codeIn K cdNi "number_in" = true)
    (kNi : PySem.W.keepIn K (.ref fNi) = true)
    {odSe anSe : Option Addr} {slSe : Array (Option Value)} {ocSe kVSe dcSe pmSe cdSe ctSe : Value}
    (aSe : PySem.W.nsIn K mainGlobals "is_seat" = some (some (.ref fSe)))
    (lSe : K.lookup fSe = some ⟨ocSe, odSe, .func (PySem.W.fnOf "is_seat" "is_seat" (defArgs sIsSeat) (defBody sIsSeat) (defScope sIsSeat) .none kVSe dcSe pmSe anSe cdSe ctSe), slSe⟩)
    (cSe : PySem.W.codeIn K cdSe "is_seat" = true)
    (kSe : PySem.W.keepIn K (.ref fSe) = true)
    {odLt anLt : Option Addr} {slLt : Array (Option Value)} {ocLt kVLt dcLt pmLt cdLt ctLt : Value}
    (aLt : PySem.W.nsIn K mainGlobals "label_text" = some (some (.ref fLt)))
    (lLt : K.lookup fLt = some ⟨ocLt, odLt, .func (PySem.W.fnOf "label_text" "label_text" (defArgs sLabelText) (defBody sLabelText) (defScope sLabelText) .none kVLt dcLt pmLt anLt cdLt ctLt), slLt⟩)
    (cLt : PySem.W.codeIn K cdLt "label_text" = true)
    (kLt : PySem.W.keepIn K (.ref fLt) = true)
    {odAr anAr : Option Addr} {slAr : Array (Option Value)} {ocAr kVAr dcAr pmAr cdAr ctAr : Value}
    (aAr : PySem.W.nsIn K mainGlobals "are_tied" = some (some (.ref fAr)))
    (lAr : K.lookup fAr = some ⟨ocAr, odAr, .func (PySem.W.fnOf "are_tied" "are_tied" (defArgs sAreTied) (defBody sAreTied) (defScope sAreTied) .none kVAr dcAr pmAr anAr cdAr ctAr), slAr⟩)
    (cAr : PySem.W.codeIn K cdAr "are_tied" = true)
    (kAr : PySem.W.keepIn K (.ref fAr) = true)
    {odLb anLb : Option Addr} {slLb : Array (Option Value)} {ocLb kVLb dcLb pmLb cdLb ctLb : Value}
    (aLb : PySem.W.nsIn K mainGlobals "label_in" = some (some (.ref fLb)))
    (lLb : K.lookup fLb = some ⟨ocLb, odLb, .func (PySem.W.fnOf "label_in" "label_in" (defArgs sLabelIn) (defBody sLabelIn) (defScope sLabelIn) .none kVLb dcLb pmLb anLb cdLb ctLb), slLb⟩)
    (cLb : PySem.W.codeIn K cdLb "label_in" = true)
    (kLb : PySem.W.keepIn K (.ref fLb) = true)
    {odSy anSy : Option Addr} {slSy : Array (Option Value)} {ocSy kVSy dcSy pmSy cdSy ctSy : Value}
    (aSy : PySem.W.nsIn K mainGlobals "say_tied" = some (some (.ref fSy)))
    (lSy : K.lookup fSy = some ⟨ocSy, odSy, .func (PySem.W.fnOf "say_tied" "say_tied" (defArgs sSayTied) (defBody sSayTied) (defScope sSayTied) .none kVSy dcSy pmSy anSy cdSy ctSy), slSy⟩)
    (cSy : PySem.W.codeIn K cdSy "say_tied" = true)
    (kSy : PySem.W.keepIn K (.ref fSy) = true)
    {odWa anWa : Option Addr} {slWa : Array (Option Value)} {ocWa kVWa dcWa pmWa cdWa ctWa : Value}
    (aWa : PySem.W.nsIn K mainGlobals "_wanted_label" = some (some (.ref fWa)))
    (lWa : K.lookup fWa = some ⟨ocWa, odWa, .func (PySem.W.fnOf "_wanted_label" "_wanted_label" (defArgs sWanted) (defBody sWanted) (defScope sWanted) .none kVWa dcWa pmWa anWa cdWa ctWa), slWa⟩)
    (cWa : PySem.W.codeIn K cdWa "_wanted_label" = true)
    (kWa : PySem.W.keepIn K (.ref fWa) = true)
    {odSm anSm : Option Addr} {slSm : Array (Option Value)} {ocSm kVSm dcSm pmSm cdSm ctSm : Value}
    (aSm : PySem.W.nsIn K mainGlobals "_is_small_seat" = some (some (.ref fSm)))
    (lSm : K.lookup fSm = some ⟨ocSm, odSm, .func (PySem.W.fnOf "_is_small_seat" "_is_small_seat" (defArgs sSmallSeat) (defBody sSmallSeat) (defScope sSmallSeat) .none kVSm dcSm pmSm anSm cdSm ctSm), slSm⟩)
    (cSm : PySem.W.codeIn K cdSm "_is_small_seat" = true)
    (kSm : PySem.W.keepIn K (.ref fSm) = true)
    {odNp anNp : Option Addr} {slNp : Array (Option Value)} {ocNp kVNp dcNp pmNp cdNp ctNp : Value}
    (aNp : PySem.W.nsIn K mainGlobals "_are_near_pieces" = some (some (.ref fNp)))
    (lNp : K.lookup fNp = some ⟨ocNp, odNp, .func (PySem.W.fnOf "_are_near_pieces" "_are_near_pieces" (defArgs sNearPieces) (defBody sNearPieces) (defScope sNearPieces) .none kVNp dcNp pmNp anNp cdNp ctNp), slNp⟩)
    (cNp : PySem.W.codeIn K cdNp "_are_near_pieces" = true)
    (kNp : PySem.W.keepIn K (.ref fNp) = true)
    {odNq anNq : Option Addr} {slNq : Array (Option Value)} {ocNq kVNq dcNq pmNq cdNq ctNq : Value}
    (aNq : PySem.W.nsIn K mainGlobals "_is_near_piece" = some (some (.ref fNq)))
    (lNq : K.lookup fNq = some ⟨ocNq, odNq, .func (PySem.W.fnOf "_is_near_piece" "_is_near_piece" (defArgs sNearPiece) (defBody sNearPiece) (defScope sNearPiece) .none kVNq dcNq pmNq anNq cdNq ctNq), slNq⟩)
    (cNq : PySem.W.codeIn K cdNq "_is_near_piece" = true)
    (kNq : PySem.W.keepIn K (.ref fNq) = true)
    {odSo anSo : Option Addr} {slSo : Array (Option Value)} {ocSo kVSo dcSo pmSo cdSo ctSo : Value}
    (aSo : PySem.W.nsIn K mainGlobals "_sign_of" = some (some (.ref fSo)))
    (lSo : K.lookup fSo = some ⟨ocSo, odSo, .func (PySem.W.fnOf "_sign_of" "_sign_of" (defArgs sSignOf) (defBody sSignOf) (defScope sSignOf) .none kVSo dcSo pmSo anSo cdSo ctSo), slSo⟩)
    (cSo : PySem.W.codeIn K cdSo "_sign_of" = true)
    (kSo : PySem.W.keepIn K (.ref fSo) = true)
    {odTe anTe : Option Addr} {slTe : Array (Option Value)} {ocTe kVTe dcTe pmTe cdTe ctTe : Value}
    (aTe : PySem.W.nsIn K mainGlobals "_tells" = some (some (.ref fTe)))
    (lTe : K.lookup fTe = some ⟨ocTe, odTe, .func (PySem.W.fnOf "_tells" "_tells" (defArgs sTells) (defBody sTells) (defScope sTells) .none kVTe dcTe pmTe anTe cdTe ctTe), slTe⟩)
    (cTe : PySem.W.codeIn K cdTe "_tells" = true)
    (kTe : PySem.W.keepIn K (.ref fTe) = true)
    {odCk anCk : Option Addr} {slCk : Array (Option Value)} {ocCk kVCk dcCk pmCk cdCk ctCk : Value}
    (aCk : PySem.W.nsIn K mainGlobals "_law_clerk" = some (some (.ref fCk)))
    (lCk : K.lookup fCk = some ⟨ocCk, odCk, .func (PySem.W.fnOf "_law_clerk" "_law_clerk" (defArgs sTub) (defBody sTub) (defScope sTub) .none kVCk dcCk pmCk anCk cdCk ctCk), slCk⟩)
    (cCk : PySem.W.codeIn K cdCk "_law_clerk" = true)
    (kCk : PySem.W.keepIn K (.ref fCk) = true)
    {odMk anMk : Option Addr} {slMk : Array (Option Value)} {ocMk kVMk dcMk pmMk cdMk ctMk : Value}
    (aMk : PySem.W.nsIn K mainGlobals "_law_mark" = some (some (.ref fMk)))
    (lMk : K.lookup fMk = some ⟨ocMk, odMk, .func (PySem.W.fnOf "_law_mark" "_law_mark" (defArgs sScoop) (defBody sScoop) (defScope sScoop) .none kVMk dcMk pmMk anMk cdMk ctMk), slMk⟩)
    (cMk : PySem.W.codeIn K cdMk "_law_mark" = true)
    (kMk : PySem.W.keepIn K (.ref fMk) = true)
    {odPk anPk : Option Addr} {slPk : Array (Option Value)} {ocPk kVPk dcPk pmPk cdPk ctPk : Value}
    (aPk : PySem.W.nsIn K mainGlobals "_law_one_of" = some (some (.ref fPk)))
    (lPk : K.lookup fPk = some ⟨ocPk, odPk, .func (PySem.W.fnOf "_law_one_of" "_law_one_of" (defArgs sPick) (defBody sPick) (defScope sPick) .none kVPk dcPk pmPk anPk cdPk ctPk), slPk⟩)
    (cPk : PySem.W.codeIn K cdPk "_law_one_of" = true)
    (kPk : PySem.W.keepIn K (.ref fPk) = true)
    {odLx anLx : Option Addr} {slLx : Array (Option Value)} {ocLx kVLx dcLx pmLx cdLx ctLx : Value}
    (aLx : PySem.W.nsIn K mainGlobals "_law_tells" = some (some (.ref fLx)))
    (lLx : K.lookup fLx = some ⟨ocLx, odLx, .func (PySem.W.fnOf "_law_tells" "_law_tells" (defArgs sLTells) (defBody sLTells) (defScope sLTells) .none kVLx dcLx pmLx anLx cdLx ctLx), slLx⟩)
    (cLx : PySem.W.codeIn K cdLx "_law_tells" = true)
    (kLx : PySem.W.keepIn K (.ref fLx) = true)
    {odLy anLy : Option Addr} {slLy : Array (Option Value)} {ocLy kVLy dcLy pmLy cdLy ctLy : Value}
    (aLy : PySem.W.nsIn K mainGlobals "_law_tied" = some (some (.ref fLy)))
    (lLy : K.lookup fLy = some ⟨ocLy, odLy, .func (PySem.W.fnOf "_law_tied" "_law_tied" (defArgs sLTied) (defBody sLTied) (defScope sLTied) .none kVLy dcLy pmLy anLy cdLy ctLy), slLy⟩)
    (cLy : PySem.W.codeIn K cdLy "_law_tied" = true)
    (kLy : PySem.W.keepIn K (.ref fLy) = true)
    {odLz anLz : Option Addr} {slLz : Array (Option Value)} {ocLz kVLz dcLz pmLz cdLz ctLz : Value}
    (aLz : PySem.W.nsIn K mainGlobals "_law_signs" = some (some (.ref fLz)))
    (lLz : K.lookup fLz = some ⟨ocLz, odLz, .func (PySem.W.fnOf "_law_signs" "_law_signs" (defArgs sLSigns) (defBody sLSigns) (defScope sLSigns) .none kVLz dcLz pmLz anLz cdLz ctLz), slLz⟩)
    (cLz : PySem.W.codeIn K cdLz "_law_signs" = true)
    (kLz : PySem.W.keepIn K (.ref fLz) = true)
    {odLl anLl : Option Addr} {slLl : Array (Option Value)} {ocLl kVLl dcLl pmLl cdLl ctLl : Value}
    (aLl : PySem.W.nsIn K mainGlobals "_law_label" = some (some (.ref fLl)))
    (lLl : K.lookup fLl = some ⟨ocLl, odLl, .func (PySem.W.fnOf "_law_label" "_law_label" (defArgs sLLabel) (defBody sLLabel) (defScope sLLabel) .none kVLl dcLl pmLl anLl cdLl ctLl), slLl⟩)
    (cLl : PySem.W.codeIn K cdLl "_law_label" = true)
    (kLl : PySem.W.keepIn K (.ref fLl) = true)
    {odLu anLu : Option Addr} {slLu : Array (Option Value)} {ocLu kVLu dcLu pmLu cdLu ctLu : Value}
    (aLu : PySem.W.nsIn K mainGlobals "_law_text" = some (some (.ref fLu)))
    (lLu : K.lookup fLu = some ⟨ocLu, odLu, .func (PySem.W.fnOf "_law_text" "_law_text" (defArgs sLText) (defBody sLText) (defScope sLText) .none kVLu dcLu pmLu anLu cdLu ctLu), slLu⟩)
    (cLu : PySem.W.codeIn K cdLu "_law_text" = true)
    (kLu : PySem.W.keepIn K (.ref fLu) = true)
    {odLv anLv : Option Addr} {slLv : Array (Option Value)} {ocLv kVLv dcLv pmLv cdLv ctLv : Value}
    (aLv : PySem.W.nsIn K mainGlobals "_law_near" = some (some (.ref fLv)))
    (lLv : K.lookup fLv = some ⟨ocLv, odLv, .func (PySem.W.fnOf "_law_near" "_law_near" (defArgs sLNear) (defBody sLNear) (defScope sLNear) .none kVLv dcLv pmLv anLv cdLv ctLv), slLv⟩)
    (cLv : PySem.W.codeIn K cdLv "_law_near" = true)
    (kLv : PySem.W.keepIn K (.ref fLv) = true)
    {odLa anLa : Option Addr} {slLa : Array (Option Value)} {ocLa kVLa dcLa pmLa cdLa ctLa : Value}
    (aLa : PySem.W.nsIn K mainGlobals "law" = some (some (.ref fLa)))
    (lLa : K.lookup fLa = some ⟨ocLa, odLa, .func (PySem.W.fnOf "law" "law" (defArgs sLaw) (defBody sLaw) (defScope sLaw) .none kVLa dcLa pmLa anLa cdLa ctLa), slLa⟩)
    (cLa : PySem.W.codeIn K cdLa "law" = true)
    (kLa : PySem.W.keepIn K (.ref fLa) = true)
    {tD : Tok}
    (qD : PySem.W.nsIn K mainGlobals "MOST_DIGITS" = some (some (.int 140 tD)))
    {tB : Tok}
    (qB : PySem.W.nsIn K mainGlobals "MOST_IN_BAG" = some (some (.int 4 tB)))
    {tL : Tok}
    (qL : PySem.W.nsIn K mainGlobals "LANES" = some (some (.int 3 tL)))
    {tN : Tok}
    (qN : PySem.W.nsIn K mainGlobals "MOST_NUMBER" = some (some (.int 999 tN)))
    {tS : Tok}
    (qS : PySem.W.nsIn K mainGlobals "MANY_SIGNS" = some (some (.int 9 tS)))
    (z_int : PySem.W.nsIn K mainGlobals "int" = some none)
    (z_bool : PySem.W.nsIn K mainGlobals "bool" = some none)
    (z_list : PySem.W.nsIn K mainGlobals "list" = some none)
    (z_tuple : PySem.W.nsIn K mainGlobals "tuple" = some none)
    (z_str : PySem.W.nsIn K mainGlobals "str" = some none)
    (z_isinstance : PySem.W.nsIn K mainGlobals "isinstance" = some none)
    (z_all : PySem.W.nsIn K mainGlobals "all" = some none)
    (z_any : PySem.W.nsIn K mainGlobals "any" = some none)
    (z_len : PySem.W.nsIn K mainGlobals "len" = some none)
    (z_set : PySem.W.nsIn K mainGlobals "set" = some none)
    (z_abs : PySem.W.nsIn K mainGlobals "abs" = some none)
    (z_range : PySem.W.nsIn K mainGlobals "range" = some none)
    (z_sorted : PySem.W.nsIn K mainGlobals "sorted" = some none)
    (z_max : PySem.W.nsIn K mainGlobals "max" = some none)
    (z_repr : PySem.W.nsIn K mainGlobals "repr" = some none)
    : ∃ fd : FuncData, (∀ (s : Shared) (v : Value), BindsTo s fd ⟨[v], []⟩ [("script", v)]) ∧ ∀ base : Heap, K.In base → base.Ns mainGlobals mg → FnG l.prog w K mg base 10 fa fd ["script"] (spLaw K) := by
  have e := hfa.symm.trans (PySem.W.mg_of X G aLa)
  cases e
  have FIn := fun_mk (st := sInteger) lIn cIn kIn
  have bIn := FIn.binds (ps := ["value"]) fun _ _ _ _ _ _ us hl => match us, hl with | [_], _ => rfl
  have FWi := fun_mk (st := sWithin) lWi cWi kWi
  have bWi := FWi.binds (ps := ["value", "least", "most"]) fun _ _ _ _ _ _ us hl => match us, hl with | [_, _, _], _ => rfl
  have FLi := fun_mk (st := sList) lLi cLi kLi
  have bLi := FLi.binds (ps := ["value"]) fun _ _ _ _ _ _ us hl => match us, hl with | [_], _ => rfl
  have FRo := fun_mk (st := sRow) lRo cRo kRo
  have bRo := FRo.binds (ps := ["value", "least", "most"]) fun _ _ _ _ _ _ us hl => match us, hl with | [_, _, _], _ => rfl
  have FNi := fun_mk (st := sNumberIn) lNi cNi kNi
  have bNi := FNi.binds (ps := ["item", "least", "most"]) fun _ _ _ _ _ _ us hl => match us, hl with | [_, _, _], _ => rfl
  have FSe := fun_mk (st := sIsSeat) lSe cSe kSe
  have bSe := FSe.binds (ps := ["value"]) fun _ _ _ _ _ _ us hl => match us, hl with | [_], _ => rfl
  have FLt := fun_mk (st := sLabelText) lLt cLt kLt
  have bLt := FLt.binds (ps := ["seat", "near"]) fun _ _ _ _ _ _ us hl => match us, hl with | [_, _], _ => rfl
  have FAr := fun_mk (st := sAreTied) lAr cAr kAr
  have bAr := FAr.binds (ps := ["one", "other"]) fun _ _ _ _ _ _ us hl => match us, hl with | [_, _], _ => rfl
  have FLb := fun_mk (st := sLabelIn) lLb cLb kLb
  have bLb := FLb.binds (ps := ["value"]) fun _ _ _ _ _ _ us hl => match us, hl with | [_], _ => rfl
  have FSy := fun_mk (st := sSayTied) lSy cSy kSy
  have bSy := FSy.binds (ps := ["one", "other"]) fun _ _ _ _ _ _ us hl => match us, hl with | [_, _], _ => rfl
  have FWa := fun_mk (st := sWanted) lWa cWa kWa
  have bWa := FWa.binds (ps := ["label", "part"]) fun _ _ _ _ _ _ us hl => match us, hl with | [_, _], _ => rfl
  have FSm := fun_mk (st := sSmallSeat) lSm cSm kSm
  have bSm := FSm.binds (ps := ["value"]) fun _ _ _ _ _ _ us hl => match us, hl with | [_], _ => rfl
  have FNp := fun_mk (st := sNearPieces) lNp cNp kNp
  have bNp := FNp.binds (ps := ["seat", "value"]) fun _ _ _ _ _ _ us hl => match us, hl with | [_, _], _ => rfl
  have FNq := fun_mk (st := sNearPiece) lNq cNq kNq
  have bNq := FNq.binds (ps := ["seat", "value"]) fun _ _ _ _ _ _ us hl => match us, hl with | [_, _], _ => rfl
  have FSo := fun_mk (st := sSignOf) lSo cSo kSo
  have bSo := FSo.binds (ps := ["seat", "other"]) fun _ _ _ _ _ _ us hl => match us, hl with | [_, _], _ => rfl
  have FTe := fun_mk (st := sTells) lTe cTe kTe
  have bTe := FTe.binds (ps := ["label", "seat"]) fun _ _ _ _ _ _ us hl => match us, hl with | [_, _], _ => rfl
  have FCk := fun_mk (st := sTub) lCk cCk kCk
  have bCk := FCk.binds (ps := ["script"]) fun _ _ _ _ _ _ us hl => match us, hl with | [_], _ => rfl
  have FMk := fun_mk (st := sScoop) lMk cMk kMk
  have bMk := FMk.binds (ps := ["clerk", "many"]) fun _ _ _ _ _ _ us hl => match us, hl with | [_, _], _ => rfl
  have FPk := fun_mk (st := sPick) lPk cPk kPk
  have bPk := FPk.binds (ps := ["clerk", "some"]) fun _ _ _ _ _ _ us hl => match us, hl with | [_, _], _ => rfl
  have FLx := fun_mk (st := sLTells) lLx cLx kLx
  have bLx := FLx.binds (ps := ["label", "seat"]) fun _ _ _ _ _ _ us hl => match us, hl with | [_, _], _ => rfl
  have FLy := fun_mk (st := sLTied) lLy cLy kLy
  have bLy := FLy.binds (ps := ["one", "other"]) fun _ _ _ _ _ _ us hl => match us, hl with | [_, _], _ => rfl
  have FLz := fun_mk (st := sLSigns) lLz cLz kLz
  have bLz := FLz.binds (ps := ["clerk", "layer", "lane"]) fun _ _ _ _ _ _ us hl => match us, hl with | [_, _, _], _ => rfl
  have FLl := fun_mk (st := sLLabel) lLl cLl kLl
  have bLl := FLl.binds (ps := ["clerk"]) fun _ _ _ _ _ _ us hl => match us, hl with | [_], _ => rfl
  have FLu := fun_mk (st := sLText) lLu cLu kLu
  have bLu := FLu.binds (ps := ["label"]) fun _ _ _ _ _ _ us hl => match us, hl with | [_], _ => rfl
  have FLv := fun_mk (st := sLNear) lLv cLv kLv
  have bLv := FLv.binds (ps := ["clerk", "label"]) fun _ _ _ _ _ _ us hl => match us, hl with | [_, _], _ => rfl
  have FLa := fun_mk (st := sLaw) lLa cLa kLa
  have bLa := FLa.binds (ps := ["script"]) fun _ _ _ _ _ _ us hl => match us, hl with | [_], _ => rfl
  have kAr := kbn_of FAr (ps := ["one", "other"]) 0 ["other", "one"] (fun us ws => swap2 us ws) (fun _ r => swap2_rel r) fun _ _ _ _ _ _ us ws h1 h2 => match us, ws, h1, h2 with | [], [_, _], _, _ => rfl
  refine ⟨PySem.W.fnOf "law" "law" (defArgs sLaw) (defBody sLaw) (defScope sLaw) .none kVLa dcLa pmLa anLa cdLa ctLa, fun s v => .of_eq rfl, fun base _ _ => ?_⟩
  have n : ∀ {x : Str}, PySem.W.nsIn K mainGlobals x = some none → mg x = none := fun h => PySem.W.mg_none_of X G h
  have g : ∀ {x : Str} {v : Value}, PySem.W.nsIn K mainGlobals x = some (some v) → mg x = some v := fun h => PySem.W.mg_of X G h
  have GIn := ok_integer (P := l.prog) (w := w) (mg := mg) (base := base) (k := 0) FIn (n z_isinstance) (n z_int) (n z_bool)
  have GWi := ok_within (P := l.prog) (w := w) (mg := mg) (base := base) (k := 1) FWi FIn GIn bIn (g aIn)
  have GLi := ok_list (P := l.prog) (w := w) (mg := mg) (base := base) (k := 0) FLi (n z_isinstance) (n z_list) (n z_tuple)
  have GRo := ok_row (P := l.prog) (w := w) (mg := mg) (base := base) (k := 2) FRo FWi (GWi.mono (by decide)) bWi (g aWi) FLi (GLi.mono (by decide)) bLi (g aLi) (n z_all)
  have GNi := ok_numberIn (P := l.prog) (w := w) (mg := mg) (base := base) (k := 2) FNi FWi (GWi.mono (by decide)) bWi (g aWi) (g qD) (n z_len) (n z_int)
  have GSe := ok_isSeat (P := l.prog) (w := w) (mg := mg) (base := base) (k := 3) FSe FRo (GRo.mono (by decide)) bRo (g aRo) (g qL) (n z_len)
  have GSm := ok_small (P := l.prog) (w := w) (mg := mg) (base := base) (k := 4) FSm FSe (GSe.mono (by decide)) bSe (g aSe) (g qN)
  have GSo := ok_signOf (P := l.prog) (w := w) (mg := mg) (base := base) (k := 0) FSo (g qL)
  have GNq := ok_nearPiece (P := l.prog) (w := w) (mg := mg) (base := base) (k := 3) FNq FLi (GLi.mono (by decide)) bLi (g aLi) FWi (GWi.mono (by decide)) bWi (g aWi) FSo (GSo.mono (by decide)) bSo (g aSo) (g qN) (g qS) (g qL) (n z_isinstance) (n z_str) (n z_len) (n z_all)
  have GNp := ok_nearPieces (P := l.prog) (w := w) (mg := mg) (base := base) (k := 4) FNp FLi (GLi.mono (by decide)) bLi (g aLi) FWi (GWi.mono (by decide)) bWi (g aWi) FNq (GNq.mono (by decide)) bNq (g aNq) (g qB) (n z_len) (n z_all) (n z_set) (n z_sorted)
  have GLb := ok_labelIn (P := l.prog) (w := w) (mg := mg) (base := base) (k := 5) FLb FNi (GNi.mono (by decide)) bNi (g aNi) FSm (GSm.mono (by decide)) bSm (g aSm) FNp (GNp.mono (by decide)) bNp (g aNp) (g qN) (n z_isinstance) (n z_str) (n z_len) (n z_all) (n z_tuple) (n z_range)
  have GWa := ok_wanted (P := l.prog) (w := w) (mg := mg) (base := base) (k := 6) FWa FLb (GLb.mono (by decide)) bLb (g aLb)
  have GTe := ok_tells (P := l.prog) (w := w) (mg := mg) (base := base) (k := 1) FTe FSo (GSo.mono (by decide)) bSo (g aSo) (n z_abs) (n z_any)
  have GSy := ok_say (P := l.prog) (w := w) (mg := mg) (base := base) (k := 2) FSy FTe (GTe.mono (by decide)) bTe (g aTe)
  have GAr := ok_are (P := l.prog) (w := w) (mg := mg) (base := base) (k := 7) FAr FSy (GSy.mono (by decide)) bSy (g aSy) FWa (GWa.mono (by decide)) bWa (g aWa)
  have GLt := ok_labelText (P := l.prog) (w := w) (mg := mg) (base := base) (k := 5) FLt FSm (GSm.mono (by decide)) bSm (g aSm) FNp (GNp.mono (by decide)) bNp (g aNp) (n z_str)
  have GCk := ok_tub (P := l.prog) (w := w) (mg := mg) (base := base) (k := 0) FCk (n z_int)
  have GMk := ok_scoop (P := l.prog) (w := w) (mg := mg) (base := base) (k := 0) FMk (n z_int) (n z_len) (n z_abs)
  have GPk := ok_pick (P := l.prog) (w := w) (mg := mg) (base := base) (k := 1) FPk FMk (GMk.mono (by decide)) bMk (g aMk) (n z_len)
  have GLx := ok_lTells (P := l.prog) (w := w) (mg := mg) (base := base) (k := 0) FLx 
  have GLy := ok_lTied (P := l.prog) (w := w) (mg := mg) (base := base) (k := 1) FLy FLx (GLx.mono (by decide)) bLx (g aLx)
  have GLz := ok_signs (P := l.prog) (w := w) (mg := mg) (base := base) (k := 1) FLz FMk (GMk.mono (by decide)) bMk (g aMk) (n z_range)
  have GLl := ok_label (P := l.prog) (w := w) (mg := mg) (base := base) (k := 2) FLl FMk (GMk.mono (by decide)) bMk (g aMk) FLz (GLz.mono (by decide)) bLz (g aLz) (n z_range) (n z_tuple)
  have GLu := ok_lText (P := l.prog) (w := w) (mg := mg) (base := base) (k := 0) FLu (n z_str)
  have GLv := ok_near (P := l.prog) (w := w) (mg := mg) (base := base) (k := 3) FLv FMk (GMk.mono (by decide)) bMk (g aMk) FLz (GLz.mono (by decide)) bLz (g aLz) FPk (GPk.mono (by decide)) bPk (g aPk) FLl (GLl.mono (by decide)) bLl (g aLl) (n z_max) (n z_tuple)
  exact ok_law (k := 8) FLa FCk (GCk.mono (by decide)) bCk (g aCk) FLl (GLl.mono (by decide)) bLl (g aLl) FLv (GLv.mono (by decide)) bLv (g aLv) FLu (GLu.mono (by decide)) bLu (g aLu) FLy (GLy.mono (by decide)) bLy (g aLy) FAr (GAr.mono (by decide)) bAr kAr (g aAr) FLt (GLt.mono (by decide)) bLt (g aLt) (n z_range) (n z_repr) (n z_tuple)
end P61
end S_Ju
open PySem PySem.W PyProof.Rows
set_option maxRecDepth 100000 in
set_option maxHeartbeats 0 in
theorem PySem.Challenge.cw_threelanes_k61_two_labels_tell_by_themse_holds : PySem.Challenge.rw_threelanes_k61_two_labels_tell_by_themse.Holds := by
  w_on; o_law; k_head; (case hw => w_witness2)
  k_fill
  refine Tl.walk_g (l := PySem.Challenge.rw_threelanes_k61_two_labels_tell_by_themse) (n := 63) (k := 10) (x := "script") (sp := fun w => P61.spLaw _) rfl (by decide) rfl ⟨rfl, by decide, by decide⟩ (fun w h Y => PySem.W.kIn_of Y) ?F (fun _ _ a ns hl _ hS => ⟨a, ns, rfl, hS, hl, fun _ => rfl⟩)
  case F =>
    intro w mg fa h KX G hmg
    refine' P61.all_mk KX G hmg ?aIn ?lIn ?cIn ?kIn ?aWi ?lWi ?cWi ?kWi ?aLi ?lLi ?cLi ?kLi ?aRo ?lRo ?cRo ?kRo ?aNi ?lNi ?cNi ?kNi ?aSe ?lSe ?cSe ?kSe ?aLt ?lLt ?cLt ?kLt ?aAr ?lAr ?cAr ?kAr ?aLb ?lLb ?cLb ?kLb ?aSy ?lSy ?cSy ?kSy ?aWa ?lWa ?cWa ?kWa ?aSm ?lSm ?cSm ?kSm ?aNp ?lNp ?cNp ?kNp ?aNq ?lNq ?cNq ?kNq ?aSo ?lSo ?cSo ?kSo ?aTe ?lTe ?cTe ?kTe ?aCk ?lCk ?cCk ?kCk ?aMk ?lMk ?cMk ?kMk ?aPk ?lPk ?cPk ?kPk ?aLx ?lLx ?cLx ?kLx ?aLy ?lLy ?cLy ?kLy ?aLz ?lLz ?cLz ?kLz ?aLl ?lLl ?cLl ?kLl ?aLu ?lLu ?cLu ?kLu ?aLv ?lLv ?cLv ?kLv ?aLa ?lLa ?cLa ?kLa ?qD ?qB ?qL ?qN ?qS ?z_int ?z_bool ?z_list ?z_tuple ?z_str ?z_isinstance ?z_all ?z_any ?z_len ?z_set ?z_abs ?z_range ?z_sorted ?z_max ?z_repr
    (case aIn => k_is)
    (case lIn => k_is)
    (case cIn => k_is)
    (case kIn => k_is)
    (case aWi => k_is)
    (case lWi => k_is)
    (case cWi => k_is)
    (case kWi => k_is)
    (case aLi => k_is)
    (case lLi => k_is)
    (case cLi => k_is)
    (case kLi => k_is)
    (case aRo => k_is)
    (case lRo => k_is)
    (case cRo => k_is)
    (case kRo => k_is)
    (case aNi => k_is)
    (case lNi => k_is)
    (case cNi => k_is)
    (case kNi => k_is)
    (case aSe => k_is)
    (case lSe => k_is)
    (case cSe => k_is)
    (case kSe => k_is)
    (case aLt => k_is)
    (case lLt => k_is)
    (case cLt => k_is)
    (case kLt => k_is)
    (case aAr => k_is)
    (case lAr => k_is)
    (case cAr => k_is)
    (case kAr => k_is)
    (case aLb => k_is)
    (case lLb => k_is)
    (case cLb => k_is)
    (case kLb => k_is)
    (case aSy => k_is)
    (case lSy => k_is)
    (case cSy => k_is)
    (case kSy => k_is)
    (case aWa => k_is)
    (case lWa => k_is)
    (case cWa => k_is)
    (case kWa => k_is)
    (case aSm => k_is)
    (case lSm => k_is)
    (case cSm => k_is)
    (case kSm => k_is)
    (case aNp => k_is)
    (case lNp => k_is)
    (case cNp => k_is)
    (case kNp => k_is)
    (case aNq => k_is)
    (case lNq => k_is)
    (case cNq => k_is)
    (case kNq => k_is)
    (case aSo => k_is)
    (case lSo => k_is)
    (case cSo => k_is)
    (case kSo => k_is)
    (case aTe => k_is)
    (case lTe => k_is)
    (case cTe => k_is)
    (case kTe => k_is)
    (case aCk => k_is)
    (case lCk => k_is)
    (case cCk => k_is)
    (case kCk => k_is)
    (case aMk => k_is)
    (case lMk => k_is)
    (case cMk => k_is)
    (case kMk => k_is)
    (case aPk => k_is)
    (case lPk => k_is)
    (case cPk => k_is)
    (case kPk => k_is)
    (case aLx => k_is)
    (case lLx => k_is)
    (case cLx => k_is)
    (case kLx => k_is)
    (case aLy => k_is)
    (case lLy => k_is)
    (case cLy => k_is)
    (case kLy => k_is)
    (case aLz => k_is)
    (case lLz => k_is)
    (case cLz => k_is)
    (case kLz => k_is)
    (case aLl => k_is)
    (case lLl => k_is)
    (case cLl => k_is)
    (case kLl => k_is)
    (case aLu => k_is)
    (case lLu => k_is)
    (case cLu => k_is)
    (case kLu => k_is)
    (case aLv => k_is)
    (case lLv => k_is)
    (case cLv => k_is)
    (case kLv => k_is)
    (case aLa => k_is)
    (case lLa => k_is)
    (case cLa => k_is)
    (case kLa => k_is)
    (case qD => k_is)
    (case qB => k_is)
    (case qL => k_is)
    (case qN => k_is)
    (case qS => k_is)
    (case z_int => k_is)
    (case z_bool => k_is)
    (case z_list => k_is)
    (case z_tuple => k_is)
    (case z_str => k_is)
    (case z_isinstance => k_is)
    (case z_all => k_is)
    (case z_any => k_is)
    (case z_len => k_is)
    (case z_set => k_is)
    (case z_abs => k_is)
    (case z_range => k_is)
    (case z_sorted => k_is)
    (case z_max => k_is)
    (case z_repr => k_is)
