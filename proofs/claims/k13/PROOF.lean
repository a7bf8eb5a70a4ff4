import PyProof.Rows.All
import Wide.All
import OpenK.AllK
import Wide.FinOn
import HandS.ForMost
import HandS.Evl
import HandS.IsInst
import HandS.TupLe
import HandS.Conv
import HandS.SetFor
import HandS.Zip
import HandS.Defaults
import KE.KEqSeq
import PyProof.ReprRoads
import HandS.Star
import HandS.More
import KE.KSuper
import HandS.Zip0
import KE.KDictZip
import HandS.DictComp
import HandS.DictTup
import HandS.Style
import HandS.OwnEq
import HandS.TupAny
import HandS.SortInts
import HandS.SortKw
import HandS.Iter
import KE.GoesEnum
import HandS.Walk
import PySem.Challenge.RW_threelanes_k13_rings_floors_and_wheels
set_option Elab.async false
set_option linter.all false
set_option maxRecDepth 100000
section S_Ru
namespace Tl
open PySem PySem.Spec PyProof.Rows L2
/-! ### len(set(x)) of a list or a tuple of ints, unlike or not -/
theorem met_len (ns : List Int) : ∀ i, i ≤ ns.length → ((firstMet (fun i => ns.getD i 0) i).length = i ↔ (ns.take i).Nodup) ∧ ∀ k, k ∈ firstMet (fun i => ns.getD i 0) i ↔ k ∈ ns.take i
  | 0, _ => by
    rw [firstMet_zero]
    simp
  | i + 1, h => by
    have hi : i < ns.length := h
    obtain ⟨a1, a2⟩ := met_len ns i (Nat.le_of_lt hi)
    have ex : ns.getD i 0 = ns[i] := by simp [List.getD_eq_getElem?_getD, hi]
    have et : ns.take (i + 1) = ns.take i ++ [ns[i]] := by rw [List.take_add_one, List.getElem?_eq_getElem hi] <;> rfl
    have eb : (firstMet (fun i => ns.getD i 0) i).any (· == ns[i]) = true ↔ ns[i] ∈ ns.take i := by
      rw [List.any_eq_true]
      constructor
      · intro ⟨x, hx, he⟩
        rw [← beq_iff_eq.mp he]
        exact (a2 x).mp hx
      · intro hx
        exact ⟨_, (a2 _).mpr hx, beq_self_eq_true _⟩
    have le := firstMet_length_le (fun i => ns.getD i 0) i
    rw [firstMet_succ, et]
    show ((step_dedup _ (ns.getD i 0)).length = i + 1 ↔ _) ∧ _
    rw [ex]
    unfold step_dedup
    have nd : (ns.take i ++ [ns[i]]).Nodup ↔ (ns.take i).Nodup ∧ ns[i] ∉ ns.take i := by
      rw [List.nodup_append]
      simp
      exact fun _ => ⟨fun y z => y _ z rfl, fun y a ha e => y (e ▸ ha)⟩
    by_cases hm : ns[i] ∈ ns.take i
    · rw [if_pos (eb.mpr hm)]
      refine ⟨⟨fun e => by omega, fun e => absurd hm (nd.mp e).2⟩, fun k => ?_⟩
      rw [a2 k, List.mem_append, List.mem_singleton]
      exact ⟨.inl, fun z => z.elim id fun e => e ▸ hm⟩
    · rw [if_neg (fun z => hm (eb.mp z))]
      refine ⟨?_, fun k => ?_⟩
      · rw [List.length_append, List.length_singleton, nd]
        exact ⟨fun e => ⟨a1.mp (by omega), hm⟩, fun e => by rw [a1.mpr e.1]⟩
      · rw [List.mem_append, List.mem_append, a2 k]
def tLenSetN (K : PySem.W.Frag) (ta : TE) : TE := fun σ H Q => ta σ H fun x H1 => ∃ (l : Addr) (ns : List Int), x = .ref l ∧ SqL K H1 l (ns.map V.int) ∧ ns.length ≤ 4000 ∧ ∀ c : Nat, (c = ns.length ↔ ns.Nodup) → Q (.int (c : Int)) H1
theorem pe_lenSetN {X : Cx} {a : Expr} {ta : TE} {p p2 q pos : Pos} (hg : Gl X "len") (hm : X.mg "len" = none) (hg2 : Gl X "set") (hm2 : X.mg "set" = none) (ha : PE X a ta) (hc : X.calm = true := by rfl)
    (na : starEach [a] X.env = (false, eval a X.env) :: starEach [] X.env := by rfl) : PE X (.Call (.Name "len" p) [.Call (.Name "set" p2) [a] [] q] [] pos) (tLenSetN X.K ta) := by
  constructor
  intro pins s σ H Q I h
  refine Call_ (ld_blt I hg hm boot_len (callWith_builtin1 (args_cons (Call_ (ld_blt I hg2 hm2 boot_set (callWith_type1 (args_cons (thn (ha.run pins s σ H _ I h) fun v s1 hv => args_nil ?_) na) na rfl))) rfl) rfl rfl))
  obtain ⟨x, H1, I1, r1, l, ns, rfl, hq, hl, q1⟩ := hv
  cases r1
  obtain ⟨its, r, pl, hz⟩ := I1.list hq
  have hn : its.toArray.size = ns.length := by rw [List.size_toArray, ← r.length, List.length_map]
  refine call_set_list (I1.ok.hd hc) pl.isList (by simpa using RZ.intsAre_vals r) (by rw [hn]; unfold scanBound; omega) fun h' tk hS hk => args_nil ?_
  obtain ⟨o, es, ep, t, ho, hex, hd, _, _, hb, hf, hsz⟩ := hS
  have I2 : Inv X pins σ H1 { s1 with heap := h', toks := tk } := I1.kept fun b o e => hk b o (Heap.lt_size e) e
  refine call_len_set ho hex hd hf (by unfold scanBound at hb; omega) ⟨.int es.size, H1, I2.tok _, ⟨_, rfl⟩, q1 es.size ?_⟩
  rw [hsz, hn]
  have e := (met_len ns ns.length (Nat.le_refl _)).1
  rwa [List.take_length] at e
/-- the same of a tuple -/
def tLenSetU (K : PySem.W.Frag) (ta : TE) : TE := fun σ H Q => ta σ H fun x H1 => ∃ (l : Addr) (ns : List Int), x = .ref l ∧ SqT K H1 l (ns.map V.int) ∧ ns.length ≤ 4000 ∧ ∀ c : Nat, (c = ns.length ↔ ns.Nodup) → Q (.int (c : Int)) H1
theorem nodup_same {as bs : List Int} (ha : as.Nodup) (hm : ∀ k, k ∈ bs ↔ k ∈ as) : as.length = bs.length ↔ bs.Nodup := by
  have sub : ∀ (as bs : List Int), as.Nodup → (∀ k, k ∈ as → k ∈ bs) → as.length ≤ bs.length := by
    intro as
    induction as with
    | nil => intro bs _ _; exact Nat.zero_le _
    | cons a r ih =>
      intro bs hn hs
      rw [List.nodup_cons] at hn
      have h1 : a ∈ bs := hs a List.mem_cons_self
      have h2 := ih (bs.erase a) hn.2 fun k hk => by
        have hne : k ≠ a := fun e => hn.1 (e ▸ hk)
        exact (List.mem_erase_of_ne hne).mpr (hs k (List.mem_cons_of_mem _ hk))
      rw [List.length_erase_of_mem h1] at h2
      have h3 : 0 < bs.length := List.length_pos_of_mem h1
      rw [List.length_cons]
      omega
  have strict : ∀ (bs as : List Int), as.Nodup → (∀ k, k ∈ as → k ∈ bs) → ¬ bs.Nodup → as.length < bs.length := by
    intro bs
    induction bs with
    | nil => intro as _ _ h; exact absurd List.nodup_nil h
    | cons b r ih =>
      intro as hn hs hb
      rw [List.length_cons]
      by_cases hbr : b ∈ r
      · have := sub as r hn fun k hk => by
          rcases List.mem_cons.mp (hs k hk) with e | e
          · rw [e]; exact hbr
          · exact e
        omega
      · have hr : ¬ r.Nodup := fun z => hb (List.nodup_cons.mpr ⟨hbr, z⟩)
        have h1 := ih (as.erase b) (hn.erase b) (fun k hk => by
          have h2 := hn.mem_erase_iff.mp hk
          rcases List.mem_cons.mp (hs k h2.2) with e | e
          · exact absurd e h2.1
          · exact e) hr
        by_cases ha : b ∈ as
        · rw [List.length_erase_of_mem ha] at h1
          omega
        · rw [List.erase_of_not_mem ha] at h1
          omega
  constructor
  · intro e
    apply Classical.byContradiction
    intro h
    have := strict bs as ha (fun k hk => (hm k).mpr hk) h
    omega
  · intro hb
    have h1 := sub as bs ha fun k hk => (hm k).mpr hk
    have h2 := sub bs as hb fun k hk => (hm k).mp hk
    omega
theorem pe_lenSetU {X : Cx} {a : Expr} {ta : TE} {p p2 q pos : Pos} (hg : Gl X "len") (hm : X.mg "len" = none) (hg2 : Gl X "set") (hm2 : X.mg "set" = none) (ha : PE X a ta) (hc : X.calm = true := by rfl)
    (na : starEach [a] X.env = (false, eval a X.env) :: starEach [] X.env := by rfl) : PE X (.Call (.Name "len" p) [.Call (.Name "set" p2) [a] [] q] [] pos) (tLenSetU X.K ta) := by
  constructor
  intro pins s σ H Q I h
  refine Call_ (ld_blt I hg hm boot_len (callWith_builtin1 (args_cons (Call_ (ld_blt I hg2 hm2 boot_set (callWith_type1 (args_cons (thn (ha.run pins s σ H _ I h) fun v s1 hv => args_nil ?_) na) na rfl))) rfl) rfl rfl))
  obtain ⟨x, H1, I1, r1, l, ns, rfl, hq, hl, q1⟩ := hv
  cases r1
  obtain ⟨its, r, pl, hz⟩ := I1.tuple hq
  refine call_set_tupI ns (I1.ok.hd hc) pl (by simpa using RZ.intsAre_vals r) (by unfold scanBound; omega) fun h' tk c hS hcl hk => args_nil ?_
  obtain ⟨o, es, ep, t, ho, hex, hd, _, hnd, hS2, hb, hf, hsz, _⟩ := hS
  have I2 : Inv X pins σ H1 { s1 with heap := h', toks := tk } := I1.kept hk
  refine call_len_set ho hex hd hf (by unfold scanBound at hb; omega) ⟨.int es.size, H1, I2.tok _, ⟨_, rfl⟩, q1 es.size ?_⟩
  have e := nodup_same (bs := ns) hnd fun k => by
    rw [← hS2 k]
    simp
  rwa [List.length_map, Array.length_toList] at e
/-! ### repr of data, where no repr is under way -/
def rRepr (K : PySem.W.Frag) : List V → Hp → VK → Prop := fun xs H Q => ∃ (a : Addr) (d : PyData), xs = [.ref a] ∧ Dp K H (.ref a) d ∧ d.showable = true ∧ d.hasDict = false ∧ d.depth ≤ 20 ∧ d.shown.length ≤ sizeLine ∧ Q (.str d.shown) H
theorem call_reprD {X : Cx} (hg : X.A.guards = some []) (hu : X.A.units + 64 < cLine) : CallR X (.builtin "repr") (rRepr X.K) := by
  intro pins s σ H xs us Q I r h
  obtain ⟨a, d, rfl, hd, hs, hn, hp, hz, q⟩ := h
  obtain ⟨u, rfl, ru⟩ := vals1 r
  cases ru
  obtain ⟨as, rd⟩ := Dp.reads I d _ _ hd rfl
  exact repr_of_reads' rd hs (PyData.noDict_hsm hn) hg (by omega) (fun _ _ e => e) (fun h' u tk hk => ⟨.str d.shown, H, I.kept hk, ⟨_, rfl⟩, q⟩) hz
/-! ### a call by keywords alone -/
theorem kbn_of {K : PySem.W.Frag} {x qual : Str} {st : Stmt} {f : Addr} {fd : FuncData} {ps : List Str} (F : Fun K x qual st f fd) (n : Nat) (ks : List Str) (g : {α : Type} → List α → List α → List α)
    (rel : ∀ {vs zs : List V} {us ws : List Value}, Vals vs us → Vals zs ws → Vals (g vs zs) (g us ws))
    (h : ∀ (kV doc pm : Value) (an : Option Addr) (cdv ct : Value) (us ws : List Value), us.length = n → ws.length = ks.length → bindArgs (PySem.W.fnOf x qual (defArgs st) (defBody st) (defScope st) .none kV doc pm an cdv ct) ⟨us, ks.zip ws⟩ = pure (ps.zip (g us ws))) :
    KBn K fd ps n ks (fun us ws => g us ws) (fun vs zs => g vs zs) := by
  obtain ⟨_, _, kV, doc, pm, an, cdv, ct, _, rfl, _, _⟩ := F.ex
  exact ⟨fun s us ws _ l1 l2 => .of_eq (h kV doc pm an cdv ct us ws l1 l2), rel⟩
theorem pe_callN0 {X : Cx} {CX : CXT} {k : Nat} {f : Addr} {fd : FuncData} {ps ks : List Str} {sp : Sp} {E : XK} {x : Str} {p pos : Pos} {kws : List Keyword} {tk : TA} {g : List Value → List Value → List Value} {gV : List V → List V → List V}
    (F : FnOk X.prog X.w X.K X.mg X.base CX k f fd ps sp) (hr : Room k X.A) (hg : Gl X x) (hm : X.mg x = some (.ref f)) (hk : PySem.W.keepIn X.K (.ref f) = true) (hb : KBn X.K fd ps 0 ks g gV) (hx : Passes CX X E)
    (hkw : PK X kws tk) (hall : (backToKw pos (keywordEach kws X.env)).all (·.1.isSome) = true := by rfl) (hks : (backToKw pos (keywordEach kws X.env)).filterMap (·.1) = ks := by rfl) (hdb : (x == ("__debug__" : Str)) = false := by decide)
    (hpl : ((backTo pos (starEach [] X.env)).any (·.1) || (backToKw pos (keywordEach kws X.env)).any (·.1.isNone)) = false := by rfl) :
    PE X (.Call (.Name x p) [] kws pos) (tCallN 0 ks.length sp gV E tNil tk) := by
  constructor
  intro pins s σ H Q I h
  refine wpAny_Call_Name_kw (ld_glob I hg hm (PySem.W.callWith_KW0 (h₀ := X.base) I.ok.mod.kin hk hall (thn (hkw.run pos pins s σ H _ I h) fun ws s2 hv => ?_) hpl) hdb)
  obtain ⟨zs, H2, I2, rz, l1, l2, q2⟩ := hv
  refine ⟨I2.kIn, ?_⟩
  rw [hks]
  exact run_fnN (us := []) (vs := []) F hr hb hx I2 .nil rz rfl l2 q2
/-! ### defs that are called where no repr is under way -/
structure FnG (P : Program) (w : World) (K : PySem.W.Frag) (mg : Str → Option Value) (base : Heap) (k : Nat) (f : Addr) (fd : FuncData) (ps : List Str) (sp : Sp) : Prop where
  len : ∀ {vs H Q E}, sp vs H Q E → vs.length = ps.length
  go : ∀ {A : Around} {outer : List Env} {s : Shared} {H : Hp} {args : Args} {us : List Value} {vs : List V} {Q : VK} {E : XK}, A.guards = some [] → Room k A → Env0 P w K mg base A outer s H → BindsTo s fd args (ps.zip us) → Vals vs us →
    sp vs H Q E → codeAny (model P w) A (.call (.ref f) args) (CR CX0 outer P w H s Q E) s
theorem fn_g {P : Program} {w : World} {K : PySem.W.Frag} {mg : Str → Option Value} {base : Heap} {x qual : Str} {st : Stmt} {f : Addr} {fd : FuncData} {N ps : List Str} {k : Nat} {sp : Sp} (F : Fun K x qual st f fd) (S : FnScope N ps (defScope st))
    (len : ∀ {vs H Q E}, sp vs H Q E → vs.length = ps.length)
    (hbody : ∀ (cdv : Value) (A : Around) (outer : List Env) (s : Shared) (H : Hp) (vs : List V) (Q : VK) (E : XK), A.guards = some [] → Room k (A.deeper (envOfC qual (defScope st) s.heap.objs.size f cdv)) → sp vs H Q E →
      ∃ t, PSs (cxOf CX0 P w K mg base N qual (defScope st) f cdv A outer s H E).nox (defBody st) t ∧ t { nx := fun _ H' => Q .non H', rt := Q } (start N vs) H) : FnG P w K mg base (k + 1) f fd ps sp := by
  obtain ⟨oc, od, kV, doc, pm, an, cdv, ct, osl, rfl, lk, hcd⟩ := F.ex
  refine ⟨len, fun {A outer s H args us vs Q E} hgd hr e0 hb r hsp => ?_⟩
  have kin : K.In s.heap := e0.mod.kin.keeps fun b o e => (e0.bs b o e).1
  have nl : s.heap.NoLimit := e0.mod.nolimit.keeps fun b o e => (e0.bs b o e).1
  refine codeAny_call_function hr.depth (kin _ _ lk) rfl S.co S.gen rfl (PySem.W.codeRec_of kin hcd) (hb _ _ _ _ (wpAny_newFunctionEnv_cells S.kind ?_ fun env he s1 x => ?_))
  · intro y hy
    have hp : y.1 ∈ ps := (List.of_mem_zip (a := y.1) (b := y.2) hy).1
    exact (S.par y.1 hp).imp id fun q => ⟨q, PySem.W.cellsFrom_some _ _ _ (.inl q)⟩
  · cases he
    obtain ⟨t, ht, hq⟩ := hbody cdv A outer s H vs Q E hgd (hr.deeper _) hsp
    have I := inv_start (CX := CX0) (P := P) (w := w) (base := base) (E := E) (qual := qual) (f := f) (cd := cdv) S hr.hd e0 (len hsp) r x
    refine ⟨nl.keeps x.toInCall.keep, codeAny_func (wpAny_mono (ht.nox.run [] s1 (start N vs) H _ I hq) (fun fl s' hs => ?_) fun _ _ hs => hs)⟩
    cases fl with
    | ret u =>
      obtain ⟨v, σ', H', J, rv, q⟩ := hs
      exact ⟨v, H', J.os, J.bare, J.base, J.hok, rv, q⟩
    | next =>
      obtain ⟨σ', H', J, q⟩ := hs
      exact ⟨.non, H', J.os, J.bare, J.base, J.hok, rfl, q⟩
    | brk => exact hs.elim fun _ h => h.elim fun _ h => h.2.elim
    | cont => exact hs.elim fun _ h => h.elim fun _ h => h.2.elim
/-- the call of the law itself: at its own room no repr is under way -/
theorem law_g {P : Program} {w : World} {K : PySem.W.Frag} {mg mb : Str → Option Value} {k : Nat} {fa a : Addr} {fd : FuncData} {x : Str} {sp : Sp} {s₁ : Shared} {vs : List Value} {ns : List Int}
    (kin : K.In s₁.heap) (hns : s₁.heap.Ns mainGlobals mg) (hb : s₁.heap.Ns builtinsNs mb) (hbb : ∀ x : Str, x ≠ "__name__" → mb x = bootBuiltins x) (hlim : s₁.heap.NoLimit) (hg : s₁.gens = #[])
    (ha : s₁.heap.get? a = some { cls := .type "list", data := .seq vs.toArray }) (hi : IntsAre vs ns) (hl : ns.length ≤ sizeLine) (hr : Room k callerA)
    (F : ∀ base : Heap, K.In base → base.Ns mainGlobals mg → FnG P w K mg base k fa fd [x] sp) (hbind : ∀ (s : Shared) (u : Value), BindsTo s fd ⟨[u], []⟩ [(x, u)])
    (hsp : ∀ H : Hp, Only H → SqL K H a (ns.map V.int) → sp [.ref a] H (fun v _ => v = .bl true) fun _ _ _ => False) :
    codeAny (model P w) callerA (.call (.ref fa) ⟨[.ref a], []⟩) (fun r s' => r = .ok (.ret (.bool true)) ∧ OldK s₁.heap s'.heap ∧ s'.os = s₁.os ∧ AllBare s'.gens) s₁ := by
  have rv := vals_ints hi
  have run : ∀ H : Hp, Only H → SqL K H a (ns.map V.int) → HOk P w H s₁.heap → (∀ b u, H b = some u → b = a ∧ K.lookup a = none) →
      codeAny (model P w) callerA (.call (.ref fa) ⟨[.ref a], []⟩) (fun r s' => r = .ok (.ret (.bool true)) ∧ OldK s₁.heap s'.heap ∧ s'.os = s₁.os ∧ AllBare s'.gens) s₁ := by
    intro H hO hS hok hA
    have none_of : ∀ b : Addr, (b = a → K.lookup a ≠ none) → H b = none := fun b hb => by
      cases q : H b with
      | none => rfl
      | some u =>
        obtain ⟨e1, e2⟩ := hA b u q
        exact absurd e2 (hb e1)
    have ns_of : ∀ {b : Addr} {m : Str → Option Value}, s₁.heap.Ns b m → (hidT s₁.heap H).Ns b m := fun {b m} hm => by
      obtain ⟨o, es, ep, e, d, r⟩ := hm
      refine ⟨o, es, ep, hidT_get e ?_, d, r⟩
      cases q : H b with
      | none => rfl
      | some u =>
        obtain ⟨e1, _⟩ := hA b u q
        rw [e1, ha] at e
        cases e
        exact absurd d (by intro z; cases z)
    have kb : K.In (hidT s₁.heap H) := fun b o e => hidT_get (kin b o e) (none_of b fun e1 z => by
      rw [e1, z] at e
      cases e)
    have hM : Mod K mg (hidT s₁.heap H) := ⟨kb, ns_of hns, ⟨mb, ns_of hb, hbb⟩, hlim.elim fun mc h => ⟨mc, ns_of h.1, h.2⟩⟩
    have e0 : Env0 P w K mg (hidT s₁.heap H) callerA [] s₁ H := ⟨rfl, hM, fun _ _ e => of_hidT e, by rw [hidT_size] <;> exact Nat.le_refl _, trivial, fun _ hb => (nomatch hb), hok, .of_eq hg⟩
    refine codeAny_mono ((F _ kb (ns_of hns)).go rfl hr e0 (us := [.ref a]) (hbind s₁ (.ref a)) (vs := [.ref a]) (.cons rfl .nil) (hsp H hO hS)) fun r s' h => ?_
    match r, h with
    | .ok (.ret u), h =>
      obtain ⟨v, H', os, bare, un, hok', r', q⟩ := h
      cases (show v = .bl true from q)
      cases (show u = Value.bool true from r')
      refine ⟨rfl, OldK.of_keep fun b o e => ?_, os, bare⟩
      rcases hO b with z | ⟨ob, xs, z⟩
      · exact un.keep b o e z (fun y => (nomatch y)) (fun y => (nomatch y))
      · obtain ⟨e1, _⟩ := hok b _ z
        obtain ⟨e2, _⟩ := hok' b _ (un.frzs b ob _ z)
        rw [e] at e1
        cases e1
        exact e2
    | .error e, h => exact False.elim h
    | .ok .next, h => exact False.elim h
    | .ok .brk, h => exact False.elim h
    | .ok .cont, h => exact False.elim h
  cases hk : K.lookup a with
  | some o =>
    have e := kin a o hk
    rw [ha] at e
    cases e
    refine run (fun _ => none) (fun _ => .inl rfl) (.inr ⟨_, vs.toArray, _, hk, rfl, rfl, rfl, ?_, by simpa using rv⟩) (fun b u z => (nomatch z)) (fun b u z => (nomatch z))
    rw [List.size_toArray, hi.length]
    exact hl
  | none =>
    have at_a : ∀ b u, (if b = a then some (HO.frz { cls := .type "list", data := .seq vs.toArray } (.lst (ns.map V.int))) else none) = some u → b = a ∧ u = HO.frz { cls := .type "list", data := .seq vs.toArray } (.lst (ns.map V.int)) := fun b u z => by
      by_cases hb : b = a
      · rw [if_pos hb] at z
        exact ⟨hb, (Option.some.inj z).symm⟩
      · rw [if_neg hb] at z
        cases z
    refine run (fun b => if b = a then some (.frz { cls := .type "list", data := .seq vs.toArray } (.lst (ns.map V.int))) else none) (fun b => ?_) (.inl (.inr ⟨_, if_pos rfl⟩)) (fun b u z => ?_) fun b u z => ⟨(at_a b u z).1, hk⟩
    · by_cases hb : b = a
      · exact .inr ⟨_, _, if_pos hb⟩
      · exact .inl (if_neg hb)
    · obtain ⟨e1, e2⟩ := at_a b u z
      subst e1
      subst e2
      exact ⟨ha, by rw [List.length_map]; exact hl, vs, _, rv, ha⟩
theorem walk_g {l : PySem.W.OpenLaw} {n k : Nat} {q : Program} {loose : List Str} {XP : (Str → Option Value) → Heap → Prop} {YP : World → Heap → Prop} {d : DefRec} {K : Params → PySem.W.Frag} {sp : World → Sp} {x : Str}
    (hn : l.most = some n) (hn2 : n ≤ sizeLine) (hdf : d.params.defaults = []) (hr : Room k callerA) (hY : ∀ (w : World) (h : Heap), YP w h → (K w.params).In h)
    (F : ∀ (w : World) (mg : Str → Option Value) (fa : Addr) (h : Heap), (K w.params).In h → h.Ns mainGlobals mg → mg d.name = some (.ref fa) →
      ∃ fd : FuncData, (∀ (s : Shared) (u : Value), BindsTo s fd ⟨[u], []⟩ [(x, u)]) ∧ ∀ base : Heap, (K w.params).In base → base.Ns mainGlobals mg → FnG l.prog w (K w.params) mg base k fa fd [x] (sp w))
    (hsp : ∀ (w : World) (H : Hp) (a : Addr) (ns : List Int), ns.length ≤ n → Only H → SqL (K w.params) H a (ns.map V.int) → sp w [.ref a] H (fun v _ => v = .bl true) fun _ _ _ => False) :
    PySem.W.WalkO q loose XP YP l.row.toRowW d [] (fun f vs => PySem.call f vs) := by
  refine Att.attach_call hn hdf fun w s₀ s₁ mg mb fa o pm cd doc a vs ns G Y ho hd hcd hmg hobj hints hlen hg => ?_
  obtain ⟨fd, h1, h2⟩ := F w mg fa _ (hY w _ Y) G.T.g hmg
  exact law_g (hY w _ Y) G.T.g G.T.b G.T.builtins G.T.nolimit hg hobj hints (Nat.le_trans hlen hn2) hr h2 h1 fun H hO hS => hsp w H a ns hlen hO hS
end Tl
end S_Ru
section S_Su
namespace Tl
open PySem PySem.Spec PyProof.Rows L2
/-! ### a method of a class that begins with super().__init__(..) -/
/-- names of such a def: locals first, no cell, the class's own cell free -/
structure SuScope (N P : List Str) (sc : Scope) : Prop where
  kind : sc.kind = .function
  co : sc.isCoroutine = false
  gen : sc.isGenerator = false
  nd : N.Nodup
  pre : N.take P.length = P
  par : ∀ x ∈ P, sc.names.lookup x = some .local
  nocell : ∀ y ∈ sc.names, y.2 ≠ .cell
  free : ∀ y ∈ sc.names, y.2 = .free → y.1 = "__class__"
  cls : sc.names.lookup ("__class__" : Str) = some .free
  sup : sc.names.lookup ("super" : Str) = some .globalImplicit
/-- the context of such a def's body -/
def suCx (P : Program) (w : World) (K : PySem.W.Frag) (mg : Str → Option Value) (base : Heap) (N : List Str) (qual : Str) (scope : Scope) (f : Addr) (cd : Value) (cc : Addr) (A : Around) (outer : List Env) (s : Shared) (H : Hp) (E : XK) : Cx where
  prog := P
  w := w
  K := K
  mg := mg
  base := base
  A := A.deeper (PySem.W.ksEnv qual scope s.heap.objs.size f cd cc)
  N := N
  s_0 := s
  H_0 := H
  env := PySem.W.ksEnv qual scope s.heap.objs.size f cd cc
  outer := outer
  stack := PySem.W.ksEnv qual scope s.heap.objs.size f cd cc :: outer
  ex := []
  calm := true
  fn := fun _ => false
  pn := []
  xe := fun _ _ => False
theorem lookup_rev {ps : List Str} {us : List Value} (nd : ps.Nodup) {i : Nat} {y : Str} {u : Value} (h1 : ps[i]? = some y) (h2 : us[i]? = some u) : (ps.zip us).reverse.lookup y = some u := by
  have hm : (y, u) ∈ (ps.zip us).reverse := by
    rw [List.mem_reverse]
    refine List.mem_of_getElem? (i := i) ?_
    rw [List.getElem?_zip_eq_some]
    exact ⟨h1, h2⟩
  have key : ∀ (l : List (Str × Value)), (l.map (·.1)).Nodup → (y, u) ∈ l → l.lookup y = some u := by
    intro l
    induction l with
    | nil => intro _ h; cases h
    | cons p r ih =>
      intro hn h
      rw [List.map_cons, List.nodup_cons] at hn
      rcases List.mem_cons.mp h with e | e
      · rw [← e, List.lookup_cons, beq_self_eq_true]
      · have hne : y ≠ p.1 := fun z => hn.1 (z ▸ List.mem_map_of_mem (f := (·.1)) e)
        rw [List.lookup_cons, beq_eq_false_iff_ne.mpr hne]
        exact ih hn.2 e
  refine key _ ?_ hm
  rw [List.map_reverse]
  refine List.pairwise_reverse.mpr (List.Pairwise.imp (fun h => Ne.symm h) ?_)
  refine (nd.sublist ?_)
  clear hm key h1 h2 nd
  induction ps generalizing us with
  | nil => exact List.Sublist.refl _
  | cons p r ih =>
    cases us with
    | nil => exact List.nil_sublist _
    | cons v t => exact (ih (us := t)).cons₂ p
theorem su_start {P : Program} {w : World} {K : PySem.W.Frag} {mg : Str → Option Value} {base : Heap} {N ps : List Str} {qual : Str} {scope : Scope} {f cc D : Addr} {cd cl : Value} {cld : Option Addr} {csl : Array (Option Value)} {A : Around} {outer : List Env} {s : Shared} {h₁ : Heap} {tk : Nat} {H : Hp} {E : XK} {us : List Value} {vs : List V}
    (S : SuScope N ps scope) (hcell : K.lookup cc = some ⟨cl, cld, .cell (some (.ref D)), csl⟩) (hd : A.handled = none) (e0 : Env0 P w K mg base A outer s H) (hl : vs.length = ps.length) (r : Vals vs us)
    (hns : h₁.Ns s.heap.objs.size fun x => (ps.zip us).reverse.lookup x) (kp : ∀ b o, s.heap.get? b = some o → h₁.get? b = some o) :
    Inv (suCx P w K mg base N qual scope f cd cc A outer s H E) [] (L2.start N vs) H { s with heap := h₁, toks := tk } := by
  have hpl : ps.length ≤ N.length := by
    have := congrArg List.length S.pre
    rw [List.length_take] at this
    omega
  have hcc : base.get? cc = some ⟨cl, cld, .cell (some (.ref D)), csl⟩ := e0.mod.kin _ _ hcell
  have one : ∀ {y : Str} {c : Addr}, ([("__class__", cc)] : List (Str × Addr)).lookup y = some c → y = "__class__" ∧ c = cc := fun {y c} h => by
    rw [List.lookup_cons] at h
    split at h
    · rename_i e
      exact ⟨beq_iff_eq.mp e, (Option.some.inj h).symm⟩
    · cases h
  have noA : ∀ b : Addr, b ∉ (suCx P w K mg base N qual scope f cd cc A outer s H E).ex := fun b z => (nomatch (show b ∈ ([] : List Addr) from z))
  refine ⟨⟨e0.mod, S.kind, rfl, rfl, Nat.le_refl _, fun y z c h1 h2 => ?_, fun y hy => ?_, fun y c h => ?_, fun _ => hd, Around.frames_deeper e0.frames, .inr ⟨rfl, rfl⟩, fun b z => absurd z (noA b), e0.bs, e0.bsz, fun b _ _ => noA b, fun b z => absurd z (noA b), e0.funs, e0.frf⟩,
    rfl, e0.bare, Un.kept kp, ⟨_, hns, fun i y v h1 h2 h3 => ?_⟩, fun y c h => ?_, e0.hok.fresh (Nat.le_refl _), fun y c h => ?_, fun p hp => (nomatch (show p ∈ ([] : List (Addr × Obj)) from hp)), e0.hok.kept kp, ?_⟩
  · exact (one h1).1.trans (one h2).1.symm
  · have hy : scope.names.lookup y = some .cell ∨ scope.names.lookup y = some .free := hy
    rcases hy with hy | hy
    · exact absurd rfl (S.nocell _ (PySem.mem_of_lookup hy))
    · have e := S.free _ (PySem.mem_of_lookup hy) rfl
      have e : y = "__class__" := e
      subst e
      exact ⟨cc, rfl⟩
  · cases (show false = true from h)
  · have hi : i < vs.length := by
      apply Classical.byContradiction
      intro hi
      unfold L2.start at h2
      rw [List.getElem?_append_right (by simpa using hi), List.getElem?_replicate] at h2
      split at h2 <;> cases h2
    have ha : vs[i]? = some v := by
      unfold L2.start at h2
      rw [List.getElem?_append_left (by simpa using hi), List.getElem?_map] at h2
      cases e : vs[i]? with
      | none => rw [e] at h2; cases h2
      | some a => rw [e] at h2; cases h2; rfl
    obtain ⟨u, hu, rv⟩ := r.get ha
    have hp : ps[i]? = some y := by
      rw [← S.pre, List.getElem?_take_of_lt (by omega)]
      exact h1
    have ndP : ps.Nodup := by
      rw [← S.pre]
      exact S.nd.sublist (List.take_sublist _ _)
    exact ⟨u, rv, .inl ⟨S.par y (List.mem_of_getElem? hp), lookup_rev ndP hp hu⟩⟩
  · obtain ⟨_, e2⟩ := one h
    subst e2
    exact ⟨_, _, kp _ _ (e0.bs _ _ hcc).1, rfl⟩
  · obtain ⟨_, e2⟩ := one h
    subst e2
    exact (e0.bs _ _ hcc).2
  · unfold L2.start
    show _ = N.length
    rw [List.length_append, List.length_map, List.length_replicate]
    omega
/-- what is told of the class D's def: its own cell, its code's file, the class and the next def above it -/
structure SuFacts (P : Program) (K : PySem.W.Frag) (f f2 D C cc cda : Addr) (fd : FuncData) (self : Str) : Prop where
  look : ∃ (oc : Value) (od : Option Addr) (osl : Array (Option Value)), K.lookup f = some ⟨oc, od, .func fd, osl⟩
  head : ∃ ar, (fd.params.posonlyargs ++ fd.params.args).head? = some ar ∧ ar.arg = self
  code : ∃ (ccl : Value) (cdd : Option Addr) (vs : Array Value) (ccs : Array (Option Value)) (file : Str) (tf : Tok), K.lookup cda = some ⟨ccl, cdd, .fields vs, ccs⟩ ∧ vs[2]? = some (.str file tf) ∧ ((P.main.file : Str) == file) = true
  cell : ∃ (cl : Value) (cld : Option Addr) (csl : Array (Option Value)), K.lookup cc = some ⟨cl, cld, .cell (some (.ref D)), csl⟩
  clsD : ∃ cd, PySem.W.clsIn K D = some cd
  sub : PySem.W.mroIn K C (.ref D) = some true
  opq : PySem.W.nsIn K cStatics "thirdparty.any" = some none
  above : PySem.W.ks_superIn K C D "__init__" = some (some (.ref f2))
  ty : PySem.W.typeIn K (.ref f2) = some (.type "function")
  fi : PySem.W.fnIn K f2 = true
  top : (P.main.scope.names.lookup ("super" : Str)).isSome = false
  notC : PySem.W.clsIn K C ≠ none
section
variable {P : Program} {w : World} {K : PySem.W.Frag} {mg : Str → Option Value} {base : Heap}
/-- its promise: first what stands in the arguments, then the def above, then the rest of the body -/
theorem fn_super {f f2 D C cc cda : Addr} {name qual : Str} {params : Arguments} {scope : Scope} {dV kV doc pm ct : Value} {an : Option Addr} {N ps : List Str} {self : Str} {k : Nat} {sp sp2 : Sp} {e1 : Expr} {es : List Expr} {rest : List Stmt} {p0 p1 apos pos spos : Pos}
    (B : SuFacts P K f f2 D C cc cda (PySem.W.ksFn name qual params (.Expr (.Call (.Attribute (.Call (.Name "super" p0) [] [] p1) "__init__" apos) (e1 :: es) [] pos) spos :: rest) scope dV kV doc pm an (.ref cda) ct cc) self)
    (hcd : PySem.W.codeIn K (.ref cda) qual = true) (S : SuScope N ps scope) (h0 : ps[0]? = some self) (ms : mg "super" = none)
    (F2 : FnR P w K mg base CX0 k f2 sp2) (len : ∀ {vs H Q E}, sp vs H Q E → vs.length = ps.length)
    (hbody : ∀ (A : Around) (outer : List Env) (s : Shared) (H : Hp) (vs : List V) (Q : VK) (E : XK), Room k (A.deeper (PySem.W.ksEnv qual scope s.heap.objs.size f (.ref cda) cc)) → sp vs H Q E →
      ∃ ta t x dx fs, PA (suCx P w K mg base N qual scope f (.ref cda) cc A outer s H E) (e1 :: es) ta ∧ PSs (suCx P w K mg base N qual scope f (.ref cda) cc A outer s H E) rest t ∧ vs[0]? = some (.ref x) ∧ H x = some (.ins C dx fs) ∧
        ∀ q, H q = none → ta (L2.start N vs) (upd H q (.met f2 x)) fun us H1 => H1 q = some (.met f2 x) ∧ sp2 (.ref x :: us) H1 (fun _ H2 => t { nx := fun _ H' => Q .non H', rt := Q } (L2.start N vs) H2) E0)
    {pl : Sem Bool} (hev : ∀ env : Env, eval (.Call (.Attribute (.Call (.Name "super" p0) [] [] p1) "__init__" apos) (e1 :: es) [] pos) env = (do
      let ov ← attributeBase (.Call (.Name "super" p0) [] [] p1) "__init__" env (eval (.Call (.Name "super" p0) [] [] p1) env)
      standAt apos.atName
      let (f, first) ← holding [ov] (getMethod ov "__init__" pl)
      callWith pos f first (backTo pos (starEach (e1 :: es) env)) []))
    (hsw : ∀ env : Env, swapsWith (.Call (.Attribute (.Call (.Name "super" p0) [] [] p1) "__init__" apos) (e1 :: es) [] pos) none spos.line env = pure false)
    (hst : ∀ env : Env, starEach (e1 :: es) env = (false, eval e1 env) :: starEach es env) (hpl : ∀ env : Env, ((backTo pos (starEach (e1 :: es) env)).any (·.1) || (backToKw pos (keywordEach [] env)).any (·.1.isNone)) = false) :
    FnOk P w K mg base CX0 (k + 1) f (PySem.W.ksFn name qual params (.Expr (.Call (.Attribute (.Call (.Name "super" p0) [] [] p1) "__init__" apos) (e1 :: es) [] pos) spos :: rest) scope dV kV doc pm an (.ref cda) ct cc) ps sp := by
  obtain ⟨⟨oc, od, osl, lk⟩, ⟨ar, har, hself⟩, ⟨ccl, cdd, cvs, ccs, file, tf, lkc, hvs, hfile⟩, ⟨cl, cld, csl, lkcell⟩, ⟨cdD, hclsD⟩, hsub, hopq, habove, hty, hfi, htop, hnotC⟩ := B
  refine ⟨fun _ _ _ _ h => len h, fun A outer s H args us vs Q E hr e0 hb r hsp => ?_⟩
  have kin : K.In s.heap := e0.mod.kin.keeps fun b o e => (e0.bs b o e).1
  have nl : s.heap.NoLimit := e0.mod.nolimit.keeps fun b o e => (e0.bs b o e).1
  have hl := len hsp
  refine ks_codeAny_call_defAt (fd := PySem.W.ksFn name qual params _ scope dV kV doc pm an (.ref cda) ct cc) (binds := ps.zip us) hr.depth (kin _ _ lk) rfl nl (PySem.W.codeRec_of kin hcd) rfl hb (fun y hy => S.nocell y hy) (fun y hy => S.par y.1 (List.of_mem_zip (a := y.1) (b := y.2) hy).1) (fun h₁ hns kp => ?_) S.co S.gen S.kind
  obtain ⟨ta, t, x, dx, fs, ha, ht, hx0, hx, hq⟩ := hbody A outer s H vs Q E (hr.deeper _) hsp
  have I : Inv (suCx P w K mg base N qual scope f (.ref cda) cc A outer s H E) [] (L2.start N vs) H { s with heap := h₁, toks := s.toks + (ps.zip us).length } := su_start S lkcell hr.hd e0 hl r hns kp
  have kin1 : K.In h₁ := I.kIn
  obtain ⟨oD, hD1, hD2⟩ : ∃ oD, h₁.get? D = some oD ∧ oD.data = .cls cdD := by
    unfold PySem.W.clsIn at hclsD
    split at hclsD
    · rename_i ho
      cases hclsD
      exact ⟨_, kin1 _ _ ho, rfl⟩
    · cases hclsD
  obtain ⟨mA, O, _⟩ := ins_get I.hok hx
  obtain ⟨u0, hu0, ru0⟩ := r.get hx0
  cases (show u0 = Value.ref x from ru0)
  have hsv : (ps.zip us).reverse.lookup ar.arg = some (.ref x) := by
    rw [hself]
    refine lookup_rev ?_ h0 hu0
    rw [← S.pre]
    exact S.nd.sublist (List.take_sublist _ _)
  have hsl : scope.names.lookup ar.arg = some .local := by
    rw [hself]
    exact S.par _ (List.mem_of_getElem? h0)
  have hxC : x ≠ C := by
    intro e
    cases hcl : PySem.W.clsIn K C with
    | none => exact hnotC hcl
    | some cdC =>
      unfold PySem.W.clsIn at hcl
      split at hcl
      · rename_i ho
        have e2 := kin1 _ _ ho
        rw [← e, O.obj] at e2
        cases e2
      · cases hcl
  obtain ⟨mb, hnb, hbb⟩ := I.ok.mod.blt
  refine ks_wpAt_execs_cons (ks_wpAt_Expr_any (ks_wpAt_MethodCall (pl := pl) (ks_wpAt_super_base (env := PySem.W.ksEnv qual scope s.heap.objs.size f (.ref cda) cc) S.sup S.cls (by decide) rfl (kin1 _ _ lk) rfl har rfl (kin1 _ _ lkc) rfl hvs hfile htop ?_) (hev _)) I.quiet (hsw _))
  refine PySem.W.ks_loadName_global S.kind S.sup (PySem.Calls.loadGlobal_builtin (env := PySem.W.ksEnv qual scope s.heap.objs.size f (.ref cda) cc) (I.ok.mod.glob.keeps I.bk) ms (hnb.keeps I.bk) ((hbb _ (by decide +kernel)).trans (by decide +kernel)) ⟨rfl, ?_⟩)
  refine wpAny_loadName_free S.kind S.cls rfl ⟨_, kin1 _ _ lkcell, rfl⟩ ?_
  refine wpAny_loadName_local S.kind hsl hns hsv ?_
  refine ks_wpAny_isType_cls hD1 hD2 ⟨rfl, ?_⟩
  refine ks_wpAny_call_super hD1 hD2 O.obj rfl (fun c e => by cases e) (PySem.W.looks_mroIn kin1 hsub) (fun h2 e2 k2 => ?_)
  have I2 := I.kept (t' := s.toks + (ps.zip us).length) k2
  have kin2 : K.In h2 := I2.kIn
  obtain ⟨of, hof, hofc⟩ : ∃ of, h2.get? f2 = some of ∧ of.cls = .type "function" := by
    have ht' : (K.lookup f2).map (·.cls) = some (.type "function") := hty
    cases z : K.lookup f2 with
    | none => rw [z] at ht'; cases ht'
    | some of => rw [z] at ht'; exact ⟨of, kin2 _ _ z, Option.some.inj ht'⟩
  cases hcl : PySem.W.clsIn K C with
  | none => exact absurd hcl hnotC
  | some cdC =>
    unfold PySem.W.ks_superIn at habove
    rw [hcl] at habove
    refine ks_wpAny_getMethod_super e2 (PySem.W.looks_opaque kin2 hopq) (l₀ := cdC.mro) (fun A Q E s k q => wpAny_bind ((PySem.W.looks_clsIn kin2 hcl) A _ E s k (wpAny_pure q))) rfl kin2 habove hof hofc hxC (by decide) ?_
    have hfree : H h2.objs.size = none := I2.hok.fresh (Nat.le_refl _)
    have I3 := I2.laid (a := h2.objs.size) (o := .met f2 x) (h' := h2.push { cls := .type "method", data := .fields #[.ref f2, .ref x] }) (t' := s.toks + (ps.zip us).length + 1) (fun b u e => Heap.get?_push_of_some _ e) (Nat.le_refl _) (Heap.get?_push_size _ rfl)
    have hx3 := hq _ hfree
    refine callwith_met (X := suCx P w K mg base N qual scope f (.ref cda) cc A outer s H E) (a := x) (hpl _) hfi ?_
    rw [hst]
    refine Calls.evalArgs_plain ?_
    have hrun := ha.run pos [] _ (L2.start N vs) _ _ I3 hx3
    rw [hst] at hrun
    refine wpAny_mono hrun (fun us4 s4 h4 => ?_) fun _ _ z => z.elim
    obtain ⟨vs4, H4, I4, rv4, hm4, hsp4⟩ := h4
    have hr4 : Room k (suCx P w K mg base N qual scope f (.ref cda) cc A outer s H E).A := hr.deeper _
    refine ⟨met_P I4 hm4, wpAny_call (PySem.W.method_call (met_P I4 hm4).1 (codeAny_mono (run_fnR (X := suCx P w K mg base N qual scope f (.ref cda) cc A outer s H E) (vs := V.ref x :: vs4) (us := Value.ref x :: us4) F2 hr4 pass0 I4 (.cons rfl rv4) hsp4) fun r5 s5 h5 => ?_))⟩
    match r5, h5 with
    | .ok (.ret u), h5 =>
      obtain ⟨v5, H5, I5, _, q5⟩ := h5
      refine wpAt_of_wpAny (wpAny_mono (ht.run [] s5 _ H5 _ I5 q5) (fun fl s' hs => ?_) fun _ _ z => z.elim)
      cases fl with
      | ret u =>
        obtain ⟨v, σ', H', J, rv, q⟩ := hs
        exact ⟨v, H', J.os, J.bare, J.base, J.hok, rv, q⟩
      | next =>
        obtain ⟨σ', H', J, q⟩ := hs
        exact ⟨.non, H', J.os, J.bare, J.base, J.hok, rfl, q⟩
      | brk => exact hs.elim fun _ h => h.elim fun _ h => h.2.elim
      | cont => exact hs.elim fun _ h => h.elim fun _ h => h.2.elim
    | .error e, h5 => exact False.elim h5
    | .ok .next, h5 => exact False.elim h5
    | .ok .brk, h5 => exact False.elim h5
    | .ok .cont, h5 => exact False.elim h5
end
end Tl
end S_Su
section S_Bo
namespace Tl
open PySem PySem.Spec PyProof.Rows L2
theorem plain_bool_new : plainId "bool.__new__" = true := by decide +kernel
section
variable {P : Program} {w : World} {A : Around} {E : Value → Shared → Prop} {s : Shared}
theorem code_bool_new {v : Value} {Q₁ : Value → Shared → Prop} (h : wpAny (model P w) A.in1 (truthy v) (fun b s' => Q₁ (.bool b) s') E s) :
    codeAny (model P w) A (.call (.builtin "bool.__new__") ⟨[.type "bool", v], []⟩) (wants Q₁ E) s := by
  refine codeAny_of_tree ?_
  show wpAny _ A.in1 (do checkBuiltinCall "bool.__new__" ⟨[.type "bool", v], []⟩; again (.builtin "bool.__new__" ⟨[.type "bool", v], []⟩)) _ _ s
  refine wpAny_bind (wpAny_of_eq (F.newCall_bool_1 v) (wpAny_pure ⟨plainId_quiet plain_bool_new _, codeAny_builtin F.entry_bool_new ?_⟩))
  rw [Around.under_plainId plain_bool_new _]
  unfold Builtin.«bool.__new__»
  have f1 := F.conv_sub_bool
  obtain ⟨hp, g, d, tk, os⟩ := s
  wp_walk
  show wpAny (model P w) A.in1 (truthy v) _ _ _
  exact wpAny_mono h (fun b s' hb => wpAny_pure hb) fun _ _ e => e
/-- bool(v), by what truth gives -/
theorem call_bool_by {v : Value} {Q : Value → Shared → Prop} (h : wpAny (model P w) A.in1.in1 (truthy v) (fun b s' => Q (.bool b) s') E s) : wpAny (model P w) A (call (.type "bool") [v]) Q E s := by
  refine callType_codes (Q₁ := fun obj s₁ => (∃ b, obj = .bool b) ∧ Q obj s₁) F.called_bool (F.typeCall_bool_1 v) F.entry_object_init (code_bool_new (wpAny_mono h (fun b s' hb => ⟨⟨b, rfl⟩, hb⟩) fun _ _ e => e)) fun obj s₁ hq => ?_
  obtain ⟨⟨b, rfl⟩, hq⟩ := hq
  exact ⟨PySem.typeIs_bool _ _, F.args_object_init_2 _ v, object_init_meets F.called_bool.init.lookup F.called_bool.made F.newNe_bool P w A.in1 _ s₁ ⟨PySem.typeIs_bool _ _, rfl, hq⟩⟩
end
/-- bool(o) of an instance whose class has its own __bool__ at f -/
theorem call_boolO {X : Cx} {CX : CXT} {k : Nat} {C f : Addr} {fd : FuncData} {ps : List Str} {sp : Sp} {E : XK} (F : FnOk X.prog X.w X.K X.mg X.base CX k f fd ps sp) (hr : Room (k + 2) X.A) (hb : Binds X.K fd ps []) (hx : Passes CX X E)
    (hs : PySem.W.findIn X.K (.ref C) "__bool__" = some (some (.ref f))) (hf : PySem.W.isFn X.K (.ref f) = true) :
    CallR X (.type "bool") (fun xs H Q => ∃ a dx fs, xs = [.ref a] ∧ H a = some (.ins C dx fs) ∧ sp [.ref a] H (fun v H1 => ∃ b, v = .bl b ∧ Q (.bl b) H1) E) := by
  intro pins s σ H xs us Q I r h
  obtain ⟨a, dx, fs, rfl, ha, hsp⟩ := h
  obtain rfl := Vals.ref1 r
  obtain ⟨mA, O, _⟩ := ins_get I.hok ha
  obtain ⟨od, J, _⟩ := O.look
  obtain ⟨m, hF⟩ := I.fr
  refine call_bool_by (PySem.W.truthy_K hF I.ok.mod.kin J hs hf ?_)
  have hl := F.len _ _ _ _ hsp
  have r2 : Vals [V.ref a] [Value.ref a] := .cons rfl .nil
  refine wpAny_call (codeAny_mono (F.run X.A.in1.in1 X.stack s H ⟨[.ref a], []⟩ [.ref a] [.ref a] _ E hr.in1.in1 I.env0.in1.in1 (by
    have := hb s [.ref a] I.kIn (by simpa using hl)
    simpa using this) r2 hsp) fun r s' hq => ?_)
  match r, hq with
  | .error e, hq => exact hx pins σ H s e s' I hq
  | .ok (.ret u), hq =>
    obtain ⟨z, H', I', rz, b, ez, q⟩ := I.after hq
    subst ez
    cases rz
    exact ⟨.bl b, H', I', rfl, q⟩
  | .ok .next, hq => exact False.elim hq
  | .ok .brk, hq => exact False.elim hq
  | .ok .cont, hq => exact False.elim hq
end Tl
end S_Bo
section S_Zp
namespace Tl
open PySem PySem.Spec PyProof.Rows L2
/-! ### dict(zip(t, u)) of two tuples -/
/-- what one asks of an iterator at i: it gives v, from S to S'; it ends in S -/
abbrev Gives1 (P : Program) (w : World) (i : Addr) (v : Value) (S S' : Heap → Prop) : Prop := ∀ (A : Around) (E : Value → Shared → Prop) (s : Shared) (Q : Value → Shared → Prop), S s.heap →
  (∀ h', S' h' → Heap.SameBut i s.heap h' → Q v { s with heap := h' }) → wpAny (model P w) A (Builtin.SmallTypes.nextOf (.ref i)) Q E s
abbrev Ends1 (P : Program) (w : World) (i : Addr) (S : Heap → Prop) : Prop := ∀ (A : Around) (E : Value → Shared → Prop) (s : Shared) (Q : Value → Shared → Prop), A.handled = none → S s.heap →
  (∀ h' e, Heap.ExtBut i s.heap h' → (∃ o, h'.get? e = some o ∧ o.cls = .type "StopIteration") → E (.ref e) { s with heap := h' }) → wpAny (model P w) A (Builtin.SmallTypes.nextOf (.ref i)) Q E s
/-- it stays where one object alone changes -/
abbrev Off (b : Addr) (S : Heap → Prop) : Prop := ∀ h h', Heap.SameBut b h h' → S h → S h'
section
variable {P : Program} {w : World} {A : Around} {E : Value → Shared → Prop} {s : Shared}
theorem held_item {z TI TO T i1 i2 : Addr} {f : Bool} {oT : Obj} {x y : Value} {S1 S1' S2 S2' : Heap → Prop} {Q : Value → Shared → Prop} (hz : IsZipHeld s.heap z TI TO T f) (hT : s.heap.get? T = some oT) (hTI : IsPair s.heap TI (.ref i1) (.ref i2)) (z1 : i1 ≠ z) (z2 : i2 ≠ z)
    (n1 : Gives1 P w i1 x S1 S1') (n2 : Gives1 P w i2 y S2 S2') (s1 : S1 s.heap) (s2 : S2 s.heap) (o1 : Off z S1) (o2 : Off z S2) (o21 : Off i1 S2) (o12 : Off i2 S1')
    (hQ : ∀ h', IsZipHeld h' z TI TO T true → S1' h' → S2' h' → h'.objs.size = s.heap.objs.size → (∀ c o, c ≠ z → c ≠ i1 → c ≠ i2 → s.heap.get? c = some o → h'.get? c = some o) →
      Q (.ref h'.objs.size) { s with heap := h'.push { cls := .type "tuple", data := .seq #[x, y] } }) :
    wpAny (model P w) A (Builtin.«zip.__next__» ⟨[.ref z], []⟩) (fun fin s' => ∃ v, fin = .done (.ret v) ∧ Q v s') E s := by
  show wpAny _ _ (field (.ref z) 2 >>= _) _ _ _
  refine wpAny_bind (wpAny_field hz rfl (x := .bool false) rfl (show wpAny _ _ (field (.ref z) 3 >>= _) _ _ _ from wpAny_bind (wpAny_field hz rfl (x := .ref TI) rfl (wpAny_bind (wpAny_seqItems hTI rfl ?_)))))
  show wpAny _ _ (Builtin.SmallTypes.ownedTupleIsFree (.ref z) >>= _) _ _ _
  refine wpAny_bind (wpAny_tupleHeld_zip hz hT fun ha hza sa => ?_)
  simp only [Bool.false_eq_true, if_false]
  refine wpAny_bind ?_
  rw [← Array.forIn_toList]
  simp only [List.forIn_cons, List.forIn_nil]
  refine wpAny_bind (wpAny_bind (wpAny_holding (show wpAny _ _ (Builtin.SmallTypes.nextOf (.ref i1) >>= _) _ _ _ from wpAny_bind (n1 _ _ { s with heap := ha } _ (o1 _ _ sa s1) fun hb sb1 sb => wpAny_pure (wpAny_pure ?_)))))
  refine wpAny_bind (wpAny_bind (wpAny_holding (show wpAny _ _ (Builtin.SmallTypes.nextOf (.ref i2) >>= _) _ _ _ from wpAny_bind (n2 _ _ { s with heap := hb } _ (o21 _ _ sb (o2 _ _ sa s2)) fun hc sc2 sc => wpAny_pure (wpAny_pure (wpAny_pure ?_))))))
  refine (show wpAny _ _ (newTuple [x, y] >>= _) _ _ _ from wpAny_bind (wpAny_newTuple (wpAny_pure ⟨_, rfl, ?_⟩)))
  exact hQ hc (sc.extBut _ _ z2.symm (sb.extBut _ _ z1.symm hza)) (o12 _ _ sc sb1) sc2 (by rw [sc.1, sb.1, sa.1]) fun c o c1 c2 c3 e => sc.extBut _ _ c3 (sb.extBut _ _ c2 (sa.extBut _ _ c1 e))
/-- the first one ends -/
theorem held_end {z TI TO T i1 i2 : Addr} {f : Bool} {oT : Obj} {S1 : Heap → Prop} {Q : Fin → Shared → Prop} (hh : A.handled = none) (hz : IsZipHeld s.heap z TI TO T f) (hT : s.heap.get? T = some oT) (hTI : IsPair s.heap TI (.ref i1) (.ref i2))
    (n1 : Ends1 P w i1 S1) (s1 : S1 s.heap) (o1 : Off z S1) (hE : ∀ h' e, (∀ c o, c ≠ z → c ≠ i1 → s.heap.get? c = some o → h'.get? c = some o) → (∃ o, h'.get? e = some o ∧ o.cls = .type "StopIteration") → E (.ref e) { s with heap := h' }) :
    wpAny (model P w) A (Builtin.«zip.__next__» ⟨[.ref z], []⟩) Q E s := by
  show wpAny _ _ (field (.ref z) 2 >>= _) _ _ _
  refine wpAny_bind (wpAny_field hz rfl (x := .bool false) rfl (show wpAny _ _ (field (.ref z) 3 >>= _) _ _ _ from wpAny_bind (wpAny_field hz rfl (x := .ref TI) rfl (wpAny_bind (wpAny_seqItems hTI rfl ?_)))))
  show wpAny _ _ (Builtin.SmallTypes.ownedTupleIsFree (.ref z) >>= _) _ _ _
  refine wpAny_bind (wpAny_tupleHeld_zip hz hT fun ha hza sa => ?_)
  simp only [Bool.false_eq_true, if_false]
  refine wpAny_bind ?_
  rw [← Array.forIn_toList]
  simp only [List.forIn_cons, List.forIn_nil]
  refine wpAny_bind (wpAny_bind (wpAny_holding (show wpAny _ _ (Builtin.SmallTypes.nextOf (.ref i1) >>= _) _ _ _ from wpAny_bind (n1 _ _ { s with heap := ha } _ hh (o1 _ _ sa s1) fun hb e sb he => ?_))))
  exact hE hb e (fun c o c1 c2 q => sb _ _ c2 (sa.extBut _ _ c1 q)) he
theorem next_by {z : Addr} {Q : Option Value → Shared → Prop} (hTy : s.TypeIs (.ref z) "zip") (h : wpAny (model P w) A.in1 (Builtin.«zip.__next__» ⟨[.ref z], []⟩) (fun fin s' => ∃ v, fin = .done (.ret v) ∧ Q (some v) s') (fun e s' => (∃ a o, e = .ref a ∧ s'.heap.get? a = some o ∧ o.cls = .type "StopIteration") ∧ Q none s') s) :
    wpAny (model P w) A (pyNext (.ref z)) Q E s := by
  unfold pyNext
  refine wpAny_bind (wpAny_attempt (wpAny_callSpecial?_slot (name := Str.ofString "__next__") hTy F.slot_zip_next (wpAny_call_entry F.slot_zip_next hTy F.entry_zip_next (wpAny_mono h (fun fin s' hf => ?_) fun e s' he => ?_) (F.args_zip_next_1 _))))
  · obtain ⟨v, rfl, hq⟩ := hf
    exact ⟨v, rfl, wpAny_pure hq⟩
  · obtain ⟨⟨a, o, rfl, ho, hc⟩, hq⟩ := he
    exact wpAny_bind (wpAny_isInstance (T := "StopIteration") (b := true) ⟨o, ho, hc⟩ isSubtype_stop (wpAny_pure hq))
end
/-- such an iterator of a tuple -/
abbrev TI1 (i l : Addr) (xs : Array Value) (k : Nat) (h : Heap) : Prop := h.IsTupleIter i l k ∧ h.IsTuple l xs
theorem ti_gives {P : Program} {w : World} {i l : Addr} {xs : Array Value} {k : Nat} {v : Value} (hne : l ≠ i) (hv : xs[k]? = some v) : Gives1 P w i v (TI1 i l xs k) (TI1 i l xs (k + 1)) := fun A E s Q hs hq =>
  RZ.nextOf_tuple_item hs.1 hs.2 hv fun h' a b => hq h' ⟨a, hs.2.extBut b.extBut hne⟩ b
theorem ti_ends {P : Program} {w : World} {i l : Addr} {xs : Array Value} {k : Nat} (hv : xs[k]? = none) : Ends1 P w i (TI1 i l xs k) := fun A E s Q hh hs hq => RZ.nextOf_tuple_end hh hs.1 hs.2 hv hq
theorem ti_off {b i l : Addr} {xs : Array Value} {k : Nat} (h1 : i ≠ b) (h2 : l ≠ b) : Off b (TI1 i l xs k) := fun h h' sb hs => ⟨hs.1.extBut sb.extBut h1, hs.2.extBut sb.extBut h2⟩
theorem ti_at {i l : Addr} {xs : Array Value} {k : Nat} {h h' : Heap} (hs : TI1 i l xs k h) (h1 : ∀ o, h.get? i = some o → h'.get? i = some o) (h2 : ∀ o, h.get? l = some o → h'.get? l = some o) : TI1 i l xs k h' := ⟨hs.1.at h1, hs.2.at h2⟩
/-- what stands where the zip of two tuples was made -/
def ZOk (z TI TO i1 i2 l1 l2 : Addr) (xs ys : Array Value) (h : Heap) : Prop := IsZip h z TI TO .none ∧ IsPair h TI (.ref i1) (.ref i2) ∧ (∃ a b, IsPair h TO a b) ∧ TI1 i1 l1 xs 0 h ∧ TI1 i2 l2 ys 0 h
/-- what stands at turn k, while a dict is filled at d -/
def ZSt (z TI TO i1 i2 l1 l2 : Addr) (xs ys : Array Value) (d : Addr) (k : Nat) (h : Heap) : Prop := IsPair h TI (.ref i1) (.ref i2) ∧ TI1 i1 l1 xs k h ∧ TI1 i2 l2 ys k h ∧
  ((IsZip h z TI TO .none ∧ ∃ a b, IsPair h TO a b) ∨ ∃ T f oT, IsZipHeld h z TI TO T f ∧ h.get? T = some oT ∧ T ≠ z ∧ T ≠ i1 ∧ T ≠ i2 ∧ T ≠ d)
theorem pair_arg_zip {P : Program} {w : World} {z TI TO i1 i2 l1 l2 : Addr} (D : ZipApart z TI TO i1 i2 l1 l2) {xs ys : Array Value} (hsz : ys.size = xs.size) :
    PairArg P w "zip" z [z, TI, TO, i1, i2, l1, l2] [z, TO, i1, i2] xs.size (fun i k v => xs[i]? = some k ∧ ys[i]? = some v) (ZOk z TI TO i1 i2 l1 l2 xs ys) := by
  refine { type := fun s ok => ⟨_, ok.1, rfl⟩, notDict := by decide, keep := fun h h' ok hk => ?_, there := fun h ok b hb => ?_, sub := fun b hb => ?_, noKeys := fun A s Q E hA ok h => getAttrOr_miss_zip ok.1 rfl rfl rfl zip_no_keys (by decide +kernel) hA h, iter := fun A s d Q E hA ok hd hdf h => ?_ }
  · obtain ⟨a1, a2, ⟨x, y, a3⟩, a4, a5⟩ := ok
    exact ⟨hk _ _ a1, hk _ _ a2, ⟨x, y, hk _ _ a3⟩, ti_at a4 (fun o => hk _ o) (fun o => hk _ o), ti_at a5 (fun o => hk _ o) fun o => hk _ o⟩
  · obtain ⟨a1, a2, ⟨x, y, a3⟩, ⟨⟨o1, b1, _⟩, ⟨o2, b2, _⟩⟩, ⟨⟨o3, b3, _⟩, ⟨o4, b4, _⟩⟩⟩ := ok
    simp only [List.mem_cons, List.not_mem_nil, or_false] at hb
    rcases hb with e | e | e | e | e | e | e <;> subst e <;> first | exact ⟨_, a1⟩ | exact ⟨_, a2⟩ | exact ⟨_, a3⟩ | exact ⟨_, b1⟩ | exact ⟨_, b2⟩ | exact ⟨_, b3⟩ | exact ⟨_, b4⟩
  · simp only [List.mem_cons, List.not_mem_nil, or_false] at hb ⊢
    rcases hb with e | e | e | e <;> simp [e]
  · obtain ⟨a1, a2, a3, a4, a5⟩ := ok
    simp only [List.mem_cons, List.not_mem_nil, or_false, not_or] at hdf
    obtain ⟨dz, dTI, dTO, di1, di2, dl1, dl2⟩ := hdf
    refine wpAny_pyIter_zip a1 (h z [z, TO, i1, i2] (ZSt z TI TO i1 i2 l1 l2 xs ys d) s.heap s.toks ?_ ⟨a2, a4, a5, .inl ⟨a1, a3⟩⟩ (fun _ _ e => e) fun b hb => .inl hb)
    refine { off := fun hm => ?_, frame := fun i g g' st hk => ?_, item := fun i s1 Q1 E1 hi st hds hQ => ?_, done := fun s1 Q1 E1 st hQ => ?_ }
    · simp only [List.mem_cons, List.not_mem_nil, or_false] at hm
      rcases hm with e | e | e | e
      · exact dz e
      · exact dTO e
      · exact di1 e
      · exact di2 e
    · obtain ⟨b1, b2, b3, b4⟩ := st
      refine ⟨hk _ _ (Ne.symm dTI) b1, ti_at b2 (fun o => hk _ o (Ne.symm di1)) (fun o => hk _ o (Ne.symm dl1)), ti_at b3 (fun o => hk _ o (Ne.symm di2)) (fun o => hk _ o (Ne.symm dl2)), ?_⟩
      rcases b4 with ⟨c1, x, y, c2⟩ | ⟨T, f, oT, c1, c2, c3, c4, c5, c6⟩
      · exact .inl ⟨hk _ _ (Ne.symm dz) c1, x, y, hk _ _ (Ne.symm dTO) c2⟩
      · exact .inr ⟨T, f, oT, hk _ _ (Ne.symm dz) c1, hk _ _ c6 c2, c3, c4, c5, c6⟩
    · obtain ⟨b1, b2, b3, b4⟩ := st
      have ex := Array.getElem?_eq_getElem (xs := xs) hi
      have ey := Array.getElem?_eq_getElem (xs := ys) (i := i) (by omega)
      have lt : ∀ {c : Addr} {o : Obj}, s1.heap.get? c = some o → s1.heap.objs.size ≠ c := fun e => Nat.ne_of_gt (Heap.lt_size e)
      have m1 : s1.heap.objs.size ≠ i1 := b2.1.elim fun _ e => lt e.1
      have m2 : s1.heap.objs.size ≠ i2 := b3.1.elim fun _ e => lt e.1
      rcases b4 with ⟨c1, x, y, c2⟩ | ⟨T, f, oT, c1, c2, c3, c4, c5, c6⟩
      · refine RZ.pyNext_zipT_item D c1 b1 c2 b2.1 b3.1 b2.2 b3.2 ex ey fun g' e1 e2 e3 e4 e5 _ hk => ?_
        refine hQ s1.heap.objs.size _ _ g' s1.toks ⟨ex, ey⟩ (.inl ⟨_, e5, rfl, _, rfl⟩) ⟨hk _ _ D.TIz D.TITO D.TIi1 D.TIi2 b1, ⟨e3, b2.2.at fun o => hk _ o D.l1z D.l1TO D.l1i1 D.l1i2⟩, ⟨e4, b3.2.at fun o => hk _ o D.l2z D.l2TO D.l2i1 D.l2i2⟩, .inr ⟨s1.heap.objs.size, false, _, e1, e5, lt c1, m1, m2, Nat.ne_of_gt hds⟩⟩ fun c o hc e => ?_
        simp only [List.mem_cons, List.not_mem_nil, or_false, not_or] at hc
        exact hk c o hc.1 hc.2.1 hc.2.2.1 hc.2.2.2 e
      · refine next_by ⟨_, c1, rfl⟩ (wpAny_mono (held_item c1 c2 b1 D.i1z D.i2z (ti_gives D.l1i1 ex) (ti_gives D.l2i2 ey) b2 b3 (ti_off D.i1z D.l1z) (ti_off D.i2z D.l2z) (ti_off D.i12.symm D.l2i1) (ti_off D.i12 D.l1i2) fun g' e1 e2 e3 e4 hk => ?_) (fun _ _ q => q) fun _ _ q => q)
        have up : ∀ (c : Addr) (o : Obj), g'.get? c = some o → (g'.push { cls := .type "tuple", data := .seq #[xs[i], ys[i]] }).get? c = some o := fun c o e => Heap.get?_push_of_some _ e
        refine hQ g'.objs.size _ _ _ s1.toks ⟨ex, ey⟩ (.inl ⟨_, Heap.get?_push_size _ rfl, rfl, _, rfl⟩) ⟨up _ _ (hk _ _ D.TIz D.TIi1 D.TIi2 b1), ti_at e2 (up _) (up _), ti_at e3 (up _) (up _), .inr ⟨T, true, oT, up _ _ e1, up _ _ (hk _ _ c3 c4 c5 c2), c3, c4, c5, c6⟩⟩ fun c o hc e => ?_
        simp only [List.mem_cons, List.not_mem_nil, or_false, not_or] at hc
        exact up _ _ (hk c o hc.1 hc.2.2.1 hc.2.2.2 e)
    · obtain ⟨b1, b2, b3, b4⟩ := st
      have ex : xs[xs.size]? = none := Array.getElem?_eq_none (Nat.le_refl _)
      rcases b4 with ⟨c1, x, y, c2⟩ | ⟨T, f, oT, c1, c2, c3, c4, c5, c6⟩
      · refine RZ.pyNext_zipT_end hA D c1 b1 c2 b2.1 b3.1 b2.2 b3.2 (.inl ex) fun g' hk => hQ g' s1.toks fun c o hc e => ?_
        simp only [List.mem_cons, List.not_mem_nil, or_false, not_or] at hc
        exact hk c o hc.1 hc.2.1 hc.2.2.1 hc.2.2.2 e
      · refine next_by ⟨_, c1, rfl⟩ (wpAny_mono (held_end (S1 := TI1 i1 l1 xs xs.size) (Q := fun _ _ => False) hA c1 c2 b1 (ti_ends ex) b2 (ti_off D.i1z D.l1z) fun g' e hk he => ?_) (fun _ _ q => q.elim) fun _ _ q => q)
        obtain ⟨o, ho, hc⟩ := he
        refine ⟨⟨e, o, rfl, ho, hc⟩, hQ g' s1.toks fun c o hc e => ?_⟩
        simp only [List.mem_cons, List.not_mem_nil, or_false, not_or] at hc
        exact hk c o hc.1 hc.2.2.1 e
end Tl
end S_Zp
section S_Yb
namespace Tl
open PySem PySem.Spec PyProof.Rows L2
def topS (i : Nat) : Stmt := PySem.Challenge.pw_threelanes_k13_rings_floors_and_wheels.main.body.getD i (.Pass ⟨0, 0, 0, 0⟩)
abbrev sInteger : Stmt := topS 8
abbrev sWithin : Stmt := topS 9
abbrev sList : Stmt := topS 10
abbrev sRow : Stmt := topS 11
abbrev sUn : Stmt := topS 12
abbrev sLot : Stmt := topS 13
abbrev sFixed : Stmt := topS 15
abbrev sPaper : Stmt := topS 17
abbrev sNumber : Stmt := topS 24
abbrev sWeb : Stmt := topS 27
abbrev sWantWeb : Stmt := topS 28
abbrev sAreTurns : Stmt := topS 29
abbrev sIsTurn : Stmt := topS 30
abbrev sTies : Stmt := topS 31
abbrev sFlat : Stmt := topS 35
abbrev sFaces : Stmt := topS 38
abbrev sJudged : Stmt := topS 39
abbrev sIsFlat : Stmt := topS 40
abbrev sFrom : Stmt := topS 41
abbrev sBehind : Stmt := topS 42
abbrev sTaken : Stmt := topS 43
abbrev sFilled : Stmt := topS 45
abbrev sRing : Stmt := topS 47
abbrev sFloor : Stmt := topS 48
abbrev sWheel : Stmt := topS 49
abbrev sFloorT : Stmt := topS 50
abbrev sTub : Stmt := topS 52
abbrev sScoop : Stmt := topS 53
abbrev sLBehind : Stmt := topS 55
abbrev sLFaces : Stmt := topS 56
abbrev sSame : Stmt := topS 57
abbrev sLFloor : Stmt := topS 58
abbrev sLRing : Stmt := topS 59
abbrev sLWheel : Stmt := topS 60
abbrev sLFlat : Stmt := topS 61
abbrev sLaw : Stmt := topS 62
theorem scScoop : FnScope ["yard", "many", "rest", "at", "cell", "mixed"] ["yard", "many"] (defScope sScoop) := ⟨rfl, rfl, rfl, by decide +kernel, rfl, by decide +kernel, by decide +kernel⟩

/-- all but the object at t is as it was -/
def Kept (t : Addr) (H H' : Hp) : Prop := ∀ a o, a ≠ t → H a = some o → H' a = some o
theorem Kept.refl (t : Addr) (H : Hp) : Kept t H H := fun _ _ _ h => h
theorem Kept.trans {t : Addr} {H H1 H2 : Hp} (a : Kept t H H1) (b : Kept t H1 H2) : Kept t H H2 := fun x o n h => b x o n (a x o n h)
theorem Kept.of {t : Addr} {H H' : Hp} (e : Same H H') : Kept t H H' := fun x o _ h => e x o h
theorem Kept.upd (t : Addr) (H : Hp) (o : HO) : Kept t H (upd H t o) := fun a u n e => by
  rw [upd_ne n]
  exact e
theorem Kept.seq {K : PySem.W.Frag} {t : Addr} {H H' : Hp} {c : Addr} {xs : List V} (k : Kept t H H') (n : c ≠ t) (h : SqL K H c xs) : SqL K H' c xs := by
  rcases h with (h | ⟨o, h⟩) | h
  · exact .inl (.inl (k _ _ n h))
  · exact .inl (.inr ⟨o, k _ _ n h⟩)
  · exact .inr h
/-- the drawer of numbers at t: its cells at c, its turn of n at most, its rest -/
def Tub (H : Hp) (t c : Addr) (n : Nat) : Prop := ∃ (cs : List Int) (turn rest : Int),
  H t = some (.lst [.ref c, .int turn, .int rest]) ∧ H c = some (.lst (cs.map V.int)) ∧ c ≠ t ∧ cs.length ≤ 60 ∧ 0 ≤ turn ∧ turn ≤ n ∧ 0 ≤ rest
theorem Tub.mono {H : Hp} {t c : Addr} {n m : Nat} (T : Tub H t c n) (h : n ≤ m) : Tub H t c m := by
  obtain ⟨cs, turn, rest, h1, h2, h3, h4, h5, h6, h7⟩ := T
  exact ⟨cs, turn, rest, h1, h2, h3, h4, h5, by omega, h7⟩
theorem Tub.same {H H' : Hp} {t c : Addr} {n : Nat} (T : Tub H t c n) (e : Same H H') : Tub H' t c n := by
  obtain ⟨cs, turn, rest, h1, h2, h3, h4, h5, h6, h7⟩ := T
  exact ⟨cs, turn, rest, e _ _ h1, e _ _ h2, h3, h4, h5, h6, h7⟩
theorem Tub.ne {H : Hp} {t c p : Addr} {n : Nat} (T : Tub H t c n) (h : H p = none) : p ≠ t ∧ p ≠ c := by
  obtain ⟨cs, turn, rest, h1, h2, _⟩ := T
  exact ⟨(ne_of_none h1 h).symm, (ne_of_none h2 h).symm⟩
/-- an object that is neither of the drawer's two may change -/
theorem Tub.upd {H : Hp} {t c p : Addr} {n : Nat} {o : HO} (T : Tub H t c n) (h1 : p ≠ t) (h2 : p ≠ c) : Tub (upd H p o) t c n := by
  obtain ⟨cs, turn, rest, a1, a2, h⟩ := T
  refine ⟨cs, turn, rest, ?_, ?_, h⟩
  · rw [upd_ne h1.symm]
    exact a1
  · rw [upd_ne h2.symm]
    exact a2
theorem same_new {H : Hp} {p : Addr} {o : HO} (h : H p = none) : Same H (upd H p o) := fun b x e => by
  rw [upd_ne (ne_of_none e h)]
  exact e

open Evl in
theorem kept_ex {t : Addr} {H H' : Hp} (e : Evl.Ex H H') : Kept t H H' := fun x o _ h => e x o h
theorem Tub.ex {H H' : Hp} {t c : Addr} {n : Nat} (T : Tub H t c n) (e : Evl.Ex H H') : Tub H' t c n := T.same e
section
open Evl
variable {K : PySem.W.Frag} {σ : L2.St} {H H' : Hp} {ta tb te : TE} {x y z v : V}
theorem ev_int {i : Int} (h : Ev ta σ H (.int i)) : Ev (tCB (fun xs H Q => (∃ i, xs = [V.int i] ∧ Q (V.int i) H) ∨ ∃ k, xs = [V.bl k] ∧ Q (V.int (if k = true then 1 else 0)) H) (tCons ta tNil)) σ H (.int i) :=
  ev_cb (ea_cons h ea_nil) fun H1 _ _ q => .inl ⟨i, rfl, q H1 (Ex.refl H1)⟩
theorem ev_intB {b : Bool} (h : Ev ta σ H (.bl b)) : Ev (tCB (fun xs H Q => (∃ i, xs = [V.int i] ∧ Q (V.int i) H) ∨ ∃ k, xs = [V.bl k] ∧ Q (V.int (if k = true then 1 else 0)) H) (tCons ta tNil)) σ H (.int (if b = true then 1 else 0)) :=
  ev_cb (ea_cons h ea_nil) fun H1 _ _ q => .inr ⟨b, rfl, q H1 (Ex.refl H1)⟩
theorem ev_abs {i : Int} (h : Ev ta σ H (.int i)) : Ev (tCB (fun xs H Q => ∃ i, xs = [V.int i] ∧ Q (V.int (if i < 0 then -i else i)) H) (tCons ta tNil)) σ H (.int (if i < 0 then -i else i)) :=
  ev_cb (ea_cons h ea_nil) fun H1 _ _ q => ⟨i, rfl, q H1 (Ex.refl H1)⟩
theorem dp_ints {c : Addr} : ∀ (cs : List Int), DpAll K H (cs.map V.int) (cs.map PyData.int)
  | [] => .nil
  | i :: r => .cons (.int i) (dp_ints (c := c) r)
/-- a list of ints is not the empty one -/
theorem ev_neNil {c : Addr} {cs : List Int} (h : Ev ta σ H (.ref c)) (hc : SqL K H c (cs.map V.int)) : Ev (tOp (rNeD K) ta (tLst tNil)) σ H (.bl (!cs.isEmpty)) :=
  ev_opL (xs := []) h (el_lst ea_nil (Nat.zero_le _)) fun p H1 hp e => fun H2 e2 Q q => by
    refine ⟨.list (cs.map PyData.int), .list [], .lst (ex_l (e.trans e2) hc) (dp_ints (c := c) cs), .lst (sq_of (e2 _ _ hp)) .nil, PySem.W.ke_shaped_ints cs, by decide +kernel, ?_⟩
    have e3 : PyData.eqv (.list (cs.map PyData.int)) (.list []) = cs.isEmpty := by cases cs <;> rfl
    rw [e3]
    exact q H2 (Ex.refl H2)
theorem fmod_pos {a b : Int} (hb : 1 ≤ b) : 0 ≤ a.fmod b ∧ a.fmod b < b := by
  rw [Int.fmod_eq_emod_of_nonneg a (by omega)]
  exact ⟨Int.emod_nonneg _ (by omega), Int.emod_lt_of_pos _ (by omega)⟩
theorem fdiv_pos {a b : Int} (ha : 0 ≤ a) (hb : 1 ≤ b) : 0 ≤ a.fdiv b := by
  rw [Int.fdiv_eq_ediv_of_nonneg a (by omega)]
  exact Int.ediv_nonneg ha (by omega)
theorem mix_a {x turn : Int} (hx0 : 0 ≤ x) (hx : x < 2147483648) (h0 : 0 ≤ turn) (h1 : turn ≤ 1000000) : (x + 40660 * turn + 8612).natAbs < 2 ^ 64 := by omega
theorem mix_b {m turn : Int} (hm0 : 0 ≤ m) (hm : m < 2147483648) (h0 : 0 ≤ turn) (h1 : turn ≤ 1000000) : (m * (2 * turn + 6274) + 60212 * turn * turn + 40660).natAbs < 2 ^ 64 := by
  have a1 : m * (2 * turn + 6274) ≤ 2147483648 * 2006274 := Int.mul_le_mul (by omega) (by omega) (by omega) (by omega)
  have a2 : 0 ≤ m * (2 * turn + 6274) := Int.mul_nonneg hm0 (by omega)
  have b1 : 60212 * turn * turn ≤ 60212000000 * 1000000 := Int.mul_le_mul (by omega) (by omega) (by omega) (by omega)
  have b2 : 0 ≤ 60212 * turn * turn := Int.mul_nonneg (by omega) (by omega)
  generalize m * (2 * turn + 6274) = p at *
  generalize 60212 * turn * turn = r at *
  omega
theorem cell_at (cs : List Int) (turn d : Int) (h0 : 0 ≤ turn) : ∃ z, (cs.isEmpty = false → atI (cs.map V.int) (turn.fmod ((cs.map V.int).length : Int)) = some (.int z)) ∧ (cs.isEmpty = true → z = d) := by
  cases cs with
  | nil => exact ⟨d, fun h => (nomatch h), fun _ => rfl⟩
  | cons x r =>
    have hb := fmod_pos (a := turn) (b := (((x :: r).map V.int).length : Int)) (by rw [List.length_map, List.length_cons]; omega)
    obtain ⟨j, hj⟩ : ∃ j : Nat, turn.fmod (((x :: r).map V.int).length : Int) = (j : Int) := ⟨(turn.fmod (((x :: r).map V.int).length : Int)).toNat, by omega⟩
    rw [hj] at hb ⊢
    have hl : j < (x :: r).length := by
      rw [List.length_map] at hb
      omega
    refine ⟨(x :: r)[j], fun _ => atI_nat ?_, fun h => (nomatch h)⟩
    rw [List.getElem?_map, List.getElem?_eq_getElem hl]
    rfl
end

def spScoop : Sp := fun vs H Q _ => ∃ (t c : Addr) (many : Int) (n : Nat), vs = [.ref t, .int many] ∧ Tub H t c n ∧ n ≤ 1000000 ∧ 1 ≤ many ∧ many ≤ 100000 ∧
  ∀ r H', 0 ≤ r → r < many → Kept t H H' → Tub H' t c (n + 1) → Q (.int r) H'
section
variable {P : Program} {w : World} {K : PySem.W.Frag} {mg : Str → Option Value} {base : Heap}
theorem ok_scoop {f : Addr} {fd : FuncData} {k : Nat} (F : Fun K "_law_rake" "_law_rake" sScoop f fd) (mint : mg "int" = none) (mlen : mg "len" = none) (mabs : mg "abs" = none) : FnOk P w K mg base CX0 (k + 1) f fd ["yard", "many"] spScoop := by
  refine F.ok scScoop (fun vs H Q E h => ?_) (fun cdv A outer s H vs Q E hr h => ?_)
  · obtain ⟨t, c, m, n, rfl, _⟩ := h
    rfl
  · obtain ⟨t, c, many, n, rfl, hT, hn, hm1, hm2, q⟩ := h
    have nd := scScoop.nd
    refine ⟨_, pss_cons (ps_if (pt_cmpR op_gt (pe_ix ix_list (pv 0) pe_int (fun _ _ => rfl)) pe_int (nomark _))
        (pss_cons (ps_set (i := 2) nd rfl (.inl rfl) (pe_callTy call_int1 (by rfl) mint (by decide +kernel) (pa_cons (pe_ix ix_list (pv 0) pe_int (fun _ _ => rfl)) pa_nil)))
        (pss_cons (ps_asg (pe_op op_fdivN (pv 2) (pv 1)) (pg_sub (pv 0) pe_int set_list))
        (pss_one (ps_ret (pe_op op_modN (pe_callTy call_int1 (by rfl) mint (by decide +kernel) (pa_cons (pv 2) pa_nil)) (pv 1)))))) pss_nil)
      (pss_cons (ps_set (i := 3) nd rfl (.inl rfl) (pe_ix ix_list (pv 0) pe_int (fun _ _ => rfl)))
      (pss_cons (ps_asg (pe_op op_add (pv 3) pe_int) (pg_sub (pv 0) pe_int set_list))
      (pss_cons (ps_set (i := 4) nd rfl (.inl rfl) (pe_op op_add (pe_op op_mul pe_int (pv 3)) pe_int))
      (pss_cons (ps_if (pt_cmpR (op_neD hr.units) (pe_ix ix_list (pv 0) pe_int (fun _ _ => rfl)) (pe_lst pa_nil) (nomark _))
        (pss_one (ps_set (i := 4) nd rfl (.inl rfl) (pe_ix ix_list (pe_ix ix_list (pv 0) pe_int (fun _ _ => rfl)) (pe_op op_modN (pe_callTy call_int1 (by rfl) mint (by decide +kernel) (pa_cons (pv 3) pa_nil)) (pe_callB call_len_seq (by rfl) mlen PySem.boot_len (pa_cons (pe_ix ix_list (pv 0) pe_int (fun _ _ => rfl)) pa_nil))) (fun _ _ => rfl)))) pss_nil)
      (pss_cons (ps_if (PW.pt (pw_and (pt_cmpR op_lt (pv 3) (pe_callB call_len_seq (by rfl) mlen PySem.boot_len (pa_cons (pe_ix ix_list (pv 0) pe_int (fun _ _ => rfl)) pa_nil)) (nomark _)) (pw_and1 (pt_cmpR op_ge (pe_callB call_abs (by rfl) mabs (by decide +kernel) (pa_cons (pv 4) pa_nil)) (pe_op op_pow pe_int pe_int) (nomark _)))))
        (pss_cons (ps_set (i := 2) nd rfl (.inl rfl) (pe_op op_add (pe_op op_mul pe_int (pe_op op_sub (pe_callB call_abs (by rfl) mabs (by decide +kernel) (pa_cons (pv 4) pa_nil)) (pe_op op_pow pe_int pe_int))) (pe_callTy call_int1 (by rfl) mint (by decide +kernel) (pa_cons (pe_cmpR op_lt (pv 4) pe_int (nomark _)) pa_nil))))
        (pss_cons (ps_asg (pe_op op_fdivN (pe_callTy call_int1 (by rfl) mint (by decide +kernel) (pa_cons (pv 2) pa_nil)) (pv 1)) (pg_sub (pv 0) pe_int set_list))
        (pss_one (ps_ret (pe_op op_modN (pe_callTy call_int1 (by rfl) mint (by decide +kernel) (pa_cons (pv 2) pa_nil)) (pv 1)))))) pss_nil)
      (pss_cons (ps_set (i := 5) nd rfl (.inl rfl) (pe_op op_modN (pe_callTy call_int1 (by rfl) mint (by decide +kernel) (pa_cons (pe_op op_pow (pe_op op_add (pe_op op_add (pe_op op_modN (pe_callTy call_int1 (by rfl) mint (by decide +kernel) (pa_cons (pv 4) pa_nil)) pe_int) (pe_op op_mul pe_int (pv 3))) pe_int) pe_int) pa_nil)) pe_int))
      (pss_cons (ps_set (i := 5) nd rfl (.inl rfl) (pe_op op_modN (pe_callTy call_int1 (by rfl) mint (by decide +kernel) (pa_cons (pe_op op_pow (pe_op op_add (pe_op op_add (pe_op op_mul (pv 5) (pe_op op_add (pe_op op_mul pe_int (pv 3)) pe_int)) (pe_op op_mul (pe_op op_mul pe_int (pv 3)) (pv 3))) pe_int) pe_int) pa_nil)) pe_int))
      (pss_one (ps_ret (pe_op op_modN (pe_callTy call_int1 (by rfl) mint (by decide +kernel) (pa_cons (pe_op op_fdivN (pv 5) pe_int) pa_nil)) (pv 1))))))))))), ?_⟩
    obtain ⟨cs, turn, rest, ht, hc, hct, hcl, hu0, hun, hr0⟩ := hT
    have tubAt : ∀ {σ : L2.St} {H' : Hp} {j : Nat} {v : V} {xs : List V}, σ[0]? = some (some (.ref t)) → H' t = some (.lst xs) → xs[j]? = some v → Evl.Ev (tOp (rIxL K) (tVar 0) (tC (.int (j : Int)))) σ H' v :=
      fun hs h hv => Evl.ev_op (Evl.ev_var hs) Evl.ev_c (Evl.rv_ixL (Evl.sq_of h) (atI_nat hv))
    have turnS : turn ≤ 1000000 := by omega
    refine Evl.q_when (b := decide (0 < rest)) (Evl.et_test (Evl.ev_op (tubAt (j := 2) rfl ht rfl) Evl.ev_c Evl.rv_I0)) (fun hb H1 e1 => ?_) (fun hb H1 e1 => ?_)
    · refine Evl.q_asg (ev_int (tubAt (j := 2) rfl (e1 _ _ ht) rfl)) fun H2 e2 => ?_
      refine Evl.q_setL (l := t) (j := 2) (e2 _ _ (e1 _ _ ht)) (Evl.ev_op (Evl.ev_var rfl) (Evl.ev_var rfl) (Evl.rv_I ⟨by omega, by omega⟩)) (Evl.ev_var rfl) Evl.ev_c (by show 2 < 3; omega) fun H3 e3 => ?_
      refine Evl.s_ret (Evl.ev_op (ev_int (Evl.ev_var rfl)) (Evl.ev_var rfl) (Evl.rv_I (by omega))) fun H4 e4 => ?_
      have e13 := (e1.trans e2).trans e3
      refine q _ _ (fmod_pos hm1).1 (fmod_pos hm1).2 (((kept_ex e13).trans (Kept.upd t H3 _)).trans (kept_ex e4)) (Tub.ex ?_ e4)
      exact ⟨cs, turn, rest.fdiv many, upd_same, Kept.upd t H3 _ _ _ hct (e13 _ _ hc), hct, hcl, hu0, by omega, fdiv_pos hr0 hm1⟩
    · refine Evl.q_asg (tubAt (j := 1) rfl (e1 _ _ ht) rfl) fun H2 e2 => ?_
      refine Evl.q_setL (l := t) (j := 1) (e2 _ _ (e1 _ _ ht)) (Evl.ev_op (Evl.ev_var rfl) Evl.ev_c Evl.rv_I0) (Evl.ev_var rfl) Evl.ev_c (by show 1 < 3; omega) fun H3 e3 => ?_
      have e13 := (e1.trans e2).trans e3
      have k3 : Kept t H (upd H3 t (.lst [.ref c, .int (turn + 1), .int rest])) := (kept_ex e13).trans (Kept.upd t H3 _)
      have h3 : (upd H3 t (.lst [.ref c, .int (turn + 1), .int rest])) t = some (.lst [.ref c, .int (turn + 1), .int rest]) := upd_same
      show tSeq _ _ _ _ (upd H3 t (.lst [.ref c, .int (turn + 1), .int rest]))
      generalize upd H3 t (.lst [.ref c, .int (turn + 1), .int rest]) = H3' at k3 h3 ⊢
      have hc3 : H3' c = some (.lst (cs.map V.int)) := k3 _ _ hct hc
      obtain ⟨cell, z1, z2⟩ := cell_at cs turn (60212 * turn + 8612) hu0
      refine Evl.q_asg (Evl.ev_op (Evl.ev_op Evl.ev_c (Evl.ev_var rfl) (Evl.rv_I (.inl ⟨by omega, by omega⟩))) Evl.ev_c Evl.rv_I0) fun H4 e4 => ?_
      refine Evl.q_ifAsg (b := !cs.isEmpty) (v := .int cell) (Evl.et_test (ev_neNil (tubAt (j := 0) rfl (e4 _ _ h3) rfl) (Evl.sq_of (e4 _ _ hc3))))
        (fun hb => ?_) (fun hb => ?_) fun H5 e5 => ?_
      · have hce : cs.isEmpty = false := by
          cases hq : cs.isEmpty with
          | true => rw [hq] at hb; cases hb
          | false => rfl
        have hne : ((cs.map V.int).length : Int) ≠ 0 := by
          rw [List.length_map]
          cases cs with
          | nil => cases hce
          | cons x r => rw [List.length_cons]; omega
        exact Evl.ev_op (tubAt (j := 0) rfl (e4 _ _ h3) rfl) (Evl.ev_op (ev_int (Evl.ev_var rfl)) (Evl.ev_len (tubAt (j := 0) rfl (e4 _ _ h3) rfl) (Evl.sq_of (e4 _ _ hc3))) (Evl.rv_I hne)) (Evl.rv_ixL (Evl.sq_of (e4 _ _ hc3)) (z1 hce))
      · have hce : cs.isEmpty = true := by
          cases hq : cs.isEmpty with
          | true => rfl
          | false => rw [hq] at hb; cases hb
        rw [z2 hce]
        rfl
      have e35 := e4.trans e5
      have k5 : Kept t H H5 := k3.trans (kept_ex e35)
      have h5 := e35 _ _ h3
      have hc5 := e35 _ _ hc3
      clear e4 e5 e35 h3 hc3 k3 e1 e2 e3 e13
      refine Evl.q_when (Evl.et_and (Evl.et_test (Evl.ev_op (Evl.ev_var rfl) (Evl.ev_len (tubAt (j := 0) rfl h5 rfl) (Evl.sq_of hc5)) Evl.rv_I0)) fun _ => Evl.et_test (Evl.ev_op (ev_abs (Evl.ev_var rfl)) (Evl.ev_op Evl.ev_c Evl.ev_c (Evl.rv_I ⟨by decide, by decide, by decide⟩)) Evl.rv_I0)) (fun hb H6 e6 => ?_) (fun hb H6 e6 => ?_)
      · have hb2 := (Bool.and_eq_true_iff.mp hb).2
        have hbig : (10 : Int) ^ 18 ≤ (if cell < 0 then -cell else cell) := of_decide_eq_true hb2
        refine Evl.q_asg (Evl.ev_op (Evl.ev_op Evl.ev_c (Evl.ev_op (ev_abs (Evl.ev_var rfl)) (Evl.ev_op Evl.ev_c Evl.ev_c (Evl.rv_I ⟨by decide, by decide, by decide⟩)) Evl.rv_I0) (Evl.rv_I (.inl ⟨by decide, by decide⟩))) (ev_intB (Evl.ev_op (Evl.ev_var rfl) Evl.ev_c Evl.rv_I0)) Evl.rv_I0) fun H7 e7 => ?_
        have hr2 : (0 : Int) ≤ 2 * ((if cell < 0 then -cell else cell) - 10 ^ (18 : Int).toNat) + (if decide (cell < 0) = true then 1 else 0) := by
          have e18 : (18 : Int).toNat = 18 := rfl
          rw [e18]
          split <;> omega
        generalize (2 * ((if cell < 0 then -cell else cell) - 10 ^ (18 : Int).toNat) + (if decide (cell < 0) = true then 1 else 0) : Int) = rest2 at hr2 ⊢
        refine Evl.q_setL (l := t) (j := 2) (e7 _ _ (e6 _ _ h5)) (Evl.ev_op (ev_int (Evl.ev_var rfl)) (Evl.ev_var rfl) (Evl.rv_I ⟨by omega, by omega⟩)) (Evl.ev_var rfl) Evl.ev_c (by show 2 < 3; omega) fun H8 e8 => ?_
        refine Evl.s_ret (Evl.ev_op (ev_int (Evl.ev_var rfl)) (Evl.ev_var rfl) (Evl.rv_I (by omega))) fun H9 e9 => ?_
        have e68 := (e6.trans e7).trans e8
        refine q _ _ (fmod_pos hm1).1 (fmod_pos hm1).2 (((k5.trans (kept_ex e68)).trans (Kept.upd t H8 _)).trans (kept_ex e9)) (Tub.ex ?_ e9)
        exact ⟨cs, turn + 1, rest2.fdiv many, upd_same, Kept.upd t H8 _ _ _ hct (e68 _ _ hc5), hct, hcl, by omega, by omega, fdiv_pos hr2 hm1⟩
      · have c1 := fmod_pos (a := cell) (b := 2147483497) (by decide)
        refine Evl.q_asg (Evl.ev_op (ev_int (Evl.ev_op (Evl.ev_op (Evl.ev_op (Evl.ev_op (ev_int (Evl.ev_var rfl)) Evl.ev_c (Evl.rv_I (by decide))) (Evl.ev_op Evl.ev_c (Evl.ev_var rfl) (Evl.rv_I (.inl ⟨by decide, by decide⟩))) Evl.rv_I0) Evl.ev_c Evl.rv_I0) Evl.ev_c (Evl.rv_I ⟨by decide, by decide, mix_a c1.1 (by omega) hu0 turnS⟩))) Evl.ev_c (Evl.rv_I (by decide))) fun H7 e7 => ?_
        have m1 := fmod_pos (a := (cell.fmod 2147483497 + 40660 * turn + 8612) ^ (5 : Int).toNat) (b := 2147483477) (by decide)
        generalize ((cell.fmod 2147483497 + 40660 * turn + 8612) ^ (5 : Int).toNat).fmod 2147483477 = mx at m1 ⊢
        refine Evl.q_asg (Evl.ev_op (ev_int (Evl.ev_op (Evl.ev_op (Evl.ev_op (Evl.ev_op (Evl.ev_var rfl) (Evl.ev_op (Evl.ev_op Evl.ev_c (Evl.ev_var rfl) (Evl.rv_I (.inl ⟨by decide, by decide⟩))) Evl.ev_c Evl.rv_I0) (Evl.rv_I (.inl ⟨by omega, by omega⟩))) (Evl.ev_op (Evl.ev_op Evl.ev_c (Evl.ev_var rfl) (Evl.rv_I (.inl ⟨by decide, by decide⟩))) (Evl.ev_var rfl) (Evl.rv_I (.inl ⟨by omega, by omega⟩))) Evl.rv_I0) Evl.ev_c Evl.rv_I0) Evl.ev_c (Evl.rv_I ⟨by decide, by decide, mix_b m1.1 (by omega) hu0 turnS⟩))) Evl.ev_c (Evl.rv_I (by decide))) fun H8 e8 => ?_
        refine Evl.s_ret (Evl.ev_op (ev_int (Evl.ev_op (Evl.ev_var rfl) Evl.ev_c (Evl.rv_I ⟨by decide, by decide⟩))) (Evl.ev_var rfl) (Evl.rv_I (by omega))) fun H9 e9 => ?_
        have e69 := ((e6.trans e7).trans e8).trans e9
        exact q _ _ (fmod_pos hm1).1 (fmod_pos hm1).2 (k5.trans (kept_ex e69)) ⟨cs, turn + 1, rest, e69 _ _ h5, e69 _ _ hc5, hct, hcl, by omega, by omega, hr0⟩
end

theorem given_all {α : Type} (ns : List α) (d : α) (f : α → V) : Evl.given ns.length (fun _ => true) (fun i => f (ns.getD i d)) = ns.map f := by
  unfold Evl.given
  rw [List.filter_eq_self.mpr (fun _ _ => rfl)]
  refine List.ext_getElem (by simp) fun i h1 h2 => ?_
  have h3 : i < ns.length := by simpa using h2
  simp [List.getD_eq_getElem?_getD, h3]
theorem erase_map : ∀ (l : List Int) (j : Nat), (l.map V.int).eraseIdx j = (l.eraseIdx j).map V.int
  | [], j => by simp
  | _ :: _, 0 => rfl
  | a :: r, j + 1 => by
    have ih := erase_map r j
    simp [ih]
/-! ### going on behind an argument, a list made, a call -/
theorem ret_lst {t : TA} {D : Ends} {σ : L2.St} {H : Hp} (h : t σ H fun xs H1 => xs.length ≤ sizeLine ∧ ∀ p, H1 p = none → D.rt (.ref p) (upd H1 p (.lst xs))) : tRet (tLst t) D σ H := h
theorem go_l {te : TE} {σ : L2.St} {H : Hp} {Q : VK} {xs : List V} (h : Evl.EvL te σ H xs) (k : ∀ p H1, H p = none → Evl.Ex H H1 → H1 p = some (.lst xs) → Q (.ref p) H1) : te σ H Q := h H (Evl.Ex.refl H) Q k
theorem go_v {te : TE} {σ : L2.St} {H : Hp} {Q : VK} {v : V} (h : Evl.Ev te σ H v) (k : ∀ H1, Evl.Ex H H1 → Q v H1) : te σ H Q := h H (Evl.Ex.refl H) Q k
theorem cons_l {ta : TE} {tr : TA} {σ : L2.St} {H : Hp} {Q : List V → Hp → Prop} {xs : List V} (h : Evl.EvL ta σ H xs) (k : ∀ p H1, H p = none → Evl.Ex H H1 → H1 p = some (.lst xs) → tr σ H1 fun vs H2 => Q (.ref p :: vs) H2) : tCons ta tr σ H Q := h H (Evl.Ex.refl H) _ k
theorem cons_v {ta : TE} {tr : TA} {σ : L2.St} {H : Hp} {Q : List V → Hp → Prop} {v : V} (h : Evl.Ev ta σ H v) (k : ∀ H1, Evl.Ex H H1 → tr σ H1 fun vs H2 => Q (v :: vs) H2) : tCons ta tr σ H Q := h H (Evl.Ex.refl H) _ k
theorem et_yes {σ : L2.St} {H : Hp} : Evl.EvT tYes σ H true := fun H1 _ _ q => q H1 (Evl.Ex.refl H1)
theorem cut58 (xs : List V) : cutV xs none (some 58) = xs.take 58 := by
  unfold cutV
  rw [HT.sIx_none, show HT.sIx xs.length xs.length (some 58) = min 58 xs.length from HT.sIx_nat _ _ 58, List.drop_zero, Nat.sub_zero]
  by_cases h : 58 ≤ xs.length
  · rw [Nat.min_eq_left h]
  · rw [Nat.min_eq_right (by omega), List.take_length, List.take_of_length_le (by omega)]

/-- a plain value and the name of its type -/
inductive Ty7 (K : PySem.W.Frag) (H : Hp) : V → String → Prop where
  | non : Ty7 K H .non "NoneType"
  | bl (b : Bool) : Ty7 K H (.bl b) "bool"
  | int (i : Int) : Ty7 K H (.int i) "int"
  | str (s : Str) : Ty7 K H (.str s) "str"
  | lst {a : Addr} {xs : List V} (h : SqL K H a xs) : Ty7 K H (.ref a) "list"
  | tup {a : Addr} {xs : List V} (h : SqT K H a xs) : Ty7 K H (.ref a) "tuple"
  | dK {a : Addr} {kvs : List (L2.Key × V)} (h : H a = some (.dK kvs)) : Ty7 K H (.ref a) "dict"
section
variable {K : PySem.W.Frag} {H H' : Hp} {x : V} {n : String}
theorem Ty7.tyx (h : Ty7 K H x n) : TyX K H x (.type n) := by
  cases h with
  | non => exact .base .non
  | bl b => exact .base (.bl b)
  | int i => exact .base (.int i)
  | str s => exact .base (.str s)
  | lst h =>
    rcases h with (h | ⟨o, h⟩) | ⟨o, its, m, h1, h2, _⟩
    · exact .base (.lst h)
    · exact .base (.frz h)
    · exact .kList h1 h2
  | tup h =>
    rcases h with (h | ⟨o, h⟩) | ⟨o, its, m, h1, h2, _⟩
    · exact .base (.tup h)
    · exact .fTuple h
    · exact .kTuple h1 h2
  | dK h => exact .base (.dK h)
theorem Ty7.ex (h : Ty7 K H x n) (e : Evl.Ex H H') : Ty7 K H' x n := by
  cases h with
  | non => exact .non
  | bl b => exact .bl b
  | int i => exact .int i
  | str s => exact .str s
  | lst h => exact .lst (Evl.ex_l e h)
  | tup h => exact .tup (Evl.ex_t e h)
  | dK h => exact .dK (e _ _ h)
/-- isinstance of one built-in class -/
def is7 (n c : String) : Bool := (L2.kitB n c).getD false
theorem Ty7.kit (h : Ty7 K H x n) {c : String} (hc : c = "int" ∨ c = "bool" ∨ c = "list" ∨ c = "tuple") : PySem.W.kitOne K (.type n) (.type c) = some (is7 n c) := by
  refine kit_ty ?_
  rcases hc with rfl | rfl | rfl | rfl <;> cases h <;> decide +kernel
theorem Ty7.isInt (h : Ty7 K H x n) : (is7 n "int" && !is7 n "bool") = decide (n = "int") := by
  cases h <;> decide +kernel
theorem Ty7.isSeq (h : Ty7 K H x n) : (is7 n "list" || is7 n "tuple") = (decide (n = "list") || decide (n = "tuple")) := by
  cases h <;> decide +kernel
theorem rc_isi (h : Ty7 K H x n) {c : String} (hc : c = "int" ∨ c = "bool" ∨ c = "list" ∨ c = "tuple") : Evl.RC (rIsi K) [x, .ty c] H (.bl (is7 n c)) :=
  fun H1 e _ q => ⟨x, .ty c, .type n, .type c, is7 n c, rfl, .ty c, (h.ex e).tyx, (h.ex e).kit hc, q H1 (Evl.Ex.refl H1)⟩
theorem rv_isN : Evl.RV (fun x y H Q => y = .non ∧ Q (.bl (decide (x = .non))) H) x .non H (.bl (decide (x = .non))) := fun H1 _ _ q => ⟨rfl, q H1 (Evl.Ex.refl H1)⟩
end
/-- None, or an integer -/
def Bnd : V → Prop
  | .non => True
  | .int _ => True
  | _ => False
def okLo : V → Int → Bool
  | .int j, i => decide (j ≤ i)
  | _, _ => true
def okHi : V → Int → Bool
  | .int j, i => decide (i ≤ j)
  | _, _ => true
/-- whether it is an integer within the bounds -/
def wi : V → V → V → Bool
  | .int i, lo, hi => okLo lo i && okHi hi i
  | _, _, _ => false
def spInteger (K : PySem.W.Frag) : Sp := fun vs H Q _ => ∃ (x : V) (n : String), vs = [x] ∧ Ty7 K H x n ∧ ∀ H1, Evl.Ex H H1 → Q (.bl (decide (n = "int"))) H1
theorem spv_integer {K : PySem.W.Frag} {H : Hp} {x : V} {n : String} (h : Ty7 K H x n) : Evl.SpV (spInteger K) [x] H (.bl (decide (n = "int"))) := fun H1 e Q q E => ⟨x, n, rfl, h.ex e, q⟩
def spWithin (K : PySem.W.Frag) : Sp := fun vs H Q _ => ∃ (x lo hi : V) (n : String), vs = [x, lo, hi] ∧ Ty7 K H x n ∧ Bnd lo ∧ Bnd hi ∧ ∀ H1, Evl.Ex H H1 → Q (.bl (wi x lo hi)) H1
theorem spv_within {K : PySem.W.Frag} {H : Hp} {x lo hi : V} {n : String} (h : Ty7 K H x n) (h1 : Bnd lo) (h2 : Bnd hi) : Evl.SpV (spWithin K) [x, lo, hi] H (.bl (wi x lo hi)) := fun H1 e Q q E => ⟨x, lo, hi, n, rfl, h.ex e, h1, h2, q⟩
def spList (K : PySem.W.Frag) : Sp := fun vs H Q _ => ∃ (x : V) (n : String), vs = [x] ∧ Ty7 K H x n ∧ ∀ H1, Evl.Ex H H1 → Q (.bl (decide (n = "list") || decide (n = "tuple"))) H1
theorem spv_list {K : PySem.W.Frag} {H : Hp} {x : V} {n : String} (h : Ty7 K H x n) : Evl.SpV (spList K) [x] H (.bl (decide (n = "list") || decide (n = "tuple"))) := fun H1 e Q q E => ⟨x, n, rfl, h.ex e, q⟩
theorem scInteger : FnScope ["value"] ["value"] (defScope sInteger) := ⟨rfl, rfl, rfl, by decide +kernel, rfl, by decide +kernel, by decide +kernel⟩
theorem scWithin : FnScope ["value", "least", "most"] ["value", "least", "most"] (defScope sWithin) := ⟨rfl, rfl, rfl, by decide +kernel, rfl, by decide +kernel, by decide +kernel⟩
theorem scList : FnScope ["value"] ["value"] (defScope sList) := ⟨rfl, rfl, rfl, by decide +kernel, rfl, by decide +kernel, by decide +kernel⟩
theorem scLot : FnScope ["value"] ["value"] (defScope sLot) := ⟨rfl, rfl, rfl, by decide +kernel, rfl, by decide +kernel, by decide +kernel⟩
section
variable {P : Program} {w : World} {K : PySem.W.Frag} {mg : Str → Option Value} {base : Heap}
theorem ok_integer {f : Addr} {fd : FuncData} {k : Nat} (F : Fun K "is_integer" "is_integer" sInteger f fd) (mi : mg "isinstance" = none) (mint : mg "int" = none) (mbool : mg "bool" = none) : FnOk P w K mg base CX0 (k + 1) f fd ["value"] (spInteger K) := by
  refine F.ok scInteger (fun vs H Q E h => ?_) (fun cdv A outer s H vs Q E hr h => ?_)
  · obtain ⟨x, n, rfl, _⟩ := h
    rfl
  · obtain ⟨x, n, rfl, h, q⟩ := h
    refine ⟨_, pss_one (ps_ret (pe_and (pe_callB call_isi (by rfl) mi (by decide +kernel) (pa_cons (pv 0) (pa_cons (pe_bltn (v := .ty "int") (by rfl) mint (by decide +kernel) rfl) pa_nil)))
      (pe_one (pe_not (pe_callB call_isi (by rfl) mi (by decide +kernel) (pa_cons (pv 0) (pa_cons (pe_bltn (v := .ty "bool") (by rfl) mbool (by decide +kernel) rfl) pa_nil))))))), ?_⟩
    refine Evl.s_ret (v := .bl (is7 n "int" && !is7 n "bool")) (Evl.ev_andV (Evl.ev_cb (Evl.ea_cons (Evl.ev_var rfl) (Evl.ea_cons Evl.ev_c Evl.ea_nil)) (rc_isi h (.inl rfl))) fun _ =>
      Evl.ev_notV (Evl.ev_cb (Evl.ea_cons (Evl.ev_var rfl) (Evl.ea_cons Evl.ev_c Evl.ea_nil)) (rc_isi h (.inr (.inl rfl))))) fun H1 e1 => ?_
    rw [h.isInt]
    exact q H1 e1
theorem ok_list {f : Addr} {fd : FuncData} {k : Nat} (F : Fun K "is_list" "is_list" sList f fd) (mi : mg "isinstance" = none) (ml : mg "list" = none) (mt : mg "tuple" = none) : FnOk P w K mg base CX0 (k + 1) f fd ["value"] (spList K) := by
  refine F.ok scList (fun vs H Q E h => ?_) (fun cdv A outer s H vs Q E hr h => ?_)
  · obtain ⟨x, n, rfl, _⟩ := h
    rfl
  · obtain ⟨x, n, rfl, h, q⟩ := h
    refine ⟨_, pss_one (ps_ret (pe_callB call_isiT (by rfl) mi (by decide +kernel) (pa_cons (pv 0) (pa_cons (pe_tup (pa_cons (pe_bltn (v := .ty "list") (by rfl) ml (by decide +kernel) rfl) (pa_cons (pe_bltn (v := .ty "tuple") (by rfl) mt (by decide +kernel) rfl) pa_nil))) pa_nil)))), ?_⟩
    refine ⟨x, rfl, (by show 2 ≤ sizeLine; decide), fun T hT => ⟨x, T, [.ty "list", .ty "tuple"], .type n, [.type "list", .type "tuple"], is7 n "list" || is7 n "tuple", rfl, upd_same, .cons (.ty _) (.cons (.ty _) .nil), (h.ex (Evl.Ex.new hT)).tyx, ?_, ?_⟩⟩
    · refine kitAny_cons (h.kit (.inr (.inr (.inl rfl)))) (fun hb => kitAny_cons (h.kit (.inr (.inr (.inr rfl)))) (fun hb2 => ?_) fun hb2 => ?_) fun hb => ?_
      · rw [hb, hb2]; exact kitAny_nil
      · rw [hb2, Bool.or_true]
      · rw [hb, Bool.true_or]
    · show Q _ _
      rw [h.isSeq]
      exact q _ (Evl.Ex.new hT)
theorem ok_within {f fI : Addr} {fd fdI : FuncData} {k : Nat} (F : Fun K "is_within" "is_within" sWithin f fd) (FI : Fun K "is_integer" "is_integer" sInteger fI fdI) (GI : FnOk P w K mg base CX0 k fI fdI ["value"] (spInteger K)) (bI : Binds K fdI ["value"] []) (gI : mg "is_integer" = some (.ref fI)) :
    FnOk P w K mg base CX0 (k + 1) f fd ["value", "least", "most"] (spWithin K) := by
  refine F.ok scWithin (fun vs H Q E h => ?_) (fun cdv A outer s H vs Q E hr h => ?_)
  · obtain ⟨x, lo, hi, n, rfl, _⟩ := h
    rfl
  · obtain ⟨x, lo, hi, n, rfl, h, hlo, hhi, q⟩ := h
    refine ⟨_, pss_cons (ps_if (pt_not (pt_val (pe_call GI hr (by rfl) gI FI.kp bI .nil pass0 (pa_cons (pv 0) pa_nil)))) (pss_one (ps_ret pe_bl)) pss_nil)
      (pss_one (ps_ret (pe_and (pe_or (pe_cmpR op_isN (pv 1) pe_non (nomark _)) (pe_one (pe_cmpR op_ge (pv 0) (pv 1) (nomark _)))) (pe_one (pe_or (pe_cmpR op_isN (pv 2) pe_non (nomark _)) (pe_one (pe_cmpR op_le (pv 0) (pv 2) (nomark _)))))))), ?_⟩
    refine Evl.q_when (Evl.et_not (Evl.et_B (Evl.ev_call (Evl.ea_cons (Evl.ev_var rfl) Evl.ea_nil) (spv_integer h)))) (fun hb H1 e1 => ?_) (fun hb H1 e1 => ?_)
    · refine Evl.s_ret Evl.ev_c fun H2 e2 => ?_
      have hw : wi x lo hi = false := by
        cases h with
        | int i => exact absurd hb (by decide)
        | _ => rfl
      rw [← hw]
      exact q H2 (e1.trans e2)
    · cases h with
      | int i =>
        have hA : Evl.Ev (tOrV (tOp (fun x y H Q => y = .non ∧ Q (.bl (decide (x = .non))) H) (tVar 1) (tC .non)) (tOp (rI0 fun i j => V.bl (decide (j ≤ i))) (tVar 0) (tVar 1))) (start ["value", "least", "most"] [.int i, lo, hi]) H1 (.bl (okLo lo i)) := by
          cases lo with
          | non => exact Evl.ev_is (Evl.ev_orV (b := true) (Evl.ev_op (Evl.ev_var rfl) Evl.ev_c rv_isN) fun z => absurd z (by decide)) rfl
          | int j => exact Evl.ev_is (Evl.ev_orV (Evl.ev_op (Evl.ev_var rfl) Evl.ev_c rv_isN) fun _ => Evl.ev_op (Evl.ev_var rfl) (Evl.ev_var rfl) Evl.rv_I0) (by rw [show decide (V.int j = V.non) = false from rfl] <;> rfl)
          | _ => exact hlo.elim
        have hB : Evl.Ev (tOrV (tOp (fun x y H Q => y = .non ∧ Q (.bl (decide (x = .non))) H) (tVar 2) (tC .non)) (tOp (rI0 fun i j => V.bl (decide (i ≤ j))) (tVar 0) (tVar 2))) (start ["value", "least", "most"] [.int i, lo, hi]) H1 (.bl (okHi hi i)) := by
          cases hi with
          | non => exact Evl.ev_is (Evl.ev_orV (b := true) (Evl.ev_op (Evl.ev_var rfl) Evl.ev_c rv_isN) fun z => absurd z (by decide)) rfl
          | int j => exact Evl.ev_is (Evl.ev_orV (Evl.ev_op (Evl.ev_var rfl) Evl.ev_c rv_isN) fun _ => Evl.ev_op (Evl.ev_var rfl) (Evl.ev_var rfl) Evl.rv_I0) (by rw [show decide (V.int j = V.non) = false from rfl] <;> rfl)
          | _ => exact hhi.elim
        exact Evl.s_ret (Evl.ev_andV hA fun _ => hB) fun H2 e2 => q H2 (e1.trans e2)
      | _ => exact absurd hb (by decide)
end

/-- whether these items are a lot -/
def lotV (xs : List V) : Bool := xs.all (fun v => wi v (.int 1) .non) && decide xs.Nodup
/-- a value, and whether it is a lot -/
inductive LotR (K : PySem.W.Frag) (H : Hp) : V → Bool → Prop where
  | no {x : V} {n : String} (h : Ty7 K H x n) (h1 : n ≠ "list") (h2 : n ≠ "tuple") : LotR K H x false
  | lst {a : Addr} {xs : List V} (h : SqL K H a xs) (hl : xs.length ≤ 4000) (hi : ∀ v ∈ xs, ∃ n, Ty7 K H v n) : LotR K H (.ref a) (lotV xs)
  | tup {a : Addr} {xs : List V} (h : SqT K H a xs) (hl : xs.length ≤ 4000) (hi : ∀ v ∈ xs, ∃ n, Ty7 K H v n) : LotR K H (.ref a) (lotV xs)
theorem LotR.ex {K : PySem.W.Frag} {H H' : Hp} {x : V} {r : Bool} (h : LotR K H x r) (e : Evl.Ex H H') : LotR K H' x r := by
  cases h with
  | no h h1 h2 => exact .no (h.ex e) h1 h2
  | lst h hl hi => exact .lst (Evl.ex_l e h) hl fun v hv => (hi v hv).imp fun n hn => hn.ex e
  | tup h hl hi => exact .tup (Evl.ex_t e h) hl fun v hv => (hi v hv).imp fun n hn => hn.ex e
def spLot (K : PySem.W.Frag) : Sp := fun vs H Q _ => ∃ (x : V) (r : Bool), vs = [x] ∧ LotR K H x r ∧ ∀ H1, Evl.Ex H H1 → Q (.bl r) H1
theorem spv_lot {K : PySem.W.Frag} {H : Hp} {x : V} {r : Bool} (h : LotR K H x r) : Evl.SpV (spLot K) [x] H (.bl r) := fun H1 e Q q E => ⟨x, r, rfl, h.ex e, q⟩
theorem all_ints : ∀ {xs : List V}, xs.all (fun v => wi v (.int 1) .non) = true → ∃ ns : List Int, xs = ns.map V.int
  | [], _ => ⟨[], rfl⟩
  | x :: r, h => by
    rw [List.all_cons, Bool.and_eq_true_iff] at h
    obtain ⟨ns, e⟩ := all_ints h.2
    cases x with
    | int i => exact ⟨i :: ns, by rw [e]; rfl⟩
    | _ => exact absurd h.1 (by intro z; cases z)
theorem nodup_int (ns : List Int) : (ns.map V.int).Nodup ↔ ns.Nodup := by
  induction ns with
  | nil => exact ⟨fun _ => List.nodup_nil, fun _ => List.nodup_nil⟩
  | cons a r ih =>
    rw [List.map_cons, List.nodup_cons, List.nodup_cons, ih]
    refine and_congr (not_congr ?_) Iff.rfl
    rw [List.mem_map]
    exact ⟨fun ⟨b, hb, e⟩ => V.int.inj e ▸ hb, fun h => ⟨a, h, rfl⟩⟩
theorem ev_allN {K : PySem.W.Frag} {ta : TE} {σ : L2.St} {H : Hp} {bs : List Bool} (h : Evl.EvL ta σ H (bs.map V.bl)) : Evl.Ev (tCB (rAll K) (tCons ta tNil)) σ H (.bl (bs.all id)) := fun H1 e Q q =>
  h H1 e _ fun p H2 _ e2 h2 => ⟨p, bs, rfl, Evl.sq_of h2, q H2 e2⟩
/-- a comprehension over a tuple that stands -/
theorem el_lcT {K : PySem.W.Frag} {a : Addr} {xs : List V} {tl te : TE} {t : TT} {σ : L2.St} {H : Hp} {j : Nat} {vs : List Nat} (f : Nat → Bool) (v : Nat → V) (h : Evl.Ev tl σ H (.ref a)) (hx : SqT K H a xs) (hz : xs.length ≤ 40000)
    (hw : ∀ x, wipe ((wipe σ vs).set j (some x)) vs = wipe σ vs) (ht : ∀ (i : Nat) (x : V) H1, Evl.Ex H H1 → xs[i]? = some x → Evl.EvT t ((wipe σ vs).set j (some x)) H1 (f i))
    (he : ∀ (i : Nat) (x : V) H1, Evl.Ex H H1 → xs[i]? = some x → f i = true → Evl.Ev te ((wipe σ vs).set j (some x)) H1 (v i)) : Evl.EvL (tLc (iTup K tl) (gName j) t te vs) σ H (Evl.given xs.length f v) := by
  intro H0 e Q q
  refine h H0 e _ fun H1 e1 => ⟨a, rfl, ⟨xs, Evl.ex_t (e.trans e1) hx⟩, fun Dl hD => lc_tup (xs := xs) (Evl.Cw H1 f v Dl) ⟨hD, Evl.Ex.new hD, upd_same⟩ (fun i H' _ p => Evl.ex_t ((e.trans e1).trans p.2.1) hx) (fun i x H' hi p => ⟨hw x, ?_⟩) fun H' p => q Dl H' (Evl.fresh_back e1 p.1) (e1.trans p.2.1) p.2.2⟩
  have hlt := (List.getElem?_eq_some_iff.mp hi).1
  exact Evl.cw_turn p (by omega) (ht i x H1 (e.trans e1) hi) fun hf => he i x H1 (e.trans e1) hi hf
/-- a value, and whether it is a list of integers within bounds -/
inductive RowR (K : PySem.W.Frag) (H : Hp) (lo hi : V) : V → Bool → Prop where
  | no {x : V} {n : String} (h : Ty7 K H x n) (h1 : n ≠ "list") (h2 : n ≠ "tuple") : RowR K H lo hi x false
  | lst {a : Addr} {xs : List V} (h : SqL K H a xs) (hl : xs.length ≤ 4000) (hi_ : ∀ v ∈ xs, ∃ n, Ty7 K H v n) : RowR K H lo hi (.ref a) (xs.all fun v => wi v lo hi)
  | tup {a : Addr} {xs : List V} (h : SqT K H a xs) (hl : xs.length ≤ 4000) (hi_ : ∀ v ∈ xs, ∃ n, Ty7 K H v n) : RowR K H lo hi (.ref a) (xs.all fun v => wi v lo hi)
theorem RowR.ex {K : PySem.W.Frag} {H H' : Hp} {lo hi x : V} {r : Bool} (h : RowR K H lo hi x r) (e : Evl.Ex H H') : RowR K H' lo hi x r := by
  cases h with
  | no h h1 h2 => exact .no (h.ex e) h1 h2
  | lst h hl hi => exact .lst (Evl.ex_l e h) hl fun v hv => (hi v hv).imp fun n hn => hn.ex e
  | tup h hl hi => exact .tup (Evl.ex_t e h) hl fun v hv => (hi v hv).imp fun n hn => hn.ex e
def spRow (K : PySem.W.Frag) : Sp := fun vs H Q _ => ∃ (x lo hi : V) (r : Bool), vs = [x, lo, hi] ∧ RowR K H lo hi x r ∧ Bnd lo ∧ Bnd hi ∧ ∀ H1, Evl.Ex H H1 → Q (.bl r) H1
theorem scRow : FnScope ["value", "least", "most", "item"] ["value", "least", "most"] (defScope sRow) := ⟨rfl, rfl, rfl, by decide +kernel, rfl, by decide +kernel, by decide +kernel⟩
section
variable {P : Program} {w : World} {K : PySem.W.Frag} {mg : Str → Option Value} {base : Heap}
theorem ok_row {f fW fL : Addr} {fd fdW fdL : FuncData} {k : Nat} (F : Fun K "is_row" "is_row" sRow f fd)
    (FW : Fun K "is_within" "is_within" sWithin fW fdW) (GW : FnOk P w K mg base CX0 k fW fdW ["value", "least", "most"] (spWithin K)) (bW : Binds K fdW ["value", "least", "most"] []) (gW : mg "is_within" = some (.ref fW))
    (FL : Fun K "is_list" "is_list" sList fL fdL) (GL : FnOk P w K mg base CX0 k fL fdL ["value"] (spList K)) (bL : Binds K fdL ["value"] []) (gL : mg "is_list" = some (.ref fL)) (mall : mg "all" = none) :
    FnOk P w K mg base CX0 (k + 1) f fd ["value", "least", "most"] (spRow K) := by
  refine F.ok scRow (fun vs H Q E h => ?_) (fun cdv A outer s H vs Q E hr h => ?_)
  · obtain ⟨x, lo, hi, r, rfl, _⟩ := h
    rfl
  · obtain ⟨x, lo, hi, r, rfl, h, hlo, hhi, q⟩ := h
    have nd := scRow.nd
    have isl : ∀ {n : String}, Ty7 K H x n → Evl.Ev (tCall (spList K) [] E0 (tCons (tVar 0) tNil)) (start ["value", "least", "most", "item"] [x, lo, hi]) H (.bl (decide (n = "list") || decide (n = "tuple"))) :=
      fun h7 => Evl.ev_call (Evl.ea_cons (Evl.ev_var rfl) Evl.ea_nil) (spv_list h7)
    have items : ∀ {H1 : Hp} {xs : List V} {i : Nat} {v : V}, Evl.Ex H H1 → (∀ v ∈ xs, ∃ n, Ty7 K H v n) → xs[i]? = some v → Evl.Ev (tCall (spWithin K) [] E0 (tCons (tVar 3) (tCons (tVar 1) (tCons (tVar 2) tNil)))) [none, some lo, some hi, some v] H1 (.bl (wi (xs.getD i .non) lo hi)) :=
      fun {H1 xs i v} e hi' hv => by
        obtain ⟨n, hn⟩ := hi' v (List.mem_of_getElem? hv)
        have ev : xs.getD i .non = v := by rw [List.getD_eq_getElem?_getD, hv]; rfl
        rw [ev]
        exact Evl.ev_call (Evl.ea_cons (Evl.ev_var rfl) (Evl.ea_cons (Evl.ev_var rfl) (Evl.ea_cons (Evl.ev_var rfl) Evl.ea_nil))) (spv_within (hn.ex e) hlo hhi)
    have ebs : ∀ xs : List V, Evl.given xs.length (fun _ => true) (fun i => V.bl (wi (xs.getD i .non) lo hi)) = (xs.map fun v => wi v lo hi).map V.bl := fun xs => by
      rw [given_all xs .non fun v => V.bl (wi v lo hi), List.map_map]
      rfl
    have eall : ∀ xs : List V, (true && (xs.map fun v => wi v lo hi).all id) = xs.all fun v => wi v lo hi := fun xs => by
      rw [Bool.true_and, List.all_map]
      rfl
    cases h with
    | @no x n h7 h1 h2 =>
      refine ⟨_, pss_one (ps_ret (pe_and (pe_call GL hr (by rfl) gL FL.kp bL .nil pass0 (pa_cons (pv 0) pa_nil)) (pe_one (pe_callB (cr_all rfl) (by rfl) mall (by decide +kernel) (pa_cons
          (pe_lc (own := [("item", 3)]) (g := gName 3) (tt := tYes) rfl nd (pi_list (pv 0)) (blkOk_by (N := ["value", "least", "most", "item"]) (sc := defScope sRow) (by decide +kernel)) (fun _ _ _ _ _ => pg_name (i := 3) nd rfl (Or.inl rfl)) (fun _ _ _ _ _ => pts_nil)
            (fun _ _ _ _ _ => pe_call GW (hr) (by rfl) gW FW.kp bW .nil pass0 (pa_cons (pv 3) (pa_cons (pv 1) (pa_cons (pv 2) pa_nil))))) pa_nil))))), ?_⟩
      have eb : (decide (n = "list") || decide (n = "tuple")) = false := by simp [h1, h2]
      exact Evl.s_ret (Evl.ev_is (Evl.ev_andV (b := false) (isl h7) fun z => by rw [eb] at z; cases z) (by rw [eb] <;> rfl)) q
    | @lst a xs hS hl hi0 =>
      refine ⟨_, pss_one (ps_ret (pe_and (pe_call GL hr (by rfl) gL FL.kp bL .nil pass0 (pa_cons (pv 0) pa_nil)) (pe_one (pe_callB (cr_all rfl) (by rfl) mall (by decide +kernel) (pa_cons
          (pe_lc (own := [("item", 3)]) (g := gName 3) (tt := tYes) rfl nd (pi_list (pv 0)) (blkOk_by (N := ["value", "least", "most", "item"]) (sc := defScope sRow) (by decide +kernel)) (fun _ _ _ _ _ => pg_name (i := 3) nd rfl (Or.inl rfl)) (fun _ _ _ _ _ => pts_nil)
            (fun _ _ _ _ _ => pe_call GW (hr) (by rfl) gW FW.kp bW .nil pass0 (pa_cons (pv 3) (pa_cons (pv 1) (pa_cons (pv 2) pa_nil))))) pa_nil))))), ?_⟩
      refine Evl.s_ret (Evl.ev_is (Evl.ev_andV (isl (.lst hS)) fun _ => ev_allN (bs := xs.map fun v => wi v lo hi) ?_) (congrArg V.bl (eall xs))) q
      rw [← ebs]
      exact Evl.el_lcL (fun _ => true) _ (Evl.ev_var rfl) hS (by omega) (fun _ => rfl) (fun _ _ _ _ _ => et_yes) fun i v H1 e1 hv _ => items e1 hi0 hv
    | @tup a xs hS hl hi0 =>
      refine ⟨_, pss_one (ps_ret (pe_and (pe_call GL hr (by rfl) gL FL.kp bL .nil pass0 (pa_cons (pv 0) pa_nil)) (pe_one (pe_callB (cr_all rfl) (by rfl) mall (by decide +kernel) (pa_cons
          (pe_lc (own := [("item", 3)]) (g := gName 3) (tt := tYes) rfl nd (pi_tup (pv 0)) (blkOk_by (N := ["value", "least", "most", "item"]) (sc := defScope sRow) (by decide +kernel)) (fun _ _ _ _ _ => pg_name (i := 3) nd rfl (Or.inl rfl)) (fun _ _ _ _ _ => pts_nil)
            (fun _ _ _ _ _ => pe_call GW (hr) (by rfl) gW FW.kp bW .nil pass0 (pa_cons (pv 3) (pa_cons (pv 1) (pa_cons (pv 2) pa_nil))))) pa_nil))))), ?_⟩
      refine Evl.s_ret (Evl.ev_is (Evl.ev_andV (isl (.tup hS)) fun _ => ev_allN (bs := xs.map fun v => wi v lo hi) ?_) (congrArg V.bl (eall xs))) q
      rw [← ebs]
      exact el_lcT (fun _ => true) _ (Evl.ev_var rfl) hS (by omega) (fun _ => rfl) (fun _ _ _ _ _ => et_yes) fun i v H1 e1 hv _ => items e1 hi0 hv
end
theorem spv_row {K : PySem.W.Frag} {H : Hp} {x lo hi : V} {r : Bool} (h : RowR K H lo hi x r) (h1 : Bnd lo) (h2 : Bnd hi) : Evl.SpV (spRow K) [x, lo, hi] H (.bl r) := fun H1 e Q q E => ⟨x, lo, hi, r, rfl, h.ex e, h1, h2, q⟩
/-- whether these items are unlike integers from lo on -/
def unV (lo : V) (xs : List V) : Bool := xs.all (fun v => wi v lo .non) && decide xs.Nodup
inductive UnR (K : PySem.W.Frag) (H : Hp) (lo : V) : V → Bool → Prop where
  | no {x : V} {n : String} (h : Ty7 K H x n) (h1 : n ≠ "list") (h2 : n ≠ "tuple") : UnR K H lo x false
  | lst {a : Addr} {xs : List V} (h : SqL K H a xs) (hl : xs.length ≤ 4000) (hi : ∀ v ∈ xs, ∃ n, Ty7 K H v n) : UnR K H lo (.ref a) (unV lo xs)
  | tup {a : Addr} {xs : List V} (h : SqT K H a xs) (hl : xs.length ≤ 4000) (hi : ∀ v ∈ xs, ∃ n, Ty7 K H v n) : UnR K H lo (.ref a) (unV lo xs)
theorem UnR.ex {K : PySem.W.Frag} {H H' : Hp} {lo x : V} {r : Bool} (h : UnR K H lo x r) (e : Evl.Ex H H') : UnR K H' lo x r := by
  cases h with
  | no h h1 h2 => exact .no (h.ex e) h1 h2
  | lst h hl hi => exact .lst (Evl.ex_l e h) hl fun v hv => (hi v hv).imp fun n hn => hn.ex e
  | tup h hl hi => exact .tup (Evl.ex_t e h) hl fun v hv => (hi v hv).imp fun n hn => hn.ex e
def spUn (K : PySem.W.Frag) : Sp := fun vs H Q _ => ∃ (x lo : V) (r : Bool), vs = [x, lo] ∧ UnR K H lo x r ∧ Bnd lo ∧ ∀ H1, Evl.Ex H H1 → Q (.bl r) H1
theorem spv_un {K : PySem.W.Frag} {H : Hp} {x lo : V} {r : Bool} (h : UnR K H lo x r) (h1 : Bnd lo) : Evl.SpV (spUn K) [x, lo] H (.bl r) := fun H1 e Q q E => ⟨x, lo, r, rfl, h.ex e, h1, q⟩
theorem ints_of {lo : V} : ∀ {xs : List V}, xs.all (fun v => wi v lo .non) = true → ∃ ns : List Int, xs = ns.map V.int
  | [], _ => ⟨[], rfl⟩
  | x :: r, h => by
    rw [List.all_cons, Bool.and_eq_true_iff] at h
    obtain ⟨ns, e⟩ := ints_of h.2
    cases x with
    | int i => exact ⟨i :: ns, by rw [e]; rfl⟩
    | _ => exact absurd h.1 (by intro z; cases z)
theorem un_end {xs : List V} {ns : List Int} {c : Nat} (e : xs = ns.map V.int) (hc : c = ns.length ↔ ns.Nodup) : decide (V.int (c : Int) = V.int (xs.length : Int)) = decide xs.Nodup := by
  subst e
  refine decide_eq_decide.mpr ?_
  rw [nodup_int, ← hc, List.length_map]
  exact ⟨fun z => by have := V.int.inj z; omega, fun z => by rw [z]⟩
theorem scUn : FnScope ["value", "least"] ["value", "least"] (defScope sUn) := ⟨rfl, rfl, rfl, by decide +kernel, rfl, by decide +kernel, by decide +kernel⟩
section
variable {P : Program} {w : World} {K : PySem.W.Frag} {mg : Str → Option Value} {base : Heap}
theorem ok_unlike {f fR : Addr} {fd fdR : FuncData} {k : Nat} (F : Fun K "are_unlike" "are_unlike" sUn f fd)
    (FR : Fun K "is_row" "is_row" sRow fR fdR) (GR : FnOk P w K mg base CX0 k fR fdR ["value", "least", "most"] (spRow K)) (bR : Binds K fdR ["value", "least", "most"] []) (gR : mg "is_row" = some (.ref fR))
    (mlen : mg "len" = none) (mset : mg "set" = none) : FnOk P w K mg base CX0 (k + 1) f fd ["value", "least"] (spUn K) := by
  refine F.ok scUn (fun vs H Q E h => ?_) (fun cdv A outer s H vs Q E hr h => ?_)
  · obtain ⟨x, lo, r, rfl, _⟩ := h
    rfl
  · obtain ⟨x, lo, r, rfl, h, hlo, q⟩ := h
    cases h with
    | @no x n h7 h1 h2 =>
      refine ⟨_, pss_one (ps_ret (pe_and (pe_call GR hr (by rfl) gR FR.kp bR .nil pass0 (pa_cons (pv 0) (pa_cons (pv 1) (pa_cons pe_non pa_nil)))) (pe_one (pe_cmpR op_eq (pe_lenSetN (by rfl) mlen (by rfl) mset (pv 0)) (pe_callB call_len_seq (by rfl) mlen PySem.boot_len (pa_cons (pv 0) pa_nil)) (nomark _))))), ?_⟩
      exact Evl.s_ret (Evl.ev_andV (b := false) (Evl.ev_call (Evl.ea_cons (Evl.ev_var rfl) (Evl.ea_cons (Evl.ev_var rfl) (Evl.ea_cons Evl.ev_c Evl.ea_nil))) (spv_row (.no h7 h1 h2) hlo trivial)) fun z => nomatch z) q
    | @lst a xs hS hl hi =>
      refine ⟨_, pss_one (ps_ret (pe_and (pe_call GR hr (by rfl) gR FR.kp bR .nil pass0 (pa_cons (pv 0) (pa_cons (pv 1) (pa_cons pe_non pa_nil)))) (pe_one (pe_cmpR op_eq (pe_lenSetN (by rfl) mlen (by rfl) mset (pv 0)) (pe_callB call_len_seq (by rfl) mlen PySem.boot_len (pa_cons (pv 0) pa_nil)) (nomark _))))), ?_⟩
      refine Evl.s_ret (v := .bl (unV lo xs)) (Evl.ev_andV (Evl.ev_call (Evl.ea_cons (Evl.ev_var rfl) (Evl.ea_cons (Evl.ev_var rfl) (Evl.ea_cons Evl.ev_c Evl.ea_nil))) (spv_row (.lst hS hl hi) hlo trivial)) fun ha H1 e Q' q' => ?_) q
      obtain ⟨ns, en⟩ := ints_of ha
      refine ⟨.ref a, rfl, a, ns, rfl, en ▸ Evl.ex_l e hS, by rw [en, List.length_map] at hl; exact hl, fun c hc => ⟨.ref a, rfl, a, xs, rfl, .inl (Evl.ex_l e hS), rfl, ?_⟩⟩
      rw [un_end en hc]
      exact q' H1 (Evl.Ex.refl _)
    | @tup a xs hS hl hi =>
      refine ⟨_, pss_one (ps_ret (pe_and (pe_call GR hr (by rfl) gR FR.kp bR .nil pass0 (pa_cons (pv 0) (pa_cons (pv 1) (pa_cons pe_non pa_nil)))) (pe_one (pe_cmpR op_eq (pe_lenSetU (by rfl) mlen (by rfl) mset (pv 0)) (pe_callB call_len_seq (by rfl) mlen PySem.boot_len (pa_cons (pv 0) pa_nil)) (nomark _))))), ?_⟩
      refine Evl.s_ret (v := .bl (unV lo xs)) (Evl.ev_andV (Evl.ev_call (Evl.ea_cons (Evl.ev_var rfl) (Evl.ea_cons (Evl.ev_var rfl) (Evl.ea_cons Evl.ev_c Evl.ea_nil))) (spv_row (.tup hS hl hi) hlo trivial)) fun ha H1 e Q' q' => ?_) q
      obtain ⟨ns, en⟩ := ints_of ha
      refine ⟨.ref a, rfl, a, ns, rfl, en ▸ Evl.ex_t e hS, by rw [en, List.length_map] at hl; exact hl, fun c hc => ⟨.ref a, rfl, a, xs, rfl, .inr (Evl.ex_t e hS), rfl, ?_⟩⟩
      rw [un_end en hc]
      exact q' H1 (Evl.Ex.refl _)
theorem LotR.un {H : Hp} {x : V} {r : Bool} (h : LotR K H x r) : UnR K H (.int 1) x r := by
  cases h with
  | no h h1 h2 => exact .no h h1 h2
  | lst h hl hi => exact .lst h hl hi
  | tup h hl hi => exact .tup h hl hi
theorem ok_lot {f fU : Addr} {fd fdU : FuncData} {k : Nat} (F : Fun K "is_lot" "is_lot" sLot f fd) (FU : Fun K "are_unlike" "are_unlike" sUn fU fdU) (GU : FnOk P w K mg base CX0 k fU fdU ["value", "least"] (spUn K)) (bU : Binds K fdU ["value", "least"] []) (gU : mg "are_unlike" = some (.ref fU)) :
    FnOk P w K mg base CX0 (k + 1) f fd ["value"] (spLot K) := by
  refine F.ok scLot (fun vs H Q E h => ?_) (fun cdv A outer s H vs Q E hr h => ?_)
  · obtain ⟨x, r, rfl, _⟩ := h
    rfl
  · obtain ⟨x, r, rfl, h, q⟩ := h
    refine ⟨_, pss_one (ps_ret (pe_call GU hr (by rfl) gU FU.kp bU .nil pass0 (pa_cons (pv 0) (pa_cons pe_int pa_nil)))), ?_⟩
    exact Evl.s_ret (Evl.ev_call (Evl.ea_cons (Evl.ev_var rfl) (Evl.ea_cons Evl.ev_c Evl.ea_nil)) (spv_un h.un trivial)) q
end
theorem scTub : FnScope ["script", "cell"] ["script"] (defScope sTub) := ⟨rfl, rfl, rfl, by decide +kernel, rfl, by decide +kernel, by decide +kernel⟩
/-- the drawer as it is made: new -/
def spTub (K : PySem.W.Frag) : Sp := fun vs H Q _ => ∃ (a : Addr) (ns : List Int), vs = [.ref a] ∧ SqL K H a (ns.map V.int) ∧ ns.length ≤ 1000 ∧ ∀ t c H', H t = none → H c = none → Same H H' → Tub H' t c 0 → Q (.ref t) H'
section
open Evl
variable {K : PySem.W.Frag} {σ : L2.St} {H : Hp}
theorem ev_callNU {sp : Sp} {gV : List V → List V → List V} {E : XK} {ta : TE} {xs : List V} {z : V} (h : EvU ta σ H xs) (hs : ∀ p H1, H1 p = some (.tup xs) → Ex H H1 → SpV sp (gV [] [.ref p]) H1 z) : Ev (tCallN 0 1 sp gV E tNil (tCons ta tNil)) σ H z := fun H1 e Q q =>
  h H1 e _ fun p H2 _ e2 h2 => ⟨rfl, rfl, hs p H2 h2 (e.trans e2) H2 (Ex.refl H2) Q (fun H3 e3 => q H3 (e2.trans e3)) E⟩
theorem eu_tuple {ta : TE} {l : Addr} {xs : List V} (h : Ev ta σ H (.ref l)) (hl : SqL K H l xs) : EvU (tCB (fun xs H Q => ∃ p ys, xs = [V.ref p] ∧ ((SqL K H p ys ∧ ∀ l, H l = none → Q (V.ref l) (upd H l (HO.tup ys))) ∨ (SqT K H p ys ∧ Q (V.ref p) H))) (tCons ta tNil)) σ H xs := fun H1 e Q q =>
  h H1 e _ fun H2 e2 => ⟨l, xs, rfl, .inl ⟨ex_l (e.trans e2) hl, fun p hp => q p _ (fresh_back e2 hp) (e2.trans (Ex.new hp)) upd_same⟩⟩
theorem ev_callN {sp : Sp} {m : Nat} {gV : List V → List V → List V} {E : XK} {tk : TA} {zs : List V} {z : V} (h : EvA tk σ H zs) (hl : zs.length = m) (hs : SpV sp (gV [] zs) H z) : Ev (tCallN 0 m sp gV E tNil tk) σ H z := fun H1 e Q q =>
  h H1 e _ fun H2 e2 => ⟨rfl, hl, hs H2 (e.trans e2) Q (fun H3 e3 => q H3 (e2.trans e3)) E⟩
theorem et_ne_same {ta tb : TE} {z : Str} (h1 : Ev ta σ H (.str z)) (h2 : Ev tb σ H (.str z)) : EvT (tTest (tOp rNe ta tb)) σ H false :=
  et_is (et_test (ev_op h1 h2 (rv_ne rfl))) (by rw [decide_eq_true rfl] <;> rfl)
end
section
variable {P : Program} {w : World} {K : PySem.W.Frag} {mg : Str → Option Value} {base : Heap}
theorem ok_tub {f : Addr} {fd : FuncData} {k : Nat} (F : Fun K "_law_yard" "_law_yard" sTub f fd) (mint : mg "int" = none) : FnOk P w K mg base CX0 (k + 1) f fd ["script"] (spTub K) := by
  refine F.ok scTub (fun vs H Q E h => ?_) (fun cdv A outer s H vs Q E hr h => ?_)
  · obtain ⟨a, ns, rfl, _⟩ := h
    rfl
  · obtain ⟨a, ns, rfl, hS, hl, q⟩ := h
    have nd := scTub.nd
    refine ⟨_, pss_one (ps_ret (pe_lst (pa_cons (pe_lc (own := [("cell", 1)]) (g := gName 1) (tt := tYes) rfl nd (pi_list (pe_slice sl_list (pv 0) po_none (po_some pe_int))) (blkOk_by (N := ["script", "cell"]) (sc := defScope sTub) (by decide +kernel)) (fun _ _ _ _ _ => pg_name (i := 1) nd rfl (Or.inl rfl)) (fun _ _ _ _ _ => pts_nil) (fun _ _ _ _ _ => pe_callTy call_int1 (by rfl) mint (by decide +kernel) (pa_cons (pv 1) pa_nil))) (pa_cons pe_int (pa_cons pe_int pa_nil))))), ?_⟩
    have e0 : cutV (ns.map V.int) none (some 58) = (ns.take 58).map V.int := by rw [cut58, List.map_take]
    refine ret_lst (cons_l (Evl.el_lcNL (K := K) (H := H) (j := 1) (xs := (ns.take 58).map V.int) (fun _ => true) (fun i => V.int ((ns.take 58).getD i 0)) ?_ ?_ ?_ ?_ ?_) (fun p H1 hp e1 h1 => ?_))
    · rw [← e0]
      exact Evl.el_sl (Evl.ev_var rfl) Evl.eo_none (Evl.eo_some Evl.ev_c) hS
    · rw [List.length_map, List.length_take]
      omega
    · exact fun x => rfl
    · exact fun i x H1 _ _ => et_yes
    · intro i x H1 _ hx _
      have hx2 : x = V.int ((ns.take 58).getD i 0) := by
        rw [List.getElem?_map] at hx
        cases hz : (ns.take 58)[i]? with
        | none => rw [hz] at hx; cases hx
        | some z =>
          rw [hz] at hx
          rw [List.getD_eq_getElem?_getD, hz]
          exact (Option.some.inj hx).symm
      subst hx2
      exact ev_int (Evl.ev_var rfl)
    · rw [List.length_map, given_all (ns.take 58) 0 V.int] at h1
      refine ⟨by show 3 ≤ sizeLine; decide, fun t ht => ?_⟩
      refine q t p _ (Evl.fresh_back e1 ht) hp (fun b o hb => ?_) ⟨ns.take 58, 0, 0, upd_same, ?_, ne_of_none h1 ht, by rw [List.length_take]; omega, Int.le_refl _, Int.le_refl _, Int.le_refl _⟩
      · rw [upd_ne (ne_of_none (e1 _ _ hb) ht)]
        exact e1 _ _ hb
      · rw [upd_ne (ne_of_none h1 ht)]
        exact h1
end
end Tl
end S_Yb
section S_Ya
namespace Tl
open PySem PySem.Spec PyProof.Rows L2
/-! ### sorted(t) of a tuple of ints -/
section
variable {prog : Program} {w : World} {A : Around} {E : Value → Shared → Prop} {s : Shared}
abbrev heapL (h : Heap) (zs : List Value) : Heap := (h.push (seqObj "list" #[] 0)).update h.objs.size (Obj.mapSeq (· ++ zs.toArray))
theorem collect_tup {l : Addr} {zs : List Value} {Q : List Value → Shared → Prop} (hl : s.heap.IsTuple l zs.toArray) (hz : zs.length ≤ sizeLine)
    (h : Q zs { s with heap := heapL s.heap zs }) : wpAny (model prog w) A (collect (.ref l)) Q E s := by
  obtain ⟨ob, hob, hcl, m, hdt⟩ := id hl
  unfold collect
  refine wpAny_bind (wpAny_runValue (codeAny_builtin entry_proto_collect' ?_))
  show wpAny _ _ (do again (.builtin "list.__iadd__" ⟨[← newList [], .ref l], []⟩)) _ _ s
  refine wpAny_bind (wpAny_newList (wpAny_pure ⟨Code.quiet_builtin _ (by decide +kernel), codeAny_builtin entry_list_iadd' ?_⟩))
  show wpAny _ _ (Builtin.List.listExtendWith (.ref s.heap.objs.size) (.ref l) (.ref s.heap.objs.size)) _ _ { s with heap := s.heap.push (seqObj "list" #[] 0) }
  unfold Builtin.List.listExtendWith
  have hob' : (s.heap.push (seqObj "list" #[] 0)).get? l = some ob := Heap.get?_push_of_some _ hob
  refine wpAny_bind (wpAny_typeOf (T := "tuple") ⟨ob, hob', hcl⟩ ?_)
  have h1 : (Value.type "tuple" == Value.type "list") = false := by rfl
  have h2 : (Value.type "tuple" == Value.type "tuple") = true := by rfl
  rw [if_pos (by rw [h1, h2]; simp)]
  refine wpAny_bind (listItems_at hob' hdt ?_)
  refine wpAny_bind (listItems_at (xs := #[]) (n := 0) (Heap.get?_push_size _ rfl) rfl ?_)
  rw [if_neg (by simp)]
  refine wpAny_bind (listUpdate_at (xs := #[]) (n := 0) (Heap.get?_push_size _ rfl) rfl ?_ (Nat.zero_le _) (by
    show (#[] ++ zs.toArray).size ≤ sizeLine + 1
    simp only [Array.size_append, List.size_toArray, List.length_nil]
    omega))
  refine wpAny_pure ?_
  refine (show wpAny (model prog w) A (load s.heap.objs.size >>= _) Q E { s with heap := heapL s.heap zs } from wpAny_bind (wpAny_load (get?_update_seq (Heap.get?_push_size _ rfl) _) ?_))
  show wpAny _ _ (pure ((#[] : Array Value) ++ zs.toArray).toList) Q E _
  have e : ((#[] : Array Value) ++ zs.toArray).toList = zs := by simp
  rw [e]
  exact wpAny_pure h
theorem sorted_tup {l : Addr} {zs : List Value} {lt : Value → Value → Bool} {Q : Value → Shared → Prop} (O : SrtO.Swo lt) (hl : s.heap.IsTuple l zs.toArray) (hz : zs.length ≤ sizeLine)
    (hS : 2 ≤ zs.length → ∀ (g : Heap) (a : Addr), g.get? a = some (seqObj "list" zs.toArray 0) → (∀ b o, s.heap.get? b = some o → b ≠ a ∧ g.get? b = some o) → SrtO.SortableO prog w A.in1.in1 { s with heap := g } a zs lt)
    (h : ∀ out : List Value, SrtO.Srtd lt out → SrtO.Stb lt out zs → Q (.ref (s.heap.objs.size + 1)) { s with heap := sortedAll s.heap zs out.toArray }) :
    wpAny (model prog w) A (call (.builtin "sorted") [.ref l]) Q E s := by
  refine Calls.call_function_entry kind_sorted plain_sorted entry_sorted (args_sorted1 _) ?_
  unfold Builtin.«sorted»
  refine wpAny_bind (m := checkCount "sorted" 1 1 _) (wpAny_pure (wpAny_bind (collect_tup hl hz (wpAny_bind (wpAny_newList ?_ hz)))))
  have sz : (heapL s.heap zs).objs.size = s.heap.objs.size + 1 := by
    show ((s.heap.push (seqObj "list" #[] 0)).update s.heap.objs.size (Obj.mapSeq (· ++ zs.toArray))).objs.size = _
    rw [Heap.size_update, size_push']
  have at1 : ((heapL s.heap zs).push (seqObj "list" zs.toArray 0)).get? (s.heap.objs.size + 1) = some (seqObj "list" zs.toArray 0) := by
    rw [← sz]
    exact Heap.get?_push_size _ rfl
  have up : ∀ b o, s.heap.get? b = some o → b ≠ s.heap.objs.size + 1 ∧ ((heapL s.heap zs).push (seqObj "list" zs.toArray 0)).get? b = some o := fun b o q => by
    have lt : b < s.heap.objs.size := Heap.lt_size q
    refine ⟨Nat.ne_of_lt (Nat.lt_succ_of_lt lt), Heap.get?_push_of_some _ ?_⟩
    show ((s.heap.push (seqObj "list" #[] 0)).update s.heap.objs.size (Obj.mapSeq (· ++ zs.toArray))).get? b = some o
    rw [Heap.get?_update_ne _ _ _ _ (Nat.ne_of_lt lt)]
    exact Heap.get?_push_of_some _ q
  show wpAny _ _ _ _ _ { s with heap := (heapL s.heap zs).push (seqObj "list" zs.toArray 0) }
  rw [sz]
  refine wpAny_bind (wpAny_holding (wpAny_call_entry slot_list_sort ⟨_, at1, rfl⟩ entry_list_sort (SrtO.list_sort_ord O at1 hz (fun h2 => hS h2 _ _ at1 up) fun out a b => ⟨_, rfl, ?_⟩) (args_list_sort _)))
  exact wpAny_pure ⟨_, rfl, h out a b⟩
end
def rSortedU (K : PySem.W.Frag) : List V → Hp → VK → Prop := fun vs H Q => ∃ (a : Addr) (ns : List Int), vs = [V.ref a] ∧ (SqL K H a (ns.map V.int) ∨ SqT K H a (ns.map V.int)) ∧
  ∀ (ms : List Int) (p : Addr), ms.Perm ns → ms.Pairwise (· ≤ ·) → H p = none → Q (.ref p) (upd H p (.lst (ms.map V.int)))
/-- sorted(xs) of a list or a tuple of ints -/
theorem cr_sortedU {X : Cx} : CallR X (.builtin "sorted") (rSortedU X.K) := by
  intro pins s σ H vs us Q I r h
  obtain ⟨a, ns, rfl, hs | hs, q⟩ := h
  · exact cr_sortedI pins s σ H _ us Q I r ⟨a, ns, rfl, hs, q⟩
  · obtain ⟨its, rv, hl, hz⟩ := I.tuple hs
    rw [Vals.ref1 r]
    have hi := rv.ints
    refine sorted_tup SrtO.swo_int hl (by rw [← rv.length]; exact hz) (fun h2 g b _ _ => SrtO.ints_sortable hi h2) fun out h1 h2 => ?_
    obtain ⟨k1, k2, k3⟩ := SrtO.ints_out hi h1 h2
    obtain ⟨ep, hep⟩ := PyProof.Rows.sortedAll_at s.heap its out.toArray
    have hn : ((out.map SrtO.iv).map V.int).length ≤ sizeLine := by
      rw [List.length_map] at hz ⊢
      rw [k2.length_eq]
      exact hz
    exact ⟨.ref _, upd H (s.heap.objs.size + 1) (.lst ((out.map SrtO.iv).map V.int)), I.laid (t' := s.toks) (fun _ _ => PyProof.Rows.sortedAll_old) (Nat.le_succ _) ⟨hn, out, ep, vals_of_ints k1, hep⟩, rfl, q _ _ k2 k3 (I.hok.fresh (Nat.le_succ _))⟩
/-! ### enumerate(t) of a tuple -/
set_option maxHeartbeats 1000000 in
theorem enum_new1 {v : Value} {o : Obj} {G : Heap → Prop} (B : Begins v o G) :
    Meets (Builtin.«enumerate.__new__» ⟨[.type "enumerate", v], []⟩) (fun _ R z => G z.heap ∧
      R (.ok (.ret (.ref (z.heap.push o).objs.size))) { z with heap := (z.heap.push o).push { cls := .type "enumerate", data := .fields #[.none, .bool false, .ref z.heap.objs.size, rawInt 0, .none, .none] } }) :=
  .of_wp fun pr wo Ar R z h => by
    obtain ⟨hh, ge, dd, tt, oo⟩ := z
    obtain ⟨g1, h⟩ := h
    have sb := sub_enumerate
    have it1 : ∀ {A' : Around} {E : Value → Shared → Prop} {Q : Value → Shared → Prop}, Q (.ref hh.objs.size) ⟨hh.push o, ge, dd, tt, oo⟩ → wpAny (model pr wo) A' (pyIter v) Q E ⟨hh, ge, dd, tt, oo⟩ :=
      fun q => B.iter pr wo _ _ ⟨hh, ge, dd, tt, oo⟩ _ g1 q
    wp_walk using it1
    refine wpAny_stack_any fun st => wpAny_pure ?_
    split
    · rename_i c _ _ _ _ _
      cases (c == Value.type "enumerate") <;> (wp_walk using it1; exact ⟨_, rfl, h⟩)
    · wp_walk using it1
      exact ⟨_, rfl, h⟩
section
variable {prog : Program} {w : World} {A : Around} {E : Value → Shared → Prop} {s : Shared}
theorem enum_of {v : Value} {o : Obj} {G : Heap → Prop} {Q : Value → Shared → Prop} (B : Begins v o G) (g1 : G s.heap)
    (h : ∀ g, IsEnum g (s.heap.objs.size + 1) s.heap.objs.size 0 .none → g.get? s.heap.objs.size = some o → g.objs.size = s.heap.objs.size + 2 →
      (∀ b u, s.heap.get? b = some u → g.get? b = some u) → Q (.ref (s.heap.objs.size + 1)) { s with heap := g }) :
    wpAny (model prog w) A (call (.type "enumerate") [v]) Q E s := by
  refine callType_new F.called_enumerate (by decide) (F.typeCall_enumerate_1 _) (F.newCall_enumerate_1 _) (fun obj => F.args_object_init_2 obj _) F.entry_enumerate_new (enum_new1 B) ⟨g1, ?_⟩
  have z1 : (s.heap.push o).objs.size = s.heap.objs.size + 1 := Heap.size_push ..
  show _ ∧ _
  rw [z1]
  have he : IsEnum ((s.heap.push o).push { cls := .type "enumerate", data := .fields #[.none, .bool false, .ref s.heap.objs.size, rawInt 0, .none, .none] }) (s.heap.objs.size + 1) s.heap.objs.size 0 .none := z1 ▸ Heap.get?_push_size _ rfl
  exact ⟨⟨_, he, rfl⟩, h _ he (Heap.get?_push_of_some _ (Heap.get?_push_size _ B.free)) (by rw [Heap.size_push, z1]) fun b u x => Heap.get?_push_of_some _ (Heap.get?_push_of_some _ x)⟩
end
/-- the tuple at a as it stands at each turn, each item in a new pair -/
def IteT (K : PySem.W.Frag) (a : Addr) : It :=
  ⟨fun i H => ∃ (xs : List V) (x : V), SqT K H a xs ∧ xs[i]? = some x, fun i H v H' => ∃ T x, v = .ref T ∧ H T = none ∧ H' = upd H T (.tup [.int (i : Nat), x]) ∧ ∀ xs, SqT K H a xs → xs[i]? = some x, fun i H => ∃ xs : List V, SqT K H a xs ∧ xs.length ≤ i⟩
theorem tup_ne {h : Heap} {a b l : Addr} {k : Nat} {xs : Array Value} (p : h.IsTuple a xs) (q : h.IsTupleIter b l k) : a ≠ b := fun z => by
  obtain ⟨o, ho, hc, _⟩ := p
  obtain ⟨u, hu, hd, _⟩ := q
  rw [z, hu] at ho
  cases ho
  rw [hd] at hc
  exact absurd (Value.type.inj hc) (by decide)
theorem tup_ne2 {h : Heap} {a e it : Addr} {i : Int} {old : Value} {xs : Array Value} (p : h.IsTuple a xs) (q : IsEnum h e it i old) : a ≠ e := fun z => by
  obtain ⟨o, ho, hc, _⟩ := p
  rw [z, q] at ho
  cases ho
  exact absurd (Value.type.inj hc) (by decide)
abbrev EnT (a e it : Addr) (i : Nat) (h : Heap) : Prop := (∃ old, IsEnum h e it ((i : Nat) : Int) old) ∧ h.IsTupleIter it a i ∧ e ≠ it
theorem turn_enumT {P : Program} {w : World} {K : PySem.W.Frag} {elts : List Expr} {kk : Nat} {tpos : Pos} (a e it : Addr) : Turn P w K (.Tuple elts kk tpos) (IteT K a) [e, it] e (EnT a e it) where
  mem := List.mem_cons_self
  obj := fun i h st b hb => by
    obtain ⟨⟨old, he⟩, ⟨o, ho, hc, hd⟩, _⟩ := st
    rcases List.mem_cons.mp hb with z | z
    · rw [z]; exact ⟨_, he, fun v q => nomatch q⟩
    · rw [List.mem_singleton.mp z]; exact ⟨o, ho, fun v q => by rw [hd] at q; cases q⟩
  keep := fun i h h' st k => ⟨st.1.imp fun old he => k e (by simp) _ he, st.2.1.at fun o q => k it (by simp) o q, st.2.2⟩
  item := by
    intro X hP hw hK hc i pins s σ H E I hf st hg
    subst hP hw hK
    obtain ⟨⟨old, he⟩, hit, hne⟩ := st
    obtain ⟨xs, x, hq, hx⟩ := hg
    obtain ⟨its, rv, p, hz⟩ := I.tuple hq
    obtain ⟨u, hu, ru⟩ := rv.get hx
    have hai : a ≠ it := tup_ne p hit
    have hae : a ≠ e := tup_ne2 p he
    have le : e < s.heap.objs.size := Heap.lt_size he
    have li : it < s.heap.objs.size := by obtain ⟨_, q, _⟩ := hit; exact Heap.lt_size q
    have isz : i < its.toArray.size := by simpa using (List.getElem?_eq_some_iff.mp hu).1
    refine wpAny_pyNext_enum_itemC (Draws.tuple (show X.A.in1.handled = none from I.ok.hd hc) it a hai its.toArray) he ⟨hit, p⟩ isz hne (by simp [hne, Ne.symm hae]) fun y g tk hy ho hst hT hsz hk => ?_
    have ey : y = u := by
      rw [show its.toArray[i]? = its[i]? by simp, hu] at hy
      exact (Option.some.inj hy).symm
    subst ey
    refine ⟨_, rfl, wpAny_letOwnedTupleGo_enum (s := { s with heap := g, toks := tk + 1 }) ho fun g2 he' sb => ?_⟩
    have at2 : g2.get? s.heap.objs.size = some { cls := .type "tuple", data := .seq #[.int i tk, y] } := (sb.2 _ (Nat.ne_of_gt le)).trans hT
    have new : ObjOk X.prog X.w (upd H s.heap.objs.size (.tup [.int (i : Nat), x])) g2 s.heap.objs.size (.tup [.int (i : Nat), x]) :=
      ⟨by show 2 ≤ sizeLine; decide, [.int i tk, y], .cons ⟨_, rfl⟩ (.cons ru .nil), ⟨_, at2, rfl, _, rfl⟩⟩
    have old2 : ∀ b ob, b ∉ [e, it] → s.heap.get? b = some ob → g2.get? b = some ob := fun b ob hb q =>
      (sb.2 b fun z => hb (by simp [z])).trans (hk b ob (fun z => hb (by simp [z])) (fun z => hb (by simp [z])) q)
    have I1 : Inv X pins σ (upd H s.heap.objs.size (.tup [.int (i : Nat), x])) { s with heap := g2, toks := tk + 1 } := I.turnedNew (ch := [e, it]) old2 hf (Nat.le_refl _) new
    refine ⟨.ref s.heap.objs.size, _, I1, rfl, ⟨_, x, rfl, I.hok.fresh (Nat.le_refl _), rfl, fun ys hy => by rw [I.tuple_inj hy hq]; exact hx⟩, ⟨⟨y, ?_⟩, hst.1.at fun o q => (sb.2 it (Ne.symm hne)).trans q, hne⟩, fun b hb => ?_⟩
    · show IsEnum g2 e it ((i + 1 : Nat) : Int) y
      rw [show ((i + 1 : Nat) : Int) = (i : Int) + 1 by omega]
      exact he'
    · have lb : b < s.heap.objs.size := by
        rcases List.mem_cons.mp hb with z | z
        · rw [z]; exact le
        · rw [List.mem_singleton.mp z]; exact li
      rw [upd_ne (Nat.ne_of_lt lb)]
      exact (hf b hb).1
  done := by
    intro X hP hw hK hc i pins s σ H E I hf st hg
    subst hP hw hK
    obtain ⟨⟨old, he⟩, hit, hne⟩ := st
    obtain ⟨xs, hq, hx⟩ := hg
    obtain ⟨its, rv, p, hz⟩ := I.tuple hq
    obtain ⟨f0, f1, f2, f3, f4, f5⟩ := hf it (by simp)
    have hn := rv.length
    have hai : a ≠ it := tup_ne p hit
    have D : Draws X.prog X.w X.A.in1 it [it, a] i (fun _ _ => False) (fun j h => h.IsTupleIter it a j ∧ h.IsTuple a its.toArray ∧ j = i) :=
      { live := fun _ _ st => let ⟨o, ho, _⟩ := st.1; ⟨o, ho⟩
        frame := fun _ _ _ st hk => ⟨st.1.at fun o e => hk it (by simp) o e, st.2.1.at fun o e => hk a (by simp) o e, st.2.2⟩
        item := fun j s Q E hj st _ => absurd st.2.2 (Nat.ne_of_lt hj)
        done := fun s Q E st hE => RZ.nextOf_tuple_end (show X.A.in1.handled = none from I.ok.hd hc) st.1 st.2.1 (by simp; omega) hE }
    exact wpAny_pyNext_enum_endD D he ⟨hit, p, rfl⟩ fun g eb => ⟨rfl, I.turned (t' := s.toks) (fun b o hb q => eb b o hb q) f0 f1 f3 f4 f5⟩
  self := fun A i s Q E st h => let ⟨⟨_, he⟩, _⟩ := st; wpAny_pyIter_enum he h
def iEnumT (K : PySem.W.Frag) (ta : TA) : TI := fun σ H R => ta σ H fun vs H1 => ∃ a xs, vs = [.ref a] ∧ SqT K H1 a xs ∧ R (IteT K a) H1
theorem pi_enumT {X : Cx} {e : Expr} {ta : TA} {p pos tpos : Pos} {elts : List Expr} {kk : Nat} (hg : Gl X "enumerate") (hm : X.mg "enumerate" = none) (ha : PA X [e] ta) (hs : starEach [e] X.env = [(false, eval e X.env)] := by rfl) :
    PI X (.Tuple elts kk tpos) (.Call (.Name "enumerate" p) [e] [] pos) (iEnumT X.K ta) := by
  refine ⟨fun pins s σ H R I h => ?_⟩
  refine Call_ (ld_blt I hg hm boot_enumerate (PyProof.Rows.callWith_type1 (thn (ha.run pos pins s σ H _ I h) fun us s1 hv => ?_) hs rfl))
  obtain ⟨vs, H1, I1, r1, a, xs, rfl, hq, q⟩ := hv
  obtain rfl := Vals.ref1 r1
  obtain ⟨its, rv, p', hz⟩ := I1.tuple hq
  refine enum_of (begins_tuple a its.toArray) p' fun g he hit hsz hk => wpAny_pyIter_enum he ?_
  refine ⟨s1.heap.objs.size + 1, [s1.heap.objs.size + 1, s1.heap.objs.size], _, _, H1, rfl, I1.kept (t' := s1.toks) hk, turn_enumT a (s1.heap.objs.size + 1) s1.heap.objs.size, ⟨⟨.none, he⟩, ⟨_, hit, rfl, rfl⟩, Nat.succ_ne_self _⟩, fun b hb => ?_, q⟩
  have le : s1.heap.objs.size ≤ b := by
    rcases List.mem_cons.mp hb with z | z
    · rw [z]; exact Nat.le_add_right _ _
    · rw [List.mem_singleton.mp z]; exact Nat.le_refl _
  exact I1.fpOk le (I1.hok.fresh le)
end Tl
end S_Ya
section S_Yw
namespace Tl
open PySem PySem.Spec PyProof.Rows L2
open Evl
/-! ### walks that only lay new objects -/
/-- C holds what came between A and B -/
abbrev Since (A B C : Hp) : Prop := ∀ a o, A a = none → B a = some o → C a = some o
/-- what a for walks: n turns, told by Y, as long as what stood at H stays, and what is new -/
def EvI (wi : TI) (σ : L2.St) (H : Hp) (n : Nat) (Y : Nat → Hp → V → Hp → Prop) : Prop := ∀ H1, Ex H H1 → ∀ R : It → Hp → Prop,
  (∀ (J : It) (G : Hp → Prop) H2, Ex H1 H2 → Walk J n G Y → (∀ A, Ex H A → Since H1 H2 A → G A) → R J H2) → wi σ H1 R
/-- a value of which R holds, in each heap that has what stood at H and what is new -/
def EvN (te : TE) (σ : L2.St) (H : Hp) (R : V → Hp → Prop) : Prop := ∀ H1, Ex H H1 → ∀ Q : VK, (∀ v H2, Ex H1 H2 → (∀ H3, Ex H H3 → Since H1 H2 H3 → R v H3) → Q v H2) → te σ H1 Q
/-- a new list: what it holds is told by L -/
def EvNL (te : TE) (σ : L2.St) (H : Hp) (L : List V → Hp → Prop) : Prop := ∀ H1, Ex H H1 → ∀ Q : VK,
  (∀ p xs H2, H1 p = none → Ex H1 H2 → H2 p = some (.lst xs) → (∀ H3, Ex H H3 → (∀ a o, a ≠ p → H1 a = none → H2 a = some o → H3 a = some o) → L xs H3) → Q (.ref p) H2) → te σ H1 Q
/-- the target's stores -/
def Aims (g : TG) (n : Nat) (Y : Nat → Hp → V → Hp → Prop) (s : Nat → L2.St → L2.St) : Prop := ∀ i σ H x H', i < n → Y i H x H' → Ex H H' ∧ ∀ Q : L2.St → Hp → Prop, Q (s i σ) H' → g x σ H' Q
theorem aims_at {xs : List V} {j : Nat} : Aims (gName j) xs.length (YAt xs) (fun i σ => σ.set j (some (xs.getD i .non))) := fun i σ H x H' hi y => by
  obtain ⟨rfl, hx⟩ := y
  obtain rfl : xs.getD i .non = x := by rw [List.getD_eq_getElem?_getD, hx]; rfl
  exact ⟨Ex.refl _, fun Q q => q⟩
theorem aims_fn {f : Nat → V} {n j : Nat} : Aims (gName j) n (YFn f) (fun i σ => σ.set j (some (f i))) := fun i σ H x H' hi y => by
  obtain ⟨rfl, rfl⟩ := y
  exact ⟨Ex.refl _, fun Q q => q⟩
/-- a pair of the turn's number and the item -/
theorem aims_enum {K : PySem.W.Frag} {xs : List V} {j1 j2 : Nat} : Aims (gTup K 2 (gCons (gName j1) (gCons (gName j2) gNil))) xs.length (YPair (fun i => some (.int (i : Nat))) (fun i => xs[i]?))
    (fun i σ => (σ.set j1 (some (.int (i : Nat)))).set j2 (some (xs.getD i .non))) := fun i σ H v H' hi y => by
  obtain ⟨T, x, y, rfl, hT, rfl, h1, h2⟩ := y
  cases h1
  have h3 : xs[i]? = some y := h2
  obtain rfl : xs.getD i .non = y := by rw [List.getD_eq_getElem?_getD, h3]; rfl
  exact ⟨Ex.new hT, fun Q q => ⟨T, _, rfl, st_of upd_same, rfl, _, _, rfl, _, _, rfl, rfl, q⟩⟩
section
variable {K : PySem.W.Frag} {σ : L2.St} {H : Hp}
theorem ei_list {a : Addr} {xs : List V} {tl : TE} (h : Ev tl σ H (.ref a)) (hx : SqL K H a xs) : EvI (iList K tl) σ H xs.length (YAt xs) := fun H1 e R k =>
  h H1 e _ fun H2 e2 => ⟨a, rfl, ⟨xs, ex_l (e.trans e2) hx⟩, k _ _ H2 e2 walk_list fun A ab _ => ex_l ab hx⟩
theorem ei_listN {xs : List V} {tl : TE} (h : EvL tl σ H xs) : EvI (iList K tl) σ H xs.length (YAt xs) := fun H1 e R k =>
  h H1 e _ fun a H2 ha e2 hx => ⟨a, rfl, ⟨xs, sq_of hx⟩, k _ _ H2 e2 walk_list fun A _ ab => sq_of (ab _ _ ha hx)⟩
theorem ei_tup {a : Addr} {xs : List V} {tl : TE} (h : Ev tl σ H (.ref a)) (hx : SqT K H a xs) : EvI (iTup K tl) σ H xs.length (YAt xs) := fun H1 e R k =>
  h H1 e _ fun H2 e2 => ⟨a, rfl, ⟨xs, ex_t (e.trans e2) hx⟩, k _ _ H2 e2 walk_tup fun A ab _ => ex_t ab hx⟩
theorem walk_enumT {a : Addr} {xs : List V} : Walk (IteT K a) xs.length (fun H => SqT K H a xs) (YPair (fun i => some (.int (i : Nat))) (fun i => xs[i]?)) := by
  refine ⟨fun i _ hi q => ⟨xs, xs[i], q, by simp [hi]⟩, fun _ q => ⟨xs, q, Nat.le_refl _⟩, fun i H v H' _ q y => ?_⟩
  obtain ⟨T, x, h1, h2, h3, h4⟩ := y
  exact ⟨T, .int (i : Nat), x, h1, h2, h3, rfl, h4 xs q⟩
theorem ei_enum {a : Addr} {xs : List V} {ta : TA} (h : EvA ta σ H [.ref a]) (hx : SqL K H a xs) : EvI (iEnum K ta) σ H xs.length (YPair (fun i => some (.int (i : Nat))) (fun i => xs[i]?)) := fun H1 e R k =>
  h H1 e _ fun H2 e2 => ⟨a, xs, rfl, ex_l (e.trans e2) hx, k _ _ H2 e2 walk_enum fun A ab _ => ex_l ab hx⟩
theorem ei_enumT {a : Addr} {xs : List V} {ta : TA} (h : EvA ta σ H [.ref a]) (hx : SqT K H a xs) : EvI (iEnumT K ta) σ H xs.length (YPair (fun i => some (.int (i : Nat))) (fun i => xs[i]?)) := fun H1 e R k =>
  h H1 e _ fun H2 e2 => ⟨a, xs, rfl, ex_t (e.trans e2) hx, k _ _ H2 e2 walk_enumT fun A ab _ => ex_t ab hx⟩
theorem ei_rng1 {ta : TA} {j : Int} (h : EvA ta σ H [.int j]) (h0 : 0 ≤ j) (h1 : j ≤ 100000) : EvI (iRng1 ta) σ H j.toNat (YFn fun i => .int (0 + i)) := fun H1 e R k =>
  h H1 e _ fun H2 e2 => ⟨j, rfl, by omega, by omega, k _ _ H2 e2 walk_range fun _ _ _ => trivial⟩
theorem ei_rng2 {ta : TA} {i j : Int} (h : EvA ta σ H [.int i, .int j]) (h0 : -100000 ≤ i ∧ i ≤ 100000) (h1 : -100000 ≤ j ∧ j ≤ 100000) : EvI (iRng2 ta) σ H (j - i).toNat (YFn fun k => .int (i + k)) := fun H1 e R k =>
  h H1 e _ fun H2 e2 => ⟨i, j, rfl, ⟨by omega, by omega, by omega, by omega⟩, k _ _ H2 e2 walk_range fun _ _ _ => trivial⟩
theorem en_v {te : TE} {v : V} (h : Ev te σ H v) : EvN te σ H (fun u _ => u = v) := fun H1 e Q q => h H1 e Q fun H2 e2 => q v H2 e2 fun _ _ _ => rfl
theorem en_l {te : TE} {xs : List V} (h : EvL te σ H xs) : EvN te σ H (fun u H' => ∃ a, u = .ref a ∧ H' a = some (.lst xs)) := fun H1 e Q q => h H1 e Q fun p H2 hp e2 h2 => q _ H2 e2 fun H3 _ s => ⟨p, rfl, s _ _ hp h2⟩
theorem en_u {te : TE} {xs : List V} (h : ∀ H1, Ex H H1 → ∀ Q : VK, (∀ p H2, H1 p = none → Ex H1 H2 → H2 p = some (.tup xs) → Q (.ref p) H2) → te σ H1 Q) : EvN te σ H (fun u H' => ∃ a, u = .ref a ∧ H' a = some (.tup xs)) := fun H1 e Q q => h H1 e Q fun p H2 hp e2 h2 => q _ H2 e2 fun H3 _ s => ⟨p, rfl, s _ _ hp h2⟩
theorem en_nl {te : TE} {L : List V → Hp → Prop} (h : EvNL te σ H L) : EvN te σ H (fun u H' => ∃ a xs, u = .ref a ∧ H' a = some (.lst xs) ∧ L xs H') := fun H1 e Q q => h H1 e Q fun p xs H2 hp e2 h2 hL => q _ H2 e2 fun H3 e3 s => ⟨p, xs, rfl, s _ _ hp h2, hL H3 e3 fun a o _ ha hb => s a o ha hb⟩
/-- what the comprehension's list holds: what R tells, turn by turn -/
def Holds (R : Nat → V → Hp → Prop) (n : Nat) (xs : List V) (H : Hp) : Prop := xs.length = n ∧ ∀ i v, xs[i]? = some v → R i v H
theorem snoc_at {xs : List V} {v u : V} {i : Nat} (h : (xs ++ [v])[i]? = some u) : (i < xs.length ∧ xs[i]? = some u) ∨ (i = xs.length ∧ v = u) := by
  rcases Nat.lt_or_ge i xs.length with hi | hi
  · rw [List.getElem?_append_left hi] at h
    exact .inl ⟨hi, h⟩
  · rw [List.getElem?_append_right hi] at h
    have e : i - xs.length = 0 := by
      have := (List.getElem?_eq_some_iff.mp h).1
      simp at this
      omega
    rw [e] at h
    cases h
    exact .inr ⟨by omega, rfl⟩
theorem en_lc {wi : TI} {g : TG} {te : TE} {vs : List Nat} {n : Nat} {Y : Nat → Hp → V → Hp → Prop} {s : Nat → L2.St → L2.St} (hw : EvI wi σ H n Y) (aim : Aims g n Y s) (hs : ∀ i, wipe (s i (wipe σ vs)) vs = wipe σ vs) (hn : n ≤ 90000)
    (R : Nat → V → Hp → Prop) (he : ∀ i, i < n → EvN te (s i (wipe σ vs)) H (R i)) : EvNL (tLc wi g tYes te vs) σ H (Holds R n) := fun H1 e Q q =>
  hw H1 e _ fun J G H2 e2 w sG D hD => lc_it w (fun i H' => Ex H2 H' ∧ ∃ acc, H' D = some (.lst acc) ∧ acc.length = i ∧ ∀ k v, acc[k]? = some v → ∀ H3, Ex H H3 → (∀ a o, a ≠ D → H1 a = none → H' a = some o → H3 a = some o) → R k v H3)
    ⟨Ex.new hD, [], upd_same, rfl, fun i v h => by simp at h⟩ (fun i H' _ p => sG H' ((e.trans e2).trans p.1) fun a o _ ha => p.1 _ _ ha)
    (fun i x A B hi p y => by
      obtain ⟨p1, acc, p3, p4, p5⟩ := p
      obtain ⟨ab, k⟩ := aim i (wipe σ vs) A x B hi y
      refine k _ ⟨hs i, ?_⟩
      show te (s i (wipe σ vs)) B _
      have hHB : Ex H B := ((e.trans e2).trans p1).trans ab
      refine he i hi B hHB _ fun v C eC hv => ⟨acc, eC _ _ (ab _ _ p3), sz_lt (by omega), ?_, acc ++ [v], upd_same, by rw [List.length_append, p4] <;> rfl, fun k u hk H3 h3 keep => ?_⟩
      · exact ((p1.trans ab).trans eC).mut hD
      · have at4 : ∀ a o, a ≠ D → H1 a = none → C a = some o → H3 a = some o := fun a o hne hn hc => keep a o hne hn (by rw [upd_ne hne]; exact hc)
        rcases snoc_at hk with ⟨hlt, hk⟩ | ⟨rfl, rfl⟩
        · exact p5 k u hk H3 h3 fun a o hne hn ha => at4 a o hne hn (eC _ _ (ab _ _ ha))
        · rw [p4]
          refine hv H3 h3 fun a o hb hc => at4 a o (fun z => ?_) (fresh_back ((e2.trans p1).trans ab) hb) hc
          rw [z, ab _ _ p3] at hb
          cases hb)
    (fun H' p => by
      obtain ⟨p1, acc, p3, p4, p5⟩ := p
      exact q D acc H' (fresh_back e2 hD) (e2.trans p1) p3 fun H3 h3 keep => ⟨p4, fun i v hv => p5 i v hv H3 h3 keep⟩)
/-- two walks, one in another: what the list holds is told by the row of b's -/
def Row2 {β : Type} (Rb : β → V → Hp → Prop) (bs : List β) (xs : List V) (H : Hp) : Prop := xs.length = bs.length ∧ ∀ (k : Nat) (b : β) (v : V), bs[k]? = some b → xs[k]? = some v → Rb b v H
def els {β : Type} (m : Nat → Nat) (f : Nat → Nat → Bool) (b : Nat → Nat → β) (i : Nat) : List β := ((List.range (m i)).filter (f i)).map (b i)
def rows {β : Type} (m : Nat → Nat) (f : Nat → Nat → Bool) (b : Nat → Nat → β) (n : Nat) : List β := (List.range n).flatMap (els m f b)
theorem rows_succ {β : Type} {m : Nat → Nat} {f : Nat → Nat → Bool} {b : Nat → Nat → β} {n : Nat} : rows m f b (n + 1) = rows m f b n ++ els m f b n := by
  unfold rows
  rw [List.range_succ, List.flatMap_append]
  simp
def part {β : Type} (f : Nat → Bool) (b : Nat → β) (j : Nat) : List β := ((List.range j).filter f).map b
theorem part_succ {β : Type} {f : Nat → Bool} {b : Nat → β} {j : Nat} : part f b (j + 1) = part f b j ++ (if f j = true then [b j] else []) := by
  unfold part
  rw [List.range_succ, List.filter_append, List.map_append]
  congr 1
  cases h : f j <;> simp [h]
theorem part_le {β : Type} {f : Nat → Bool} {b : Nat → β} {j k : Nat} (h : j ≤ k) : (part f b j).length ≤ (part f b k).length := by
  induction k with
  | zero => rw [Nat.le_zero.mp h] <;> exact Nat.le_refl _
  | succ k ih =>
    rcases Nat.lt_or_ge k j with h2 | h2
    · rw [show j = k + 1 by omega] <;> exact Nat.le_refl _
    · rw [part_succ, List.length_append]
      exact Nat.le_trans (ih h2) (Nat.le_add_right _ _)
theorem rows_le {β : Type} {m : Nat → Nat} {f : Nat → Nat → Bool} {b : Nat → Nat → β} {j k : Nat} (h : j ≤ k) : (rows m f b j).length ≤ (rows m f b k).length := by
  induction k with
  | zero => rw [Nat.le_zero.mp h] <;> exact Nat.le_refl _
  | succ k ih =>
    rcases Nat.lt_or_ge k j with h2 | h2
    · rw [show j = k + 1 by omega] <;> exact Nat.le_refl _
    · rw [rows_succ, List.length_append]
      exact Nat.le_trans (ih h2) (Nat.le_add_right _ _)
theorem en_lc2 {β : Type} {wi wi1 : TI} {g g1 : TG} {tt1 : TT} {te : TE} {vs vs1 : List Nat} {n : Nat} {m : Nat → Nat} {Y : Nat → Hp → V → Hp → Prop} {Y1 : Nat → Nat → Hp → V → Hp → Prop} {s : Nat → L2.St → L2.St} {s1 : Nat → Nat → L2.St → L2.St}
    (hw : EvI wi σ H n Y) (aim : Aims g n Y s) (hs : ∀ i, wipe (s i (wipe σ vs)) vs = wipe σ vs)
    (hw1 : ∀ i, i < n → EvI wi1 (s i (wipe σ vs)) H (m i) (Y1 i)) (aim1 : ∀ i, Aims g1 (m i) (Y1 i) (s1 i)) (hs1 : ∀ i j, wipe (s1 i j (wipe (s i (wipe σ vs)) vs1)) vs1 = wipe (s i (wipe σ vs)) vs1)
    (f : Nat → Nat → Bool) (b : Nat → Nat → β) (Rb : β → V → Hp → Prop) (ht : ∀ i j, i < n → j < m i → EvT tt1 (s1 i j (wipe (s i (wipe σ vs)) vs1)) H (f i j))
    (he : ∀ i j, i < n → j < m i → f i j = true → EvN te (s1 i j (wipe (s i (wipe σ vs)) vs1)) H (Rb (b i j))) (hz : (rows m f b n).length ≤ 90000) :
    EvNL (tLc2 wi g tYes wi1 g1 tt1 te vs vs1) σ H (Row2 Rb (rows m f b n)) := fun H1 e Q q => by
  refine hw H1 e _ fun J G H2 e2 w sG D hD => ?_
  -- what stands while ds are made
  let St : List β → Hp → Prop := fun ds H' => Ex H2 H' ∧ ∃ acc, H' D = some (.lst acc) ∧ acc.length = ds.length ∧ ∀ (k : Nat) (d : β) (v : V), ds[k]? = some d → acc[k]? = some v → ∀ H3, Ex H H3 → (∀ a o, a ≠ D → H1 a = none → H' a = some o → H3 a = some o) → Rb d v H3
  have grow : ∀ {ds : List β} {A B : Hp}, St ds A → Ex A B → St ds B := fun {ds A B} p ab => by
    obtain ⟨p1, acc, p3, p4, p5⟩ := p
    exact ⟨p1.trans ab, acc, ab _ _ p3, p4, fun k d v h1 h2 H3 h3 keep => p5 k d v h1 h2 H3 h3 fun a o hne hn ha => keep a o hne hn (ab _ _ ha)⟩
  refine ⟨fun i k H' => k = n - i ∧ i ≤ n ∧ St (rows m f b i) H', ⟨n, by simp, Nat.zero_le _, Ex.new hD, [], upd_same, rfl, fun k d v h => by simp [rows] at h⟩, ?_⟩
  rintro i k A ⟨rfl, hin, p⟩
  have gA : G A := sG A ((e.trans e2).trans p.1) fun a o _ ha => p.1 _ _ ha
  by_cases hi : i < n
  · refine .inr ⟨w.goes i A hi gA, St (rows m f b (i + 1)), fun H' p' => ⟨n - (i + 1), by omega, rfl, hi, p'⟩, fun x B yl => ?_⟩
    have y := w.yields i A x B hi gA yl
    obtain ⟨ab, k⟩ := aim i (wipe σ vs) A x B hi y
    refine k _ ⟨hs i, ?_⟩
    have pB := grow p ab
    refine hw1 i hi B (((e.trans e2).trans p.1).trans ab) _ fun J1 G1 C bC w1 sG1 => ?_
    refine ⟨fun j k H' => k = m i - j ∧ j ≤ m i ∧ St (rows m f b i ++ part (f i) (b i) j) H' ∧ Since B C H', ⟨m i, by simp, Nat.zero_le _, ?_, fun _ _ _ h => h⟩, ?_⟩
    · simpa [part] using grow pB bC
    · rintro j k H' ⟨rfl, hj, pj, sj⟩
      have gj : G1 H' := sG1 H' ((e.trans e2).trans pj.1) sj
      by_cases hlt : j < m i
      · refine .inr ⟨w1.goes j H' hlt gj, fun H4 => St (rows m f b i ++ part (f i) (b i) (j + 1)) H4 ∧ Since B C H4, fun H4 p4 => ⟨m i - (j + 1), by omega, rfl, hlt, p4⟩, fun x1 B1 y1 => ?_⟩
        obtain ⟨ab1, k1⟩ := aim1 i j (wipe (s i (wipe σ vs)) vs1) H' x1 B1 hlt (w1.yields j H' x1 B1 hlt gj y1)
        refine k1 _ ⟨hs1 i j, ?_⟩
        have pB1 := grow pj ab1
        refine ht i j hi hlt B1 ((e.trans e2).trans pB1.1) _ fun H6 e6 => ?_
        have p6 := grow pB1 e6
        have s6 : Since B C H6 := fun a o ha hc => e6 _ _ (ab1 _ _ (sj a o ha hc))
        rw [part_succ]
        cases hf : f i j with
        | false =>
          show St _ H6 ∧ Since B C H6
          rw [if_neg (by decide), List.append_nil]
          exact ⟨p6, s6⟩
        | true =>
          refine he i j hi hlt hf H6 ((e.trans e2).trans p6.1) _ fun v C6 eC hv => ?_
          obtain ⟨q1, acc, q3, q4, q5⟩ := p6
          have small : acc.length < 90000 := by
            rw [q4, List.length_append]
            have a1 : (rows m f b (i + 1)).length ≤ 90000 := Nat.le_trans (rows_le hi) hz
            rw [rows_succ, List.length_append] at a1
            have a2 : (part (f i) (b i) (j + 1)).length ≤ (els m f b i).length := part_le (f := f i) (b := b i) (show j + 1 ≤ m i from hlt)
            rw [part_succ, hf, List.length_append] at a2
            simp at a2
            omega
          refine ⟨acc, eC _ _ q3, sz_lt (by omega), ⟨(q1.trans eC).mut hD, acc ++ [v], upd_same, ?_, ?_⟩, ?_⟩
          · rw [if_pos rfl, ← List.append_assoc, List.length_append, List.length_append, q4, List.length_append]
            rfl
          · intro k d u hd hu H3 h3 keep
            have at4 : ∀ a o, a ≠ D → H1 a = none → C6 a = some o → H3 a = some o := fun a o hne hn hc => keep a o hne hn (by rw [upd_ne hne]; exact hc)
            rw [if_pos rfl, ← List.append_assoc] at hd
            rcases snoc_at hu with ⟨hlt2, hu2⟩ | ⟨rfl, rfl⟩
            · rw [q4] at hlt2
              rw [List.getElem?_append_left hlt2] at hd
              exact q5 k d u hd hu2 H3 h3 fun a o hne hn ha => at4 a o hne hn (eC _ _ ha)
            · rw [q4, List.getElem?_append_right (Nat.le_refl _), Nat.sub_self] at hd
              cases hd
              refine hv H3 h3 fun a o hb hc => at4 a o (fun z => ?_) (fresh_back (e2.trans q1) hb) hc
              rw [z, q3] at hb
              cases hb
          · intro a o ha hc
            rw [upd_ne (fun z => ?_)]
            · exact eC _ _ (s6 a o ha hc)
            · obtain ⟨acc0, r3, _⟩ := pB.2
              rw [z, r3] at ha
              cases ha
      · have ej : j = m i := by omega
        subst ej
        refine .inl ⟨w1.stops H' gj, ?_⟩
        show St (rows m f b (i + 1)) H'
        rw [rows_succ]
        exact pj
  · have ei : i = n := by omega
    subst ei
    refine .inl ⟨w.stops A gA, ?_⟩
    obtain ⟨p1, acc, p3, p4, p5⟩ := p
    exact q D acc A (fresh_back e2 hD) (e2.trans p1) p3 fun H3 h3 keep => ⟨p4, fun k d v h1 h2 => p5 k d v h1 h2 H3 h3 keep⟩
/-- the dict of the first keys, each with True -/
def dOf (kf : Nat → Int) : Nat → List (L2.Key × V)
  | 0 => []
  | i + 1 => putK (dOf kf i) (.inl (kf i)) (.bl true)
theorem dOf_len (kf : Nat → Int) : ∀ n, (dOf kf n).length ≤ n
  | 0 => Nat.le_refl _
  | n + 1 => Nat.le_trans (length_putK _ _ _) (Nat.succ_le_succ (dOf_len kf n))
theorem dOf_at (kf : Nat → Int) (x : Int) : ∀ n, (valV (dOf kf n) (.inl x)).isSome = true ↔ ∃ i, i < n ∧ kf i = x
  | 0 => ⟨fun h => (by cases h), fun ⟨i, h, _⟩ => absurd h (Nat.not_lt_zero i)⟩
  | n + 1 => by
    show (valV (putK (dOf kf n) (.inl (kf n)) (.bl true)) (.inl x)).isSome = true ↔ _
    rw [valV_put]
    by_cases e : (Sum.inl x : L2.Key) = .inl (kf n)
    · rw [if_pos e]
      exact ⟨fun _ => ⟨n, Nat.lt_succ_self n, (Sum.inl.inj e).symm⟩, fun _ => rfl⟩
    · rw [if_neg e, dOf_at kf x n]
      constructor
      · rintro ⟨i, h1, h2⟩
        exact ⟨i, Nat.lt_succ_of_lt h1, h2⟩
      · rintro ⟨i, h1, h2⟩
        refine ⟨i, Nat.lt_of_le_of_ne (Nat.le_of_lt_succ h1) fun z => ?_, h2⟩
        rw [z] at h2
        exact e (by rw [h2])
theorem en_dc {wi : TI} {g : TG} {tk tv : TE} {vs : List Nat} {n : Nat} {Y : Nat → Hp → V → Hp → Prop} {s : Nat → L2.St → L2.St} {kf : Nat → Int} (hw : EvI wi σ H n Y) (aim : Aims g n Y s) (hs : ∀ i, wipe (s i (wipe σ vs)) vs = wipe σ vs) (hn : n ≤ 90000)
    (hk : ∀ i, i < n → Ev tk (s i (wipe σ vs)) H (.int (kf i))) (hv : ∀ i, i < n → Ev tv (s i (wipe σ vs)) H (.bl true)) : EvN (tDc wi g tYes tk tv vs) σ H (fun u H' => ∃ d, u = .ref d ∧ H' d = some (.dK (dOf kf n))) := fun H1 e Q q =>
  hw H1 e _ fun J G H2 e2 w sG D hD => by
    refine ⟨fun i m H' => m = n - i ∧ i ≤ n ∧ Ex H2 H' ∧ H' D = some (.dK (dOf kf i)), ⟨n, by simp, Nat.zero_le _, Ex.new hD, upd_same⟩, ?_⟩
    rintro i m A ⟨rfl, hin, p1, p2⟩
    have gA : G A := sG A ((e.trans e2).trans p1) fun a o _ ha => p1 _ _ ha
    by_cases hi : i < n
    · refine .inr ⟨w.goes i A hi gA, fun H' => Ex H2 H' ∧ H' D = some (.dK (dOf kf (i + 1))), fun H' p' => ⟨n - (i + 1), by omega, rfl, hi, p'⟩, fun x B yl => ?_⟩
      obtain ⟨ab, k⟩ := aim i (wipe σ vs) A x B hi (w.yields i A x B hi gA yl)
      refine k _ ⟨hs i, ?_⟩
      refine hk i hi B (((e.trans e2).trans p1).trans ab) _ fun C eC => ?_
      refine hv i hi C ((((e.trans e2).trans p1).trans ab).trans eC) _ fun C2 eC2 => ?_
      have := dOf_len kf i
      exact ⟨dOf kf i, .inl (kf i), rfl, eC2 _ _ (eC _ _ (ab _ _ p2)), sz_lt (by omega), (((p1.trans ab).trans eC).trans eC2).mut hD, upd_same⟩
    · have ei : i = n := by omega
      subst ei
      refine .inl ⟨w.stops A gA, q _ A (e2.trans p1) fun H3 h3 keep => ⟨D, rfl, keep _ _ (fresh_back e2 hD) p2⟩⟩
theorem ev_din {ty td : TE} {d : Addr} {kvs : List (L2.Key × V)} {x : Int} (h1 : Ev ty σ H (.int x)) (h2 : Ev td σ H (.ref d)) (hd : H d = some (.dK kvs)) : Ev (tDIn ty td) σ H (.bl (valV kvs (.inl x)).isSome) := fun H1 e Q q =>
  h1 H1 e _ fun H2 e2 => h2 H2 (e.trans e2) _ fun H3 e3 => ⟨d, _, rfl, DGet.k (k := Sum.inl x) (((e.trans e2).trans e3) _ _ hd), q H3 (e2.trans e3)⟩
end
end Tl
end S_Yw
section S_Yz
namespace Tl
open PySem PySem.Spec PyProof.Rows L2
/-- the pairs of a zip: keys by ints -/
abbrev zipK (ks : List Int) (ys : List V) : List (L2.Key × V) := (ks.map Sum.inl).zip ys
def tDictZip (K : PySem.W.Frag) (ta : TA) : TE := fun σ H Q => ta σ H fun vs H1 => ∃ (a b : Addr) (ks : List Int) (ys : List V), vs = [.ref a, .ref b] ∧ SqT K H1 a (ks.map V.int) ∧ SqT K H1 b ys ∧ ys.length = ks.length ∧
  ∀ p, H1 p = none → Q (.ref p) (upd H1 p (.dK (mergeK [] (zipK ks ys))))
theorem kv_zip {P : Program} {w : World} : ∀ {ks : List Int} {ys : List V} {us vs : List Value}, Vals (ks.map V.int) us → Vals ys vs → KV (zipK ks ys) ((ks.map (Sum.inl : Int → L2.Key)).zip vs) ∧ ∀ (i : Nat) (k v : Value), us[i]? = some k → vs[i]? = some v → ∃ q, ((ks.map (Sum.inl : Int → L2.Key)).zip vs)[i]? = some (q, v) ∧ (mixKind P w).is q k = true
  | [], ys, us, vs, r1, r2 => by
    cases r1
    exact ⟨.nil, fun i k v h => by simp at h⟩
  | k :: ks, [], us, vs, r1, r2 => by
    cases r2
    exact ⟨.nil, fun i k v _ h => by simp at h⟩
  | k :: ks, y :: ys, _, _, r1, r2 => by
    rw [List.map_cons] at r1
    cases r1 with
    | @cons _ u _ us hu t1 =>
      cases r2 with
      | @cons _ v _ vs hv t2 =>
        obtain ⟨a1, a2⟩ := kv_zip (P := P) (w := w) t1 t2
        refine ⟨.cons ⟨rfl, hv⟩ a1, fun i k' v' h1 h2 => ?_⟩
        cases i with
        | zero =>
          cases h1
          cases h2
          exact ⟨_, rfl, kV_is (P := P) (w := w) (k := Sum.inl k) hu⟩
        | succ i => exact a2 i k' v' (by simpa using h1) (by simpa using h2)
theorem pe_dictZip {X : Cx} {e e2 : Expr} {ta : TA} {p p2 q pos : Pos} (hg : Gl X "dict") (hm : X.mg "dict" = none) (hg2 : Gl X "zip") (hm2 : X.mg "zip" = none) (ha : PA X [e, e2] ta) (hc : X.calm = true := by rfl)
    (ns : starEach [e, e2] X.env = (false, eval e X.env) :: starEach [e2] X.env := by rfl) (np : (backTo q (starEach [e2] X.env)).any (·.1) = false := by rfl)
    (na : starEach [Expr.Call (.Name "zip" p2) [e, e2] [] q] X.env = (false, eval (Expr.Call (.Name "zip" p2) [e, e2] [] q) X.env) :: starEach [] X.env := by rfl) :
    PE X (.Call (.Name "dict" p) [.Call (.Name "zip" p2) [e, e2] [] q] [] pos) (tDictZip X.K ta) := by
  constructor
  intro pins s σ H Q I h
  refine Call_ (ld_blt I hg hm (show bootBuiltins "dict" = some (.type "dict") by decide +kernel) (PyProof.Rows.callWith_type1 (args_cons (Call_ (ld_blt I hg2 hm2 boot_zip (PyProof.Rows.callWith_type1 (thn (ha.run q pins s σ H _ I h) fun us s1 hv => ?_) ns np))) na) na rfl))
  obtain ⟨vs, H1, I1, r1, a, b, ks, ys, rfl, hA, hB, hl, q1⟩ := hv
  obtain ⟨u1, u2, rfl, ra, rb⟩ := vals2 r1
  cases ra
  cases rb
  obtain ⟨ua, va, pa, za⟩ := I1.tuple hA
  obtain ⟨ub, vb, pb, zb⟩ := I1.tuple hB
  have la : a < s1.heap.objs.size := by obtain ⟨o, ho, _⟩ := pa; exact Heap.lt_size ho
  have lb : b < s1.heap.objs.size := by obtain ⟨o, ho, _⟩ := pb; exact Heap.lt_size ho
  have D : ZipApart (s1.heap.objs.size + 4) (s1.heap.objs.size + 2) (s1.heap.objs.size + 3) s1.heap.objs.size (s1.heap.objs.size + 1) a b := PySem.W.ktu_apart _ _ _ la lb
  have n1 : ua.length = ks.length := by rw [← va.length, List.length_map]
  have n2 : ub.length = ks.length := by rw [← vb.length, hl]
  obtain ⟨rel, fits⟩ := kv_zip (P := X.prog) (w := X.w) va vb
  refine RZ.call_zipT pa pb fun g hz hTI hTO hi1 hi2 hsz hk => args_nil ?_
  have ok : ZOk (s1.heap.objs.size + 4) (s1.heap.objs.size + 2) (s1.heap.objs.size + 3) s1.heap.objs.size (s1.heap.objs.size + 1) a b ua.toArray ub.toArray g :=
    ⟨hz, hTI, ⟨_, _, hTO⟩, ⟨hi1, Heap.IsTuple.at pa fun o => hk _ o⟩, hi2, Heap.IsTuple.at pb fun o => hk _ o⟩
  have I2 : Inv X pins σ H1 { s1 with heap := g } := I1.kept (t' := s1.toks) hk
  refine call_dict_pairs (knd := mixKind X.prog X.w) (kvs := (ks.map (Sum.inl : Int → L2.Key)).zip ub) (pair_arg_zip (P := X.prog) (w := X.w) D (xs := ua.toArray) (ys := ub.toArray) (by simp [n1, n2])) (I1.ok.hd hc) ok ⟨by simp [n1, n2], fun i k v h => fits i k v (by simpa using h.1) (by simpa using h.2)⟩ (by
    rw [List.length_map] at za
    simp only [List.size_toArray]
    rw [n1]
    exact za) fun g2 tk hd hk2 => ?_
  have gz : g.objs.size = s1.heap.objs.size + 5 := hsz
  have hlen : (mergeK [] (zipK ks ys)).length ≤ sizeLine := by
    refine Nat.le_trans (length_mergeK _ []) ?_
    rw [List.length_nil, Nat.zero_add, List.length_zip, List.length_map, hl, Nat.min_self]
    rw [List.length_map] at za
    exact za
  have hm3 : (g.objs.size == sysModules) = false := beq_eq_false_iff_ne.mpr (Nat.ne_of_gt (by rw [gz]; exact Nat.lt_add_right 5 I1.big))
  have hold : ∀ b o, s1.heap.get? b = some o → g2.get? b = some o := fun b o e => by
    have lt := Heap.lt_size e
    have e5 : ∀ k, b ≠ s1.heap.objs.size + k := fun k z => Nat.lt_irrefl _ (Nat.lt_of_le_of_lt (Nat.le_add_right s1.heap.objs.size k) (z ▸ lt))
    refine hk2 b o (fun z => ?_) (hk b o e)
    simp only [List.mem_cons, List.not_mem_nil, or_false] at z
    rcases z with z | z | z | z
    · exact e5 4 z
    · exact e5 3 z
    · exact e5 0 z
    · exact e5 1 z
  have le : s1.heap.objs.size ≤ g.objs.size := by rw [gz]; exact Nat.le_add_right _ _
  exact ⟨.ref g.objs.size, upd H1 g.objs.size (.dK (mergeK [] (zipK ks ys))), I1.laid (t' := tk) hold le (show ObjOk X.prog X.w _ _ _ (.dK (mergeK [] (zipK ks ys))) from ⟨hlen, hm3, merged [] ((ks.map (Sum.inl : Int → L2.Key)).zip ub), KV.merge rel .nil, hd⟩), rfl, q1 _ (I1.hok.fresh le)⟩
end Tl
end S_Yz
section S_Yc
namespace Tl
open PySem PySem.Spec PyProof.Rows L2
theorem lot_yes {ns : List Int} (h1 : ∀ x ∈ ns, 1 ≤ x) (h2 : ns.Nodup) : lotV (ns.map V.int) = true := by
  unfold lotV
  rw [decide_eq_true ((nodup_int ns).mpr h2), Bool.and_true, List.all_eq_true]
  intro v hv
  obtain ⟨i, hi, rfl⟩ := List.mem_map.mp hv
  show (decide (1 ≤ i) && true) = true
  rw [decide_eq_true (h1 i hi)]
  rfl
theorem in_ints (x : Int) (ns : List Int) : inV (.int x) (ns.map V.int) = decide (x ∈ ns) := by
  unfold inV
  induction ns with
  | nil => rfl
  | cons a r ih =>
    rw [List.map_cons, List.any_cons, ih]
    have e : eqV (.int a) (.int x) = decide (x = a) := by
      show decide (a = x) = decide (x = a)
      exact decide_eq_decide.mpr eq_comm
    rw [e, ← Bool.decide_or]
    exact decide_eq_decide.mpr List.mem_cons.symm
theorem flat_ints (ns : List Int) : (ns.map V.int).all flatV = true := by
  rw [List.all_eq_true]
  intro v hv
  obtain ⟨i, _, rfl⟩ := List.mem_map.mp hv
  rfl
/-- turns that a web may have -/
structure OkT (ts : List (List Int)) : Prop where
  pos : 1 ≤ ts.length
  most : ts.length ≤ 1000
  pl : ∀ (i : Nat) (ns : List Int), ts[i]? = some ns → ns.Nodup ∧ (∀ x ∈ ns, 1 ≤ x ∧ x ≤ (ts.length : Int)) ∧ ((i : Int) + 1) ∉ ns
  sym : ∀ (i : Nat) (ns : List Int) (o : Int), ts[i]? = some ns → o ∈ ns → ∃ ms, ts[(o - 1).toNat]? = some ms ∧ ((i : Int) + 1) ∈ ms
  few : (ts.map List.length).sum ≤ 30000
theorem nodup_len {n : Nat} : ∀ {ns : List Int}, ns.Nodup → (∀ x ∈ ns, 1 ≤ x ∧ x ≤ (n : Int)) → ns.length ≤ n := by
  induction n with
  | zero =>
    intro ns _ h
    cases ns with
    | nil => exact Nat.le_refl _
    | cons x r => have := h x List.mem_cons_self; omega
  | succ n ih =>
    intro ns hn h
    by_cases hm : ((n + 1 : Nat) : Int) ∈ ns
    · have h2 := ih (hn.erase ((n + 1 : Nat) : Int)) fun x hx => by
        have := hn.mem_erase_iff.mp hx
        have := h x this.2
        omega
      rw [List.length_erase_of_mem hm] at h2
      omega
    · have h2 := ih hn fun x hx => by
        have := h x hx
        have : x ≠ ((n + 1 : Nat) : Int) := fun z => hm (z ▸ hx)
        omega
      omega
theorem OkT.short {ts : List (List Int)} (T : OkT ts) {i : Nat} {ns : List Int} (h : ts[i]? = some ns) : ns.length ≤ 1000 := by
  obtain ⟨a, b, _⟩ := T.pl i ns h
  exact Nat.le_trans (nodup_len a b) T.most
/-- the lists (tuples) of ints at as -/
def RowsL (H : Hp) (as : List Addr) (ts : List (List Int)) : Prop := as.length = ts.length ∧ ∀ (i : Nat) (a : Addr) (ns : List Int), as[i]? = some a → ts[i]? = some ns → H a = some (.lst (ns.map V.int))
def RowsT (H : Hp) (as : List Addr) (ts : List (List Int)) : Prop := as.length = ts.length ∧ ∀ (i : Nat) (a : Addr) (ns : List Int), as[i]? = some a → ts[i]? = some ns → H a = some (.tup (ns.map V.int))
/-- a list of lists, a tuple of tuples -/
def LL (H : Hp) (l : Addr) (ts : List (List Int)) : Prop := ∃ as : List Addr, H l = some (.lst (as.map V.ref)) ∧ RowsL H as ts
def TT (H : Hp) (l : Addr) (ts : List (List Int)) : Prop := ∃ as : List Addr, H l = some (.tup (as.map V.ref)) ∧ RowsT H as ts
theorem RowsL.ex {A B : Hp} {as : List Addr} {ts : List (List Int)} (h : RowsL A as ts) (e : Evl.Ex A B) : RowsL B as ts := ⟨h.1, fun i a ns h1 h2 => e _ _ (h.2 i a ns h1 h2)⟩
theorem RowsT.ex {A B : Hp} {as : List Addr} {ts : List (List Int)} (h : RowsT A as ts) (e : Evl.Ex A B) : RowsT B as ts := ⟨h.1, fun i a ns h1 h2 => e _ _ (h.2 i a ns h1 h2)⟩
theorem LL.ex {A B : Hp} {l : Addr} {ts : List (List Int)} (h : LL A l ts) (e : Evl.Ex A B) : LL B l ts := h.imp fun as h => ⟨e _ _ h.1, h.2.ex e⟩
theorem TT.ex {A B : Hp} {l : Addr} {ts : List (List Int)} (h : TT A l ts) (e : Evl.Ex A B) : TT B l ts := h.imp fun as h => ⟨e _ _ h.1, h.2.ex e⟩
theorem refs_getD {as : List Addr} {i : Nat} {a : Addr} (h : as[i]? = some a) : (as.map V.ref).getD i .non = .ref a := by
  rw [List.getD_eq_getElem?_getD, List.getElem?_map, h]
  rfl
theorem ints_getD {ns : List Int} {i : Nat} (h : i < ns.length) : (ns.map V.int).getD i .non = .int (ns.getD i 0) := by
  rw [List.getD_eq_getElem?_getD, List.getElem?_map, List.getD_eq_getElem?_getD, List.getElem?_eq_getElem h]
  rfl
theorem both_at {α β : Type} {as : List α} {bs : List β} (h : as.length = bs.length) {i : Nat} (hi : i < as.length) : ∃ a b, as[i]? = some a ∧ bs[i]? = some b := ⟨as[i], bs[i]'(h ▸ hi), List.getElem?_eq_getElem hi, List.getElem?_eq_getElem _⟩
section
open Evl
variable {K : PySem.W.Frag} {σ : L2.St} {H : Hp}
theorem ev_allH {ta : TE} {n : Nat} (h : EvNL ta σ H (Holds (fun _ v _ => v = .bl true) n)) : Ev (tCB (rAll K) (tCons ta tNil)) σ H (.bl true) := fun H1 e Q q =>
  h H1 e _ fun p xs H2 hp e2 h2 hL => by
    obtain ⟨_, a2⟩ := hL H2 (e.trans e2) fun a o _ _ h => h
    have ex : xs = (List.replicate xs.length true).map V.bl := by
      rw [List.map_replicate]
      exact List.eq_replicate_iff.mpr ⟨rfl, fun v hv => by
        obtain ⟨i, hi, rfl⟩ := List.mem_iff_getElem.mp hv
        exact a2 i _ (List.getElem?_eq_getElem hi)⟩
    refine ⟨p, List.replicate xs.length true, rfl, sq_of (by rw [← ex]; exact h2), ?_⟩
    have : (List.replicate xs.length true).all id = true := List.all_eq_true.mpr fun b hb => (List.mem_replicate.mp hb).2
    rw [this]
    exact q H2 e2
theorem ev_allR {ta : TE} {β : Type} {bs : List β} (h : EvNL ta σ H (Row2 (fun _ v _ => v = .bl true) bs)) : Ev (tCB (rAll K) (tCons ta tNil)) σ H (.bl true) :=
  ev_allH (n := bs.length) fun H1 e Q q => h H1 e Q fun p xs H2 hp e2 h2 hL => q p xs H2 hp e2 h2 fun H3 h3 k => by
    obtain ⟨a1, a2⟩ := hL H3 h3 k
    exact ⟨a1, fun i v hv => by
      have hi := (List.getElem?_eq_some_iff.mp hv).1
      exact a2 i (bs[i]'(by omega)) v (List.getElem?_eq_getElem _) hv⟩
end
theorem scIsTurn : FnScope ["turn", "place", "many", "other"] ["turn", "place", "many"] (defScope sIsTurn) := ⟨rfl, rfl, rfl, by decide +kernel, rfl, by decide +kernel, by decide +kernel⟩
theorem scAre : FnScope ["turns", "many", "at", "turn", "tied", "other"] ["turns"] (defScope sAreTurns) := ⟨rfl, rfl, rfl, by decide +kernel, rfl, by decide +kernel, by decide +kernel⟩
def spIsTurn (K : PySem.W.Frag) : Sp := fun vs H Q _ => ∃ (a : Addr) (ns : List Int) (p m : Int), vs = [.ref a, .int p, .int m] ∧ SqL K H a (ns.map V.int) ∧ ns.length ≤ 4000 ∧ ns.Nodup ∧ (∀ x ∈ ns, 1 ≤ x ∧ x ≤ m) ∧ p ∉ ns ∧ ∀ H1, Evl.Ex H H1 → Q (.bl true) H1
theorem spv_isTurn {K : PySem.W.Frag} {H : Hp} {a : Addr} {ns : List Int} {p m : Int} (h : SqL K H a (ns.map V.int)) (hl : ns.length ≤ 4000) (hn : ns.Nodup) (hb : ∀ x ∈ ns, 1 ≤ x ∧ x ≤ m) (hp : p ∉ ns) : Evl.SpV (spIsTurn K) [.ref a, .int p, .int m] H (.bl true) :=
  fun H1 e Q q E => ⟨a, ns, p, m, rfl, Evl.ex_l e h, hl, hn, hb, hp, q⟩
section
variable {P : Program} {w : World} {K : PySem.W.Frag} {mg : Str → Option Value} {base : Heap}
theorem ok_isTurn {f fO : Addr} {fd fdO : FuncData} {k : Nat} (F : Fun K "_is_turn" "_is_turn" sIsTurn f fd)
    (FO : Fun K "is_lot" "is_lot" sLot fO fdO) (GO : FnOk P w K mg base CX0 k fO fdO ["value"] (spLot K)) (bO : Binds K fdO ["value"] []) (gO : mg "is_lot" = some (.ref fO)) (mall : mg "all" = none) :
    FnOk P w K mg base CX0 (k + 1) f fd ["turn", "place", "many"] (spIsTurn K) := by
  refine F.ok scIsTurn (fun vs H Q E h => ?_) (fun cdv A outer s H vs Q E hr h => ?_)
  · obtain ⟨a, ns, p, m, rfl, _⟩ := h
    rfl
  · obtain ⟨a, ns, p, m, rfl, hS, hl, hn, hb, hp, q⟩ := h
    have nd := scIsTurn.nd
    refine ⟨_, pss_one (ps_ret (pe_and (pe_call GO hr (by rfl) gO FO.kp bO .nil pass0 (pa_cons (pv 0) pa_nil)) (pe_and (pe_cmpR op_notIn_seq (pv 1) (pv 0) (by rfl)) (pe_one (pe_callB (cr_all rfl) (by rfl) mall (by decide +kernel) (pa_cons
      (pe_lc (own := [("other", 3)]) (g := gName 3) (tt := tYes) rfl nd (pi_list (pv 0)) (blkOk_by (N := ["turn", "place", "many", "other"]) (sc := defScope sIsTurn) (by decide +kernel)) (fun _ _ _ _ _ => pg_name (i := 3) nd rfl (Or.inl rfl)) (fun _ _ _ _ _ => pts_nil)
        (fun _ _ _ _ _ => pe_cmpR op_le (pv 3) (pv 2) (nomark _))) pa_nil)))))), ?_⟩
    have hlot := lot_yes (ns := ns) (fun x hx => (hb x hx).1) hn
    refine Evl.s_ret (v := .bl true) (Evl.ev_is (Evl.ev_andV (a := true) (b := true) (Evl.ev_is (Evl.ev_call (Evl.ea_cons (Evl.ev_var rfl) Evl.ea_nil) (spv_lot (.lst hS (by rw [List.length_map]; exact hl) fun v hv => by
      obtain ⟨i, _, rfl⟩ := List.mem_map.mp hv
      exact ⟨_, .int i⟩))) (by rw [hlot])) fun _ => Evl.ev_is (Evl.ev_andV (a := true) (b := true) (Evl.ev_is (Evl.ev_op (Evl.ev_var rfl) (Evl.ev_var rfl) (Evl.rv_niL hS rfl (flat_ints ns))) (by rw [in_ints, decide_eq_false hp] <;> rfl)) fun _ => ?_) rfl) rfl) fun H1 e1 => q H1 e1
    refine ev_allH (n := ns.length) ?_
    have e0 : ns.length = (ns.map V.int).length := by rw [List.length_map]
    rw [e0]
    refine en_lc (ei_list (Evl.ev_var rfl) hS) aims_at (fun _ => rfl) (by rw [List.length_map]; omega) _ fun i hi => en_v ?_
    rw [List.length_map] at hi
    have hm := (hb _ (List.getElem_mem hi)).2
    refine Evl.ev_is (Evl.ev_op (x := .int ns[i]) (Evl.ev_is (Evl.ev_var rfl) ?_) (Evl.ev_var rfl) Evl.rv_I0) (by rw [decide_eq_true hm])
    rw [ints_getD hi, List.getD_eq_getElem?_getD, List.getElem?_eq_getElem hi]
    rfl
end
end Tl
end S_Yc
section S_Yd
namespace Tl
open PySem PySem.Spec PyProof.Rows L2
def spAre (K : PySem.W.Frag) : Sp := fun vs H Q _ => ∃ (l : Addr) (ts : List (List Int)), vs = [.ref l] ∧ LL H l ts ∧ OkT ts ∧ ∀ H1, Evl.Ex H H1 → Q (.bl true) H1
theorem spv_are {K : PySem.W.Frag} {H : Hp} {l : Addr} {ts : List (List Int)} (h : LL H l ts) (T : OkT ts) : Evl.SpV (spAre K) [.ref l] H (.bl true) := fun H1 e Q q E => ⟨l, ts, rfl, h.ex e, T, q⟩
/-- the places each row tells, one by one -/
theorem len_rows (ts : List (List Int)) : ∀ n, n ≤ ts.length → (rows (fun i => (ts.getD i []).length) (fun _ _ => true) (fun i j => (i, j)) n).length = ((ts.take n).map List.length).sum
  | 0, _ => rfl
  | n + 1, h => by
    rw [rows_succ, List.length_append, len_rows ts n (by omega)]
    have e : (els (fun i => (ts.getD i []).length) (fun _ _ => true) (fun i j => (i, j)) n).length = (ts.getD n []).length := by
      unfold els
      rw [List.length_map, List.filter_eq_self.mpr (fun _ _ => rfl), List.length_range]
    have e2 : ts.getD n [] = ts[n]'(by omega) := by rw [List.getD_eq_getElem?_getD, List.getElem?_eq_getElem (by omega)] <;> rfl
    rw [e, List.take_add_one, List.getElem?_eq_getElem (by omega), e2, List.map_append, List.sum_append]
    simp
theorem rows_most {β : Type} {m : Nat → Nat} {f : Nat → Nat → Bool} {b : Nat → Nat → β} : ∀ n, (rows m f b n).length ≤ (rows m (fun _ _ => true) (fun i j => (i, j)) n).length
  | 0 => Nat.le_refl _
  | n + 1 => by
    rw [rows_succ, rows_succ, List.length_append, List.length_append]
    refine Nat.add_le_add (rows_most n) ?_
    unfold els
    rw [List.length_map, List.length_map, List.filter_eq_self.mpr (fun _ _ => rfl)]
    exact List.length_filter_le _ _
theorem OkT.rows {ts : List (List Int)} (T : OkT ts) {β : Type} {f : Nat → Nat → Bool} {b : Nat → Nat → β} : (rows (fun i => (ts.getD i []).length) f b ts.length).length ≤ 90000 := by
  refine Nat.le_trans (rows_most _) ?_
  rw [len_rows ts _ (Nat.le_refl _), List.take_length]
  exact Nat.le_trans T.few (by decide)
section
open Evl
theorem go_nl {te : TE} {σ : L2.St} {H : Hp} {L : List V → Hp → Prop} {Q : VK} (h : EvNL te σ H L) (k : ∀ p xs H1, H p = none → Ex H H1 → H1 p = some (.lst xs) → L xs H1 → Q (.ref p) H1) : te σ H Q := h H (Ex.refl H) Q fun p xs H1 hp e h1 hL => k p xs H1 hp e h1 (hL H1 e fun _ _ _ _ h => h)
theorem go_n {te : TE} {σ : L2.St} {H : Hp} {R : V → Hp → Prop} {Q : VK} (h : EvN te σ H R) (k : ∀ v H1, Ex H H1 → R v H1 → Q v H1) : te σ H Q := h H (Ex.refl H) Q fun v H1 e hR => k v H1 e (hR H1 e fun _ _ _ h => h)
theorem q_asgNL {te : TE} {tz : TS} {i : Nat} {σ : L2.St} {H : Hp} {D : Ends} {L : List V → Hp → Prop} (h : EvNL te σ H L) (k : ∀ p xs H1, H p = none → Ex H H1 → H1 p = some (.lst xs) → L xs H1 → tz D (σ.set i (some (.ref p))) H1) : tSeq (tAsg te (gName i)) tz D σ H :=
  go_nl h k
end
section
variable {P : Program} {w : World} {K : PySem.W.Frag} {mg : Str → Option Value} {base : Heap}
set_option maxHeartbeats 2000000 in
theorem ok_are {f fW fL fI : Addr} {fd fdW fdL fdI : FuncData} {k : Nat} (F : Fun K "_are_turns" "_are_turns" sAreTurns f fd)
    (FW : Fun K "is_within" "is_within" sWithin fW fdW) (GW : FnOk P w K mg base CX0 k fW fdW ["value", "least", "most"] (spWithin K)) (bW : Binds K fdW ["value", "least", "most"] []) (gW : mg "is_within" = some (.ref fW))
    (FL : Fun K "is_list" "is_list" sList fL fdL) (GL : FnOk P w K mg base CX0 k fL fdL ["value"] (spList K)) (bL : Binds K fdL ["value"] []) (gL : mg "is_list" = some (.ref fL))
    (FI : Fun K "_is_turn" "_is_turn" sIsTurn fI fdI) (GI : FnOk P w K mg base CX0 k fI fdI ["turn", "place", "many"] (spIsTurn K)) (bI : Binds K fdI ["turn", "place", "many"] []) (gI : mg "_is_turn" = some (.ref fI))
    {tM : Tok} (gM : mg "MOST_PLACES" = some (.int 1000 tM)) (mall : mg "all" = none) (mlen : mg "len" = none) (menum : mg "enumerate" = none) :
    FnOk P w K mg base CX0 (k + 1) f fd ["turns"] (spAre K) := by
  refine F.ok scAre (fun vs H Q E h => ?_) (fun cdv A outer s H vs Q E hr h => ?_)
  · obtain ⟨l, ts, rfl, _⟩ := h
    rfl
  · obtain ⟨l, ts, rfl, hL, hT, q⟩ := h
    have nd := scAre.nd
    refine ⟨_, pss_cons (ps_if (PW.pt (pw_or (pt_not (pt_val (pe_call GL hr (by rfl) gL FL.kp bL .nil pass0 (pa_cons (pv 0) pa_nil)))) (pw_or1 (pt_not (pt_val (pe_call GW hr (by rfl) gW FW.kp bW .nil pass0
          (pa_cons (pe_callB call_len_seq (by rfl) mlen PySem.boot_len (pa_cons (pv 0) pa_nil)) (pa_cons pe_int (pa_cons (pe_glob (v := .int 1000) (by rfl) gM ⟨_, rfl⟩) pa_nil))))))))) (pss_one (ps_ret pe_bl)) pss_nil)
      (pss_cons (ps_set (i := 1) nd rfl (.inr rfl) (pe_callB call_len_seq (by rfl) mlen PySem.boot_len (pa_cons (pv 0) pa_nil)))
      (pss_cons (ps_if (pt_not (pt_val (pe_callB (cr_all rfl) (by rfl) mall (by decide +kernel) (pa_cons
          (pe_lc (own := [("at", 2), ("turn", 3)]) (g := gTup K 2 (gCons (gName 2) (gCons (gName 3) gNil))) (tt := tYes) rfl nd (pi_enum (by rfl) menum (pa_cons (pv 0) pa_nil)) (blkOk_by (N := ["turns", "many", "at", "turn", "tied", "other"]) (sc := defScope sAreTurns) (by decide +kernel))
            (fun _ _ _ _ _ => pg_tup (by rfl) (pgs_cons (pg_name (i := 2) nd rfl (Or.inl rfl)) (pgs_cons (pg_name (i := 3) nd rfl (Or.inl rfl)) pgs_nil))) (fun _ _ _ _ _ => pts_nil)
            (fun _ _ _ _ _ => pe_call GI hr (by rfl) gI FI.kp bI .nil pass0 (pa_cons (pv 3) (pa_cons (pe_op op_add (pv 2) pe_int) (pa_cons (pv 1) pa_nil))))) pa_nil)))) (pss_one (ps_ret pe_bl)) pss_nil)
      (pss_cons (ps_set (i := 4) nd rfl (.inr rfl) (pe_lc (own := [("turn", 3)]) (g := gName 3) (tt := tYes) rfl nd (pi_list (pv 0)) (blkOk_by (N := ["turns", "many", "at", "turn", "tied", "other"]) (sc := defScope sAreTurns) (by decide +kernel))
            (fun _ _ _ _ _ => pg_name (i := 3) nd rfl (Or.inl rfl)) (fun _ _ _ _ _ => pts_nil)
            (fun _ _ _ _ _ => pe_dc (own := [("other", 5)]) (wi := iList K (tVar 3)) (g := gName 5) (tt := tYes) rfl nd (pi_list (pv 3)) (blkOk_by (N := ["turns", "many", "at", "turn", "tied", "other"]) (sc := { kind := .function, names := [(".0", .local), ("turn", .local)], isGenerator := false, isCoroutine := false }) (by decide +kernel))
              (fun _ _ _ _ _ => pg_name (i := 5) nd rfl (Or.inl rfl)) (fun _ _ _ _ _ => pts_nil) (fun _ _ _ _ _ => pv 5) (fun _ _ _ _ _ => pe_bl))))
      (pss_one (ps_ret (pe_callB (cr_all rfl) (by rfl) mall (by decide +kernel) (pa_cons
          (pe_lc2 (own := [("at", 2), ("turn", 3), ("other", 5)]) (vs1 := [5]) (wi1 := iList K (tVar 3)) (g := gTup K 2 (gCons (gName 2) (gCons (gName 3) gNil))) (g1 := gName 5) (tt := tYes) (tt1 := tYes) rfl nd (pi_enum (by rfl) menum (pa_cons (pv 0) pa_nil)) (blkOk_by (N := ["turns", "many", "at", "turn", "tied", "other"]) (sc := defScope sAreTurns) (by decide +kernel)) (by decide)
            (fun _ _ _ _ _ => pg_tup (by rfl) (pgs_cons (pg_name (i := 2) nd rfl (Or.inl rfl)) (pgs_cons (pg_name (i := 3) nd rfl (Or.inl rfl)) pgs_nil))) (fun _ _ _ _ _ => pts_nil)
            (fun _ _ _ _ _ => pi_list (pv 3)) (fun _ _ _ _ _ => pg_name (i := 5) nd rfl (Or.inl rfl)) (fun _ _ _ _ _ => pts_nil)
            (fun _ _ _ _ _ => pe_cmp (pc_din (hu_of hr) (pe_op op_add (pv 2) pe_int) (pe_ix (r := rIxL K) ix_list (pv 4) (pe_op op_sub (pv 5) pe_int) (fun _ _ => rfl))) rfl)) pa_nil))))))), ?_⟩
    obtain ⟨as, hl, ha, hrow⟩ := hL
    have hmap : (as.map V.ref).length = ts.length := by rw [List.length_map, ha]
    have item : ∀ i, i < ts.length → ∃ a ns, as[i]? = some a ∧ ts[i]? = some ns ∧ H a = some (.lst (ns.map V.int)) := fun i hi => by
      obtain ⟨a, ns, h1, h2⟩ := both_at ha (show i < as.length by omega)
      exact ⟨a, ns, h1, h2, hrow i a ns h1 h2⟩
    have p1 := hT.pos
    have p2 := hT.most
    refine Evl.q_when (b := false) (Evl.et_is (Evl.et_or (b := false) (Evl.et_is (Evl.et_not (Evl.et_B (Evl.ev_call (Evl.ea_cons (Evl.ev_var rfl) Evl.ea_nil) (spv_list (.lst (Evl.sq_of hl)))))) (b := false) (by decide)) fun _ =>
      Evl.et_is (Evl.et_not (Evl.et_B (Evl.ev_call (Evl.ea_cons (Evl.ev_len (Evl.ev_var rfl) (Evl.sq_of hl)) (Evl.ea_cons Evl.ev_c (Evl.ea_cons Evl.ev_c Evl.ea_nil))) (spv_within (.int _) True.intro True.intro)))) (b := false) ?_) rfl) (fun z => by cases z) fun _ H1 e1 => ?_
    · show (!(decide ((1 : Int) ≤ ((as.map V.ref).length : Int)) && decide (((as.map V.ref).length : Int) ≤ 1000))) = false
      rw [decide_eq_true (by omega), decide_eq_true (by omega)]
      rfl
    refine Evl.q_asg (Evl.ev_len (Evl.ev_var rfl) (Evl.sq_of (e1 _ _ hl))) fun H2 e2 => ?_
    have e02 := e1.trans e2
    refine Evl.q_when (b := false) (Evl.et_is (Evl.et_not (Evl.et_B (ev_allH (n := (as.map V.ref).length) (en_lc (ei_enum (Evl.ea_cons (Evl.ev_var rfl) Evl.ea_nil) (Evl.sq_of (e02 _ _ hl))) aims_enum (fun _ => rfl) (by omega) _ fun i hi => en_v ?_)))) rfl) (fun z => by cases z) fun _ H3 e3 => ?_
    · obtain ⟨a, ns, h1, h2, h3⟩ := item i (by omega)
      obtain ⟨t1, t2, t3⟩ := hT.pl i ns h2
      have := hT.short h2
      refine Evl.ev_call (Evl.ea_cons (x := .ref a) (Evl.ev_is (Evl.ev_var rfl) (refs_getD h1)) (Evl.ea_cons (Evl.ev_op (Evl.ev_var rfl) Evl.ev_c Evl.rv_I0) (Evl.ea_cons (Evl.ev_var rfl) Evl.ea_nil))) (spv_isTurn (Evl.sq_of (e02 _ _ h3)) (by omega) t1 (fun x hx => ?_) t3)
      rw [hmap]
      exact t2 x hx
    have e03 := e02.trans e3
    refine q_asgNL (L := Holds (fun i v H' => ∃ ns d, ts[i]? = some ns ∧ v = .ref d ∧ H' d = some (.dK (dOf (fun j => ns.getD j 0) ns.length))) (as.map V.ref).length) (en_lc (ei_list (Evl.ev_var rfl) (Evl.sq_of (e03 _ _ hl))) aims_at (fun _ => rfl) (by omega) _ fun i hi => ?_) fun p xs H4 hp e4 h4 hL4 => ?_
    · obtain ⟨a, ns, h1, h2, h3⟩ := item i (by omega)
      have hs := hT.short h2
      have e0 : (ns.map V.int).length = ns.length := List.length_map ..
      refine fun H5 e5 Q q => en_dc (kf := fun j => ns.getD j 0) (n := (ns.map V.int).length) (ei_list (Evl.ev_is (Evl.ev_var rfl) (refs_getD h1)) (Evl.sq_of (e03 _ _ h3))) aims_at (fun _ => rfl) (by omega) (fun j hj => Evl.ev_is (Evl.ev_var rfl) (ints_getD (by omega))) (fun j hj => Evl.ev_c) H5 e5 Q fun v H6 e6 hv => q v H6 e6 fun H7 e7 s7 => ?_
      obtain ⟨d, rfl, hd⟩ := hv H7 e7 s7
      exact ⟨ns, d, h2, rfl, by rw [← e0]; exact hd⟩
    have e04 := e03.trans e4
    obtain ⟨l4, h4at⟩ := hL4
    refine Evl.s_ret (ev_allR (bs := rows (fun i => (ts.getD i []).length) (fun _ _ => true) (fun i j => (i, j)) (as.map V.ref).length) ?_) fun H5 e5 => q H5 (e04.trans e5)
    refine en_lc2 (Y1 := fun i => YAt ((ts.getD i []).map V.int)) (s1 := fun i j σ => σ.set 5 (some (((ts.getD i []).map V.int).getD j .non))) (ei_enum (Evl.ea_cons (Evl.ev_var rfl) Evl.ea_nil) (Evl.sq_of (e04 _ _ hl))) aims_enum (fun _ => rfl) (fun i hi => ?_) (fun i => ?_) (fun i j => rfl) _ _ _ (fun i j hi hj => et_yes) (fun i j hi hj _ => en_v ?_) ?_
    · obtain ⟨a, ns, h1, h2, h3⟩ := item i (by omega)
      have ed : ts.getD i [] = ns := by rw [List.getD_eq_getElem?_getD, h2]; rfl
      rw [ed]
      have e0 : (ns.map V.int).length = ns.length := List.length_map ..
      rw [← e0]
      exact ei_list (Evl.ev_is (Evl.ev_var rfl) (refs_getD h1)) (Evl.sq_of (e04 _ _ h3))
    · have e0 : ((ts.getD i []).map V.int).length = (ts.getD i []).length := List.length_map ..
      have := aims_at (xs := (ts.getD i []).map V.int) (j := 5)
      rw [e0] at this
      exact this
    · obtain ⟨a, ns, h1, h2, h3⟩ := item i (by omega)
      have ed : ts.getD i [] = ns := by rw [List.getD_eq_getElem?_getD, h2]; rfl
      rw [ed] at hj ⊢
      obtain ⟨t1, t2, t3⟩ := hT.pl i ns h2
      have hm : ns[j] ∈ ns := List.getElem_mem hj
      have hb := t2 _ hm
      obtain ⟨ms, hms, hmem⟩ := hT.sym i ns ns[j] h2 hm
      have hx : (ns[j] - 1).toNat < xs.length := by rw [l4]; omega
      obtain ⟨ns2, d, k1, k2, k3⟩ := h4at _ _ (List.getElem?_eq_getElem hx)
      rw [hms] at k1
      cases k1
      have ej : ns.getD j 0 = ns[j] := by rw [List.getD_eq_getElem?_getD, List.getElem?_eq_getElem hj]; rfl
      have hin : (valV (dOf (fun j => ms.getD j 0) ms.length) (.inl ((i : Int) + 1))).isSome = true := by
        rw [dOf_at]
        obtain ⟨j2, hj2, e2⟩ := List.mem_iff_getElem.mp hmem
        exact ⟨j2, hj2, by rw [List.getD_eq_getElem?_getD, List.getElem?_eq_getElem hj2, ← e2]; rfl⟩
      refine Evl.ev_is (ev_din (d := d) (Evl.ev_op (Evl.ev_var rfl) Evl.ev_c Evl.rv_I0) (Evl.ev_op (Evl.ev_var rfl) (Evl.ev_op (x := .int ns[j]) (Evl.ev_is (Evl.ev_var rfl) (by rw [ints_getD hj, ej])) Evl.ev_c Evl.rv_I0) (Evl.rv_ixL (Evl.sq_of h4) ?_)) k3) (by rw [hin])
      have en : ns[j] - 1 = ((ns[j] - 1).toNat : Int) := by omega
      rw [en]
      exact atI_nat (by rw [← k2]; exact List.getElem?_eq_getElem hx)
    · rw [hmap]
      exact hT.rows
end
end Tl
end S_Yd
section S_Ye
namespace Tl
open PySem PySem.Spec PyProof.Rows L2
/-! ### sorted -/
def ins (x : Int) : List Int → List Int
  | [] => [x]
  | y :: r => if x ≤ y then x :: y :: r else y :: ins x r
def srt : List Int → List Int
  | [] => []
  | x :: r => ins x (srt r)
theorem ins_perm (x : Int) : ∀ l, (ins x l).Perm (x :: l)
  | [] => .refl _
  | y :: r => by
    unfold ins
    split
    · exact .refl _
    · exact ((ins_perm x r).cons y).trans (.swap x y r)
theorem srt_perm : ∀ l, (srt l).Perm l
  | [] => .refl _
  | x :: r => (ins_perm x _).trans ((srt_perm r).cons x)
theorem ins_up (x : Int) : ∀ l, l.Pairwise (· ≤ ·) → (ins x l).Pairwise (· ≤ ·)
  | [], _ => List.pairwise_singleton _ _
  | y :: r, h => by
    have h2 := List.pairwise_cons.mp h
    unfold ins
    split
    · rename_i hxy
      refine List.pairwise_cons.mpr ⟨fun a ha => ?_, h⟩
      rcases List.mem_cons.mp ha with e | e
      · rw [e]; exact hxy
      · exact Int.le_trans hxy (h2.1 a e)
    · rename_i hxy
      refine List.pairwise_cons.mpr ⟨fun a ha => ?_, ins_up x r h2.2⟩
      rcases List.mem_cons.mp ((ins_perm x r).mem_iff.mp ha) with e | e
      · rw [e]; omega
      · exact h2.1 a e
theorem srt_up : ∀ l, (srt l).Pairwise (· ≤ ·)
  | [] => List.Pairwise.nil
  | x :: r => ins_up x _ (srt_up r)
theorem up_uniq : ∀ {a b : List Int}, a.Perm b → a.Pairwise (· ≤ ·) → b.Pairwise (· ≤ ·) → a = b
  | [], b, p, _, _ => (List.nil_perm.mp p).symm
  | x :: r, [], p, _, _ => absurd p.length_eq (by simp)
  | x :: r, y :: q, p, h1, h2 => by
    have a1 := List.pairwise_cons.mp h1
    have a2 := List.pairwise_cons.mp h2
    have e : x = y := by
      have m1 : x ∈ y :: q := p.mem_iff.mp List.mem_cons_self
      have m2 : y ∈ x :: r := p.mem_iff.mpr List.mem_cons_self
      rcases List.mem_cons.mp m1 with e | e
      · exact e
      · rcases List.mem_cons.mp m2 with z | z
        · exact z.symm
        · exact Int.le_antisymm (a1.1 y z) (a2.1 x e)
    subst e
    rw [up_uniq (List.Perm.cons_inv p) a1.2 a2.2]
theorem srt_of {a b : List Int} (p : a.Perm b) (h : a.Pairwise (· ≤ ·)) : a = srt b := up_uniq (p.trans (srt_perm b).symm) h (srt_up b)
section
open Evl
variable {K : PySem.W.Frag} {σ : L2.St} {H : Hp}
theorem el_sorted {ta : TE} {a : Addr} {ns : List Int} (h : Ev ta σ H (.ref a)) (hs : SqL K H a (ns.map V.int) ∨ SqT K H a (ns.map V.int)) : EvL (tCB (rSortedU K) (tCons ta tNil)) σ H ((srt ns).map V.int) := fun H1 e Q q =>
  h H1 e _ fun H2 e2 => ⟨a, ns, rfl, hs.imp (ex_l (e.trans e2)) (ex_t (e.trans e2)), fun ms p hp hu hn => by
    rw [srt_of hp hu]
    exact q p _ (fresh_back e2 hn) (e2.trans (Ex.new hn)) upd_same⟩
theorem s_retN {te : TE} {D : Ends} {R : V → Hp → Prop} (h : EvN te σ H R) (k : ∀ v H1, Ex H H1 → (∀ H3, Ex H H3 → Since H H1 H3 → R v H3) → D.rt v H1) : tRet te D σ H := h H (Ex.refl H) D.rt k
theorem s_retB {te : TE} {D : Ends} {R : V → Hp → Prop} {B : Hp} (hB : Ex B H) (h : EvN te σ B R) (k : ∀ v H1, Ex H H1 → (∀ H3, Ex B H3 → Since H H1 H3 → R v H3) → D.rt v H1) : tRet te D σ H := h H hB D.rt k
theorem q_asgN {te : TE} {tz : TS} {i : Nat} {D : Ends} {R : V → Hp → Prop} {B : Hp} (hB : Ex B H) (h : EvN te σ B R) (k : ∀ v H1, Ex H H1 → (∀ H3, Ex B H3 → Since H H1 H3 → R v H3) → tz D (σ.set i (some v)) H1) : tSeq (tAsg te (gName i)) tz D σ H := h H hB _ k
theorem q_fldN {ta te : TE} {tz : TS} {D : Ends} {R : V → Hp → Prop} {B : Hp} {f : Str} (hB : Ex B H) (h : EvN te σ B R) (k : ∀ v H1, Ex H H1 → (∀ H3, Ex B H3 → Since H H1 H3 → R v H3) →
    ta σ H1 fun x H2 => ∃ a C dx fs, x = .ref a ∧ H2 a = some (.ins C dx fs) ∧ Cls K C ∧ NoAttr K C f ∧ fs.length < 1000 ∧ tz D σ (upd H2 a (.ins C dx (putF f v fs)))) : tSeq (sFld K ta te f) tz D σ H := h H hB _ k
/-- C: what came between A and B makes R hold -/
def SpN (sp : Sp) (vs : List V) (H : Hp) (R : V → Hp → Prop) : Prop := ∀ H1, Ex H H1 → ∀ Q : VK, (∀ v H2, Ex H1 H2 → (∀ H3, Ex H H3 → Since H1 H2 H3 → R v H3) → Q v H2) → ∀ E : XK, sp vs H1 Q E
theorem en_call {sp : Sp} {dvs vs : List V} {E : XK} {ta : TA} {R : V → Hp → Prop} (h : EvA ta σ H vs) (hs : SpN sp (vs ++ dvs) H R) : EvN (tCall sp dvs E ta) σ H R := fun H1 e Q q =>
  h H1 e _ fun H2 e2 => hs H2 (e.trans e2) Q (fun v H3 e3 hv => q v H3 (e2.trans e3) fun H4 h4 s4 => hv H4 h4 fun a o ha hc => s4 a o (fresh_back e2 ha) hc) E
/-- tuple(list made now) -/
theorem en_tupNL {ta : TE} {L : List V → Hp → Prop} (h : EvNL ta σ H L) : EvN (tCB (fun xs H Q => ∃ p ys, xs = [V.ref p] ∧ ((SqL K H p ys ∧ ∀ l, H l = none → Q (V.ref l) (upd H l (HO.tup ys))) ∨ (SqT K H p ys ∧ Q (V.ref p) H))) (tCons ta tNil)) σ H
    (fun u H' => ∃ t xs, u = .ref t ∧ H' t = some (.tup xs) ∧ L xs H') := fun H1 e Q q =>
  h H1 e _ fun p xs H2 hp e2 h2 hL => ⟨p, xs, rfl, .inl ⟨sq_of h2, fun t ht => q _ _ (e2.trans (Ex.new ht)) fun H3 h3 s3 => ⟨t, xs, rfl, s3 _ _ (fresh_back e2 ht) upd_same, hL H3 h3 fun a o _ ha hb => by
    refine s3 a o ha ?_
    rw [upd_ne (ne_of_none hb ht)]
    exact hb⟩⟩⟩
/-- tuple(list that stands) -/
theorem en_tup {ta : TE} {a : Addr} {xs : List V} (h : Ev ta σ H (.ref a)) (hs : SqL K H a xs) : EvN (tCB (fun xs H Q => ∃ p ys, xs = [V.ref p] ∧ ((SqL K H p ys ∧ ∀ l, H l = none → Q (V.ref l) (upd H l (HO.tup ys))) ∨ (SqT K H p ys ∧ Q (V.ref p) H))) (tCons ta tNil)) σ H
    (fun u H' => ∃ t, u = .ref t ∧ H' t = some (.tup xs)) := fun H1 e Q q =>
  h H1 e _ fun H2 e2 => ⟨a, xs, rfl, .inl ⟨ex_l (e.trans e2) hs, fun t ht => q _ _ (e2.trans (Ex.new ht)) fun H3 _ s3 => ⟨t, rfl, s3 _ _ (fresh_back e2 ht) upd_same⟩⟩⟩
end
/-- the ties: by rows, the lesser place first -/
def tiesOf (ts : List (List Int)) : List (Int × Int) := rows (fun i => (srt (ts.getD i [])).length) (fun i j => decide ((i : Int) + 1 < (srt (ts.getD i [])).getD j 0)) (fun i j => ((i : Int) + 1, (srt (ts.getD i [])).getD j 0)) ts.length
def Tie (p : Int × Int) (v : V) (H : Hp) : Prop := ∃ a, v = .ref a ∧ H a = some (.tup [.int p.1, .int p.2])
/-- the tuple of the ties -/
def TiesAt (H : Hp) (t : Addr) (ts : List (List Int)) : Prop := ∃ xs, H t = some (.tup xs) ∧ Row2 Tie (tiesOf ts) xs H
theorem TiesAt.ex {A B : Hp} {t : Addr} {ts : List (List Int)} (h : TiesAt A t ts) (e : Evl.Ex A B) : TiesAt B t ts := by
  obtain ⟨xs, h1, h2, h3⟩ := h
  refine ⟨xs, e _ _ h1, h2, fun k b v hb hv => ?_⟩
  obtain ⟨a, h4, h5⟩ := h3 k b v hb hv
  exact ⟨a, h4, e _ _ h5⟩
theorem scTies : FnScope ["turns", "at", "turn", "other"] ["turns"] (defScope sTies) := ⟨rfl, rfl, rfl, by decide +kernel, rfl, by decide +kernel, by decide +kernel⟩
def spTies : Sp := fun vs H Q _ => ∃ (l : Addr) (ts : List (List Int)) (B : Hp), vs = [.ref l] ∧ Evl.Ex B H ∧ TT B l ts ∧ OkT ts ∧ ∀ v H1, Evl.Ex H H1 → (∀ H3, Evl.Ex B H3 → Since H H1 H3 → ∃ t, v = .ref t ∧ TiesAt H3 t ts) → Q v H1
section
variable {P : Program} {w : World} {K : PySem.W.Frag} {mg : Str → Option Value} {base : Heap}
theorem srt_len (ns : List Int) : (srt ns).length = ns.length := (srt_perm ns).length_eq
set_option maxHeartbeats 2000000 in
theorem ok_ties {f : Addr} {fd : FuncData} {k : Nat} (F : Fun K "_ties_of" "_ties_of" sTies f fd) (mtup : mg "tuple" = none) (msort : mg "sorted" = none) (menum : mg "enumerate" = none) :
    FnOk P w K mg base CX0 (k + 1) f fd ["turns"] spTies := by
  refine F.ok scTies (fun vs H Q E h => ?_) (fun cdv A outer s H vs Q E hr h => ?_)
  · obtain ⟨l, ts, B, rfl, _⟩ := h
    rfl
  · obtain ⟨l, ts, B, rfl, hB, hL, hT, q⟩ := h
    have nd := scTies.nd
    refine ⟨_, pss_one (ps_ret (pe_callTy call_tuple_of (by rfl) mtup (by decide +kernel) (pa_cons
        (pe_lc2 (own := [("at", 1), ("turn", 2), ("other", 3)]) (vs1 := [3]) (wi1 := iList K (tCB (rSortedU K) (tCons (tVar 2) tNil))) (g := gTup K 2 (gCons (gName 1) (gCons (gName 2) gNil))) (g1 := gName 3) (tt := tYes) rfl nd (pi_enumT (by rfl) menum (pa_cons (pv 0) pa_nil)) (blkOk_by (N := ["turns", "at", "turn", "other"]) (sc := defScope sTies) (by decide +kernel)) (by decide)
          (fun _ _ _ _ _ => pg_tup (by rfl) (pgs_cons (pg_name (i := 1) nd rfl (Or.inl rfl)) (pgs_cons (pg_name (i := 2) nd rfl (Or.inl rfl)) pgs_nil))) (fun _ _ _ _ _ => pts_nil)
          (fun _ _ _ _ _ => pi_list (pe_callB cr_sortedU (by rfl) msort (by decide +kernel) (pa_cons (pv 2) pa_nil))) (fun _ _ _ _ _ => pg_name (i := 3) nd rfl (Or.inl rfl))
          (fun _ _ _ _ _ => pts_one (pt_cmpR op_gt (pv 3) (pe_op op_add (pv 1) pe_int) (nomark _)))
          (fun _ _ _ _ _ => pe_tup (pa_cons (pe_op op_add (pv 1) pe_int) (pa_cons (pv 3) pa_nil)))) pa_nil))), ?_⟩
    obtain ⟨as, hl, ha, hrow⟩ := hL
    have hmap : (as.map V.ref).length = ts.length := by rw [List.length_map, ha]
    have item : ∀ i, i < ts.length → ∃ a ns, as[i]? = some a ∧ ts[i]? = some ns ∧ B a = some (.tup (ns.map V.int)) := fun i hi => by
      obtain ⟨a, ns, h1, h2⟩ := both_at ha (show i < as.length by omega)
      exact ⟨a, ns, h1, h2, hrow i a ns h1 h2⟩
    have p2 := hT.most
    refine s_retB (R := fun u H' => ∃ t xs, u = .ref t ∧ H' t = some (.tup xs) ∧ Row2 Tie (tiesOf ts) xs H') hB ?_ fun v H1 e1 hv => q v H1 e1 fun H3 e3 s3 => ?_
    rotate_left
    · obtain ⟨t, xs, rfl, h1, h2⟩ := hv H3 e3 s3
      exact ⟨t, rfl, xs, h1, h2⟩
    · refine en_tupNL ?_
      unfold tiesOf
      rw [← hmap]
      refine en_lc2 (Y1 := fun i => YAt ((srt (ts.getD i [])).map V.int)) (s1 := fun i j σ => σ.set 3 (some (((srt (ts.getD i [])).map V.int).getD j .non))) (ei_enumT (Evl.ea_cons (Evl.ev_var rfl) Evl.ea_nil) (Evl.st_of hl)) aims_enum (fun _ => rfl) (fun i hi => ?_) (fun i => ?_) (fun i j => rfl) _ _ _ (fun i j hi hj => ?_) (fun i j hi hj _ => ?_) ?_
      · obtain ⟨a, ns, h1, h2, h3⟩ := item i (by omega)
        have ed : ts.getD i [] = ns := by rw [List.getD_eq_getElem?_getD, h2]; rfl
        rw [ed]
        have e0 : ((srt ns).map V.int).length = (srt ns).length := List.length_map ..
        rw [← e0]
        exact ei_listN (el_sorted (Evl.ev_is (Evl.ev_var rfl) (refs_getD h1)) (.inr (Evl.st_of h3)))
      · have e0 : ((srt (ts.getD i [])).map V.int).length = (srt (ts.getD i [])).length := List.length_map ..
        have := aims_at (xs := (srt (ts.getD i [])).map V.int) (j := 3)
        rw [e0] at this
        exact this
      · exact Evl.et_test (Evl.ev_op (x := .int ((srt (ts.getD i [])).getD j 0)) (Evl.ev_is (Evl.ev_var rfl) (ints_getD hj)) (Evl.ev_op (Evl.ev_var rfl) Evl.ev_c Evl.rv_I0) Evl.rv_I0)
      · refine fun H5 e5 Q q => en_u (xs := [.int ((i : Int) + 1), .int ((srt (ts.getD i [])).getD j 0)]) (Evl.eu_tup (Evl.ea_cons (Evl.ev_op (Evl.ev_var rfl) Evl.ev_c Evl.rv_I0) (Evl.ea_cons (Evl.ev_is (Evl.ev_var rfl) (ints_getD hj)) Evl.ea_nil)) (by show 2 ≤ 100000; omega)) H5 e5 Q fun v H6 e6 hv => q v H6 e6 fun H7 e7 s7 => hv H7 e7 s7
      · rw [hmap]
        have := hT.rows (f := fun i j => decide ((i : Int) + 1 < (srt (ts.getD i [])).getD j 0)) (b := fun i j => (((i : Int) + 1, (srt (ts.getD i [])).getD j 0) : Int × Int))
        have e0 : (fun i => (ts.getD i []).length) = (fun i => (srt (ts.getD i [])).length) := funext fun i => (srt_len _).symm
        rw [e0] at this
        exact this
end
end Tl
end S_Ye
section S_Yf
namespace Tl
open PySem PySem.Spec PyProof.Rows L2
abbrev sWebI : Stmt := inClass sWeb 0
abbrev sWebE : Stmt := inClass sWeb 1
abbrev rTup (K : PySem.W.Frag) : List V → Hp → VK → Prop := fun xs H Q => ∃ p ys, xs = [V.ref p] ∧ ((SqL K H p ys ∧ ∀ l, H l = none → Q (V.ref l) (upd H l (HO.tup ys))) ∨ (SqT K H p ys ∧ Q (V.ref p) H))
/-- the attributes, in the order of their stores -/
def wf (t : Addr) (n : Nat) (ti : Addr) : List (Str × V) := putF "ties" (.ref ti) (putF "many" (.int n) (putF "turns" (.ref t) []))
theorem kTM : ¬ (("turns" : Str) = "many") := by decide +kernel
theorem kTT : ¬ (("turns" : Str) = "ties") := by decide +kernel
theorem kMT : ¬ (("many" : Str) = "ties") := by decide +kernel
theorem wf_t (t : Addr) (n : Nat) (ti : Addr) : (wf t n ti).lookup ("turns" : Str) = some (.ref t) := by
  unfold wf
  rw [lookup_putF, if_neg kTT, lookup_putF, if_neg kTM, lookup_putF, if_pos rfl]
theorem wf_m (t : Addr) (n : Nat) (ti : Addr) : (wf t n ti).lookup ("many" : Str) = some (.int n) := by
  unfold wf
  rw [lookup_putF, if_neg kMT, lookup_putF, if_pos rfl]
theorem wf_i (t : Addr) (n : Nat) (ti : Addr) : (wf t n ti).lookup ("ties" : Str) = some (.ref ti) := by
  unfold wf
  rw [lookup_putF, if_pos rfl]
/-- a Web stands at x with these turns -/
def WebAt (C : Addr) (H : Hp) (x : Addr) (ts : List (List Int)) : Prop := ∃ dx t ti, H x = some (.ins C dx (wf t ts.length ti)) ∧ TT H t ts ∧ TiesAt H ti ts
theorem WebAt.ex {C : Addr} {A B : Hp} {x : Addr} {ts : List (List Int)} (h : WebAt C A x ts) (e : Evl.Ex A B) : WebAt C B x ts := by
  obtain ⟨dx, t, ti, h1, h2, h3⟩ := h
  exact ⟨dx, t, ti, e _ _ h1, h2.ex e, h3.ex e⟩
/-- the heap without x -/
def less (H : Hp) (x : Addr) : Hp := fun a => if a = x then none else H a
theorem less_ex (H : Hp) (x : Addr) : Evl.Ex (less H x) H := fun a o h => by
  unfold less at h
  by_cases e : a = x
  · rw [if_pos e] at h; cases h
  · rw [if_neg e] at h; exact h
theorem less_at {H : Hp} {x a : Addr} {o : HO} (h : less H x a = some o) : a ≠ x := fun e => by
  unfold less at h
  rw [if_pos e] at h
  cases h
theorem less_none (H : Hp) (x : Addr) : less H x x = none := if_pos rfl
theorem less_of {H : Hp} {x a : Addr} {o : HO} (h : H a = some o) (hn : a ≠ x) : less H x a = some o := by
  unfold less
  rw [if_neg hn]
  exact h
/-- tuple([tuple(turn) for turn in turns]) -/
theorem en_tuples {K : PySem.W.Frag} {σ : L2.St} {B : Hp} {i j : Nat} {l : Addr} {ts : List (List Int)} (hs2 : σ[i]? = some (some (.ref l))) (hw : ∀ x, wipe ((wipe σ [j]).set j (some x)) [j] = wipe σ [j]) (hj : ∀ x, ((wipe σ [j]).set j (some x))[j]? = some (some x))
    (hL : LL B l ts) (hz : ts.length ≤ 40000) : EvN (tCB (rTup K) (tCons (tLc (iList K (tVar i)) (gName j) tYes (tCB (rTup K) (tCons (tVar j) tNil)) [j]) tNil)) σ B (fun u H' => ∃ t, u = .ref t ∧ TT H' t ts) := by
  obtain ⟨as, hl, ha, hrow⟩ := hL
  have hmap : (as.map V.ref).length = ts.length := by rw [List.length_map, ha]
  have h1 : EvN (tCB (rTup K) (tCons (tLc (iList K (tVar i)) (gName j) tYes (tCB (rTup K) (tCons (tVar j) tNil)) [j]) tNil)) σ B (fun u H' => ∃ t xs, u = .ref t ∧ H' t = some (.tup xs) ∧ Holds (fun i v H' => ∃ ns, ts[i]? = some ns ∧ ∃ a, v = .ref a ∧ H' a = some (.tup (ns.map V.int))) (as.map V.ref).length xs H') := by
    refine en_tupNL (en_lc (ei_list (Evl.ev_var hs2) (Evl.sq_of hl)) aims_at (fun _ => hw _) (by omega) _ fun k hk => ?_)
    obtain ⟨a, ns, h1, h2⟩ := both_at ha (show k < as.length by omega)
    exact fun H5 e5 Q q => en_tup (Evl.ev_is (Evl.ev_var (hj _)) (refs_getD h1)) (Evl.sq_of (hrow k a ns h1 h2)) H5 e5 Q fun v H6 e6 hv => q v H6 e6 fun H7 e7 s7 => ⟨ns, h2, hv H7 e7 s7⟩
  exact fun H5 e5 Q q => h1 H5 e5 Q fun v H6 e6 hv => q v H6 e6 fun H7 e7 s7 => by
    obtain ⟨t, xs, rfl, k1, k2, k3⟩ := hv H7 e7 s7
    have hex : ∃ bs : List Addr, xs = bs.map V.ref := by
      have : ∀ v ∈ xs, ∃ a, v = V.ref a := fun v hv => by
        obtain ⟨i, hi, rfl⟩ := List.mem_iff_getElem.mp hv
        obtain ⟨_, _, a, h, _⟩ := k3 i _ (List.getElem?_eq_getElem hi)
        exact ⟨a, h⟩
      clear k1 k2 k3 hv
      induction xs with
      | nil => exact ⟨[], rfl⟩
      | cons v r ih =>
        obtain ⟨a, rfl⟩ := this v List.mem_cons_self
        obtain ⟨bs, rfl⟩ := ih fun u hu => this u (List.mem_cons_of_mem _ hu)
        exact ⟨a :: bs, rfl⟩
    obtain ⟨bs, rfl⟩ := hex
    refine ⟨t, rfl, bs, k1, by rw [List.length_map] at k2; omega, fun i a ns h1 h2 => ?_⟩
    obtain ⟨ns2, h3, b, h4, h5⟩ := k3 i (.ref a) (by rw [List.getElem?_map, h1]; rfl)
    rw [h2] at h3
    cases h3
    cases h4
    exact h5
structure TWeb (K : PySem.W.Frag) (mg : Str → Option Value) (C : Addr) : Prop where
  cl : Cls K C
  nT : NoAttr K C "turns"
  nM : NoAttr K C "many"
  nI : NoAttr K C "ties"
  mgC : mg "Web" = some (.ref C)
theorem scWebI : FnScope ["self", "turns", "turn"] ["self", "turns"] (defScope sWebI) := ⟨rfl, rfl, rfl, by decide +kernel, rfl, by decide +kernel, by decide +kernel⟩
def spWebI (C : Addr) : Sp := fun vs H Q _ => ∃ (x dx l : Addr) (ts : List (List Int)) (B : Hp), vs = [.ref x, .ref l] ∧ H x = some (.ins C dx []) ∧ Evl.Ex B H ∧ B x = none ∧ LL B l ts ∧ OkT ts ∧
  ∀ H', Evl.Ex (less H x) H' → (∀ H3, Evl.Ex B H3 → Since H H' H3 → H3 x = H' x → WebAt C H3 x ts) → Q .non H'
/-- what stands at B, and what came between A and H -/
def plus (B A H : Hp) : Hp := fun a => if (B a).isSome = true ∨ (A a).isNone = true then H a else none
theorem plus_le {B A H : Hp} : Evl.Ex (plus B A H) H := fun a o h => by
  unfold plus at h
  split at h
  · exact h
  · cases h
theorem plus_base {B A H : Hp} (h : Evl.Ex B H) : Evl.Ex B (plus B A H) := fun a o hb => by
  unfold plus
  rw [if_pos (.inl (by rw [hb]; rfl))]
  exact h _ _ hb
theorem plus_new {B A H : Hp} : Since A H (plus B A H) := fun a o hn h => by
  unfold plus
  rw [if_pos (.inr (by rw [hn]; rfl))]
  exact h
theorem plus_none {B A H : Hp} {a : Addr} (h1 : B a = none) (h2 : (A a).isSome = true) : plus B A H a = none := by
  unfold plus
  rw [if_neg]
  rintro (h | h)
  · rw [h1] at h; cases h
  · cases hq : A a with
    | none => rw [hq] at h2; cases h2
    | some o => rw [hq] at h; cases h
/-- it stands in each heap that has both -/
theorem plus_in {B A H H3 : Hp} (hB : Evl.Ex B H) (h1 : Evl.Ex B H3) (h2 : Since A H H3) : Evl.Ex (plus B A H) H3 := fun a o h => by
  unfold plus at h
  split at h
  · rename_i c
    rcases c with c | c
    · cases hq : B a with
      | none => rw [hq] at c; cases c
      | some o' =>
        have := hB _ _ hq
        rw [h] at this
        cases this
        exact h1 _ _ hq
    · refine h2 _ _ ?_ h
      cases hq : A a with
      | none => rfl
      | some o' => rw [hq] at c; cases c
  · cases h
theorem ex_less {A B : Hp} {x : Addr} {o : HO} (h : Evl.Ex A B) (hx : A x = none) : Evl.Ex A (upd B x o) := h.mut hx
section
variable {P : Program} {w : World} {K : PySem.W.Frag} {mg : Str → Option Value} {base : Heap}
set_option maxHeartbeats 2000000 in
theorem ok_webI {C f fA fT : Addr} {fd fdA fdT : FuncData} {k : Nat} (F : Fun K "__init__" "Web.__init__" sWebI f fd) (T : TWeb K mg C)
    (FA : Fun K "_are_turns" "_are_turns" sAreTurns fA fdA) (GA : FnOk P w K mg base CX0 k fA fdA ["turns"] (spAre K)) (bA : Binds K fdA ["turns"] []) (gA : mg "_are_turns" = some (.ref fA))
    (FT : Fun K "_ties_of" "_ties_of" sTies fT fdT) (GT : FnOk P w K mg base CX0 k fT fdT ["turns"] spTies) (bT : Binds K fdT ["turns"] []) (gT : mg "_ties_of" = some (.ref fT))
    (mtup : mg "tuple" = none) (mlen : mg "len" = none) :
    FnOk P w K mg base CX0 (k + 1) f fd ["self", "turns"] (spWebI C) := by
  refine F.ok scWebI (fun vs H Q E h => ?_) (fun cdv A outer s H vs Q E hr h => ?_)
  · obtain ⟨x, dx, l, ts, B, rfl, _⟩ := h
    rfl
  · obtain ⟨x, dx, l, ts, B, rfl, hx, b0, n0, hL, hT, q⟩ := h
    have nd := scWebI.nd
    refine ⟨_, pss_cons (ps_if (pt_not (pt_val (pe_call GA hr (by rfl) gA FA.kp bA .nil pass0 (pa_cons (pv 1) pa_nil)))) (pss_one (ps_never)) pss_nil)
      (pss_cons (ps_fld (pv 0) (pe_callTy call_tuple_of (by rfl) mtup (by decide +kernel) (pa_cons
          (pe_lc (own := [("turn", 2)]) (g := gName 2) (tt := tYes) (te := tCB (rTup K) (tCons (tVar 2) tNil)) rfl nd (pi_list (pv 1)) (blkOk_by (N := ["self", "turns", "turn"]) (sc := defScope sWebI) (by decide +kernel)) (fun _ _ _ _ _ => pg_name (i := 2) nd rfl (Or.inl rfl)) (fun _ _ _ _ _ => pts_nil)
            (fun _ _ _ _ _ => pe_callTy call_tuple_of (by rfl) mtup (by decide +kernel) (pa_cons (pv 2) pa_nil))) pa_nil)) rfl)
      (pss_cons (ps_fld (pv 0) (pe_callB call_len_seq (by rfl) mlen PySem.boot_len (pa_cons (pe_fld (pv 0) rfl) pa_nil)) rfl)
      (pss_one (ps_fld (pv 0) (pe_call GT hr (by rfl) gT FT.kp bT .nil pass0 (pa_cons (pe_fld (pv 0) rfl) pa_nil)) rfl)))), ?_⟩
    refine Evl.q_when (b := false) (Evl.et_is (Evl.et_not (Evl.et_B (Evl.ev_call (Evl.ea_cons (Evl.ev_var rfl) Evl.ea_nil) (spv_are (hL.ex b0) hT)))) rfl) (fun z => by cases z) fun _ H1 e1 => ?_
    obtain ⟨as, hl, ha, hrow⟩ := hL
    have hmap : (as.map V.ref).length = ts.length := by rw [List.length_map, ha]
    have p2 := hT.most
    have item : ∀ i, i < ts.length → ∃ a ns, as[i]? = some a ∧ ts[i]? = some ns ∧ B a = some (.lst (ns.map V.int)) := fun i hi => by
      obtain ⟨a, ns, h1, h2⟩ := both_at ha (show i < as.length by omega)
      exact ⟨a, ns, h1, h2, hrow i a ns h1 h2⟩
    -- self.turns
    refine q_fldN (b0.trans e1) (en_tuples (K := K) (i := 1) (j := 2) rfl (fun _ => rfl) (fun _ => rfl) ⟨as, hl, ha, hrow⟩ (by omega)) fun u H2 e2 hu => ?_
    obtain ⟨t, rfl, tt2⟩ := hu H2 ((b0.trans e1).trans e2) fun _ _ _ h => h
    have hx2 := e2 _ _ (e1 _ _ hx)
    refine ⟨_, rfl, x, C, dx, [], rfl, hx2, T.cl, T.nT, (by show 0 < 1000; decide), ?_⟩
    -- self.many
    have xt : x ≠ t := fun z => by
      obtain ⟨as2, h2, _⟩ := tt2
      rw [← z, hx2] at h2
      cases h2
    obtain ⟨as2, ht2, hl2, hr2⟩ := id tt2
    refine ⟨_, rfl, x, C, dx, _, .ref t, rfl, upd_same, T.cl, T.nT, (by rw [lookup_putF, if_pos rfl]), t, as2.map V.ref, rfl, .inr (Evl.st_of (by rw [upd_ne xt.symm]; exact ht2)), _, rfl, x, C, dx, _, rfl, upd_same, T.cl, T.nM, (by show 1 < 1000; decide), ?_⟩
    have hml : ((as2.map V.ref).length : Int) = (ts.length : Int) := by rw [List.length_map, hl2]
    rw [hml]
    -- self.ties
    have n2 : plus B H1 H2 x = none := plus_none n0 (by rw [e1 _ _ hx]; rfl)
    have b3 : Evl.Ex (plus B H1 H2) (upd (upd H2 x (.ins C dx (putF "turns" (.ref t) []))) x (.ins C dx (putF "many" (.int ts.length) (putF "turns" (.ref t) [])))) := (plus_le.mut n2).mut n2
    have tt2l : TT (plus B H1 H2) t ts := by
      obtain ⟨t', et, h⟩ := hu (plus B H1 H2) (plus_base ((b0.trans e1).trans e2)) plus_new
      cases et
      exact h
    refine ⟨_, rfl, x, C, dx, _, .ref t, rfl, upd_same, T.cl, T.nT, (by rw [lookup_putF, if_neg kTM, lookup_putF, if_pos rfl]), ?_⟩
    refine ⟨t, ts, plus B H1 H2, rfl, b3, tt2l, hT, fun v H4 e4 hv => ?_⟩
    obtain ⟨ti, rfl, ti4⟩ := hv H4 (b3.trans e4) fun _ _ _ h => h
    have hx4 := e4 _ _ upd_same
    refine ⟨_, rfl, x, C, dx, _, rfl, hx4, T.cl, T.nI, (by show 2 < 1000; decide), ?_⟩
    have lx := less_none H x
    have exA : Evl.Ex (less H x) H4 := (((((less_ex H x).trans e1).trans e2).mut lx).mut lx).trans e4
    refine q _ (exA.mut lx) fun H3 h3 s3 hx3 => ?_
    have at3 : ∀ a o, a ≠ x → H a = none → H4 a = some o → H3 a = some o := fun a o hne hn h4 => s3 a o hn (by rw [upd_ne hne]; exact h4)
    have fromH1 : ∀ a, H1 a = none → H a = none := fun a h => Evl.fresh_back e1 h
    have up24 : ∀ a o, a ≠ x → H2 a = some o → H4 a = some o := fun a o hne h => e4 _ _ (by rw [upd_ne hne, upd_ne hne]; exact h)
    refine ⟨dx, t, ti, by rw [hx3, upd_same] <;> rfl, ?_, ?_⟩
    · obtain ⟨t', et, h⟩ := hu H3 h3 fun a o hn h2 => at3 a o (fun z => by rw [z, e1 _ _ hx] at hn; cases hn) (fromH1 a hn) (up24 a o (fun z => by rw [z, e1 _ _ hx] at hn; cases hn) h2)
      cases et
      exact h
    · have hp1 : Evl.Ex (plus B H1 H2) H3 := plus_in ((b0.trans e1).trans e2) h3 fun a o hn h2 => at3 a o (fun z => by rw [z, e1 _ _ hx] at hn; cases hn) (fromH1 a hn) (up24 a o (fun z => by rw [z, e1 _ _ hx] at hn; cases hn) h2)
      obtain ⟨t', et, h⟩ := hv H3 hp1 fun a o hn h4 => by
        have hne : a ≠ x := fun z => by rw [z, upd_same] at hn; cases hn
        rw [upd_ne hne, upd_ne hne] at hn
        exact at3 a o hne (fromH1 a (Evl.fresh_back e2 hn)) h4
      cases et
      exact h
end
section
open Evl
variable {K : PySem.W.Frag} {σ : L2.St} {B : Hp}
/-- Web(turns) -/
theorem en_make {C : Addr} {ta : TE} {E : XK} {ts : List (List Int)} (h : EvN ta σ B (fun u H' => ∃ l, u = .ref l ∧ LL H' l ts)) (hT : OkT ts) : EvN (tMake C (spWebI C) [] E (tCons ta tNil)) σ B (fun u H' => ∃ x, u = .ref x ∧ WebAt C H' x ts) := fun H1 e Q q =>
  h H1 e _ fun v H2 e2 hv => by
    obtain ⟨l, rfl, hl⟩ := hv (plus B H1 H2) (plus_base (e.trans e2)) plus_new
    intro x dx nx ndx nex
    have px : plus B H1 H2 x = none := fresh_back plus_le nx
    have pd : plus B H1 H2 dx = none := fresh_back plus_le ndx
    have lx := less_none (upd (upd H2 dx (.own x)) x (.ins C dx [])) x
    refine ⟨x, dx, l, ts, plus B H1 H2, rfl, upd_same, (plus_le.mut pd).mut px, px, hl, hT, fun H' ex' hw => ⟨rfl, ?_⟩⟩
    have e2' : Ex H2 H' := fun a o h => ex' a o (less_of (by rw [upd_ne (ne_of_none h nx), upd_ne (ne_of_none h ndx)]; exact h) (ne_of_none h nx))
    have h1x : H1 x = none := fresh_back e2 nx
    obtain ⟨_, _, _, hx', _⟩ := hw H' ((plus_le).trans e2') (fun _ _ _ h => h) rfl
    refine q _ H' (e2.trans e2') fun H3 h3 s3 => ⟨x, rfl, hw H3 (plus_in (e.trans e2) h3 fun a o hn h2 => s3 a o hn (e2' _ _ h2)) (fun a o hn h2 => ?_) ?_⟩
    · refine s3 a o (fresh_back e2 ?_) h2
      by_cases ax : a = x
      · rw [ax]; exact nx
      · by_cases ad : a = dx
        · rw [ad]; exact ndx
        · rw [upd_ne ax, upd_ne ad] at hn
          exact hn
    · rw [hx', s3 _ _ h1x hx']
end
end Tl
end S_Yf
section S_Yg
namespace Tl
open PySem PySem.Spec PyProof.Rows L2
/-! ### data of tuples of tuples -/
def dT (ts : List (List Int)) : PyData := .tuple (ts.map fun ns => .tuple (ns.map PyData.int))
theorem dT_lay : ∀ ts : List (List Int), PyData.canLayAll0 (ts.map fun ns => .tuple (ns.map PyData.int)) = true
  | [] => rfl
  | ns :: r => by
    show (PyData.canLay0 (.tuple (ns.map PyData.int)) && PyData.canLayAll0 (r.map fun ns => .tuple (ns.map PyData.int))) = true
    rw [dT_lay r, Bool.and_true]
    exact PySem.W.ke_canLayAll0 ns
theorem dT_deep : ∀ ts : List (List Int), PyData.depthAll (ts.map fun ns => .tuple (ns.map PyData.int)) ≤ 1
  | [] => Nat.zero_le _
  | ns :: r => by
    show max (PyData.depth (.tuple (ns.map PyData.int))) (PyData.depthAll (r.map fun ns => .tuple (ns.map PyData.int))) ≤ 1
    have h1 : PyData.depth (.tuple (ns.map PyData.int)) = 1 := by
      show PyData.depthAll (ns.map PyData.int) + 1 = 1
      rw [PySem.W.ke_depthAll]
    have := dT_deep r
    omega
theorem dT_shaped (ts : List (List Int)) : SeqAt.shaped (dT ts) = true := by
  unfold SeqAt.shaped
  rw [Bool.and_eq_true_iff]
  refine ⟨dT_lay ts, decide_eq_true ?_⟩
  show PyData.depthAll (ts.map fun ns => .tuple (ns.map PyData.int)) + 1 ≤ 64
  have := dT_deep ts
  omega
theorem dT_same (ts : List (List Int)) : PyData.eqv (dT ts) (dT ts) = true := SeqAt.eqv_refl _ (SeqAt.canLay_of_shaped (dT_shaped ts))
theorem dpAll_of {K : PySem.W.Frag} {H : Hp} : ∀ {vs : List V} {ds : List PyData}, vs.length = ds.length → (∀ (i : Nat) (v : V) (d : PyData), vs[i]? = some v → ds[i]? = some d → Dp K H v d) → DpAll K H vs ds
  | [], [], _, _ => .nil
  | v :: vs, d :: ds, hl, h => .cons (h 0 v d rfl rfl) (dpAll_of (by simpa using hl) fun i v d h1 h2 => h (i + 1) v d (by simpa using h1) (by simpa using h2))
theorem TT.dp {K : PySem.W.Frag} {H : Hp} {t : Addr} {ts : List (List Int)} (h : TT H t ts) : Dp K H (.ref t) (dT ts) := by
  obtain ⟨as, h1, h2, h3⟩ := h
  refine .tup (Evl.st_of h1) (dpAll_of (by simp [h2]) fun i v d hv hd => ?_)
  rw [List.getElem?_map] at hv hd
  cases ha : as[i]? with
  | none => rw [ha] at hv; cases hv
  | some a =>
    cases hn : ts[i]? with
    | none => rw [hn] at hd; cases hd
    | some ns =>
      rw [ha] at hv
      rw [hn] at hd
      cases hv
      cases hd
      exact .tup (Evl.st_of (h3 i a ns ha hn)) (dp_ints (c := a) ns)
theorem scNumber : FnScope ["value", "least", "most", "part"] ["value", "least", "most", "part"] (defScope sNumber) := ⟨rfl, rfl, rfl, by decide +kernel, rfl, by decide +kernel, by decide +kernel⟩
theorem scWantWeb : FnScope ["web"] ["web"] (defScope sWantWeb) := ⟨rfl, rfl, rfl, by decide +kernel, rfl, by decide +kernel, by decide +kernel⟩
theorem scWebE : FnScope ["self", "other"] ["self", "other"] (defScope sWebE) := ⟨rfl, rfl, rfl, by decide +kernel, rfl, by decide +kernel, by decide +kernel⟩
def spNumber : Sp := fun vs H Q _ => ∃ (x lo hi : Int) (z : V), vs = [.int x, .int lo, .int hi, z] ∧ lo ≤ x ∧ x ≤ hi ∧ ∀ H', Evl.Ex H H' → Q .non H'
theorem spv_number {H : Hp} {x lo hi : Int} {z : V} (h1 : lo ≤ x) (h2 : x ≤ hi) : Evl.SpV spNumber [.int x, .int lo, .int hi, z] H .non := fun H1 e Q q E => ⟨x, lo, hi, z, rfl, h1, h2, q⟩
/-- what isinstance asks of the class -/
structure TIns (K : PySem.W.Frag) (C : Addr) : Prop where
  ha : PySem.W.findIn K (.ref C) "__class__" = some (some (.builtin "object.__class__"))
  hn : PySem.W.specialIn K (.builtin "object.__class__") "__get__" = some (some (.builtin "getset_descriptor.__get__"))
  ht : PySem.W.takesIn K (.builtin "object.__class__") = some true
  hm : PySem.W.mroIn K C (.type "object") = some true
  kit : PySem.W.kitOne K (.ref C) (.ref C) = some true
def spWantWeb (C : Addr) : Sp := fun vs H Q _ => ∃ (x : Addr) (ts : List (List Int)), vs = [.ref x] ∧ WebAt C H x ts ∧ ∀ H', Evl.Ex H H' → Q .non H'
theorem spv_wantWeb {C : Addr} {H : Hp} {x : Addr} {ts : List (List Int)} (h : WebAt C H x ts) : Evl.SpV (spWantWeb C) [.ref x] H .non := fun H1 e Q q E => ⟨x, ts, rfl, h.ex e, q⟩
theorem rc_web {K : PySem.W.Frag} {mg : Str → Option Value} {C : Addr} {H : Hp} {x : Addr} {ts : List (List Int)} (T : TWeb K mg C) (I : TIns K C) (h : WebAt C H x ts) : Evl.RC (rIsi K) [.ref x, .ref C] H (.bl true) := fun H1 e _ q => by
  obtain ⟨dx, t, ti, h1, _⟩ := h.ex e
  exact ⟨.ref x, .ref C, .ref C, .ref C, true, rfl, .own C, .base (.ins h1 T.cl I.ha I.hn I.ht I.hm), I.kit, q H1 (Evl.Ex.refl H1)⟩
section
open Evl
variable {K : PySem.W.Frag} {σ : L2.St} {H : Hp}
theorem ev_fld {ta : TE} {C x dx : Addr} {fs : List (Str × V)} {f : Str} {v : V} (h : Ev ta σ H (.ref x)) (hx : H x = some (.ins C dx fs)) (cl : Cls K C) (na : NoAttr K C f) (hl : fs.lookup f = some v) : Ev (tFld K ta f) σ H v := fun H1 e Q q =>
  h H1 e _ fun H2 e2 => ⟨x, C, dx, fs, v, rfl, e2 _ _ (e _ _ hx), cl, na, hl, q H2 e2⟩
end
section
variable {P : Program} {w : World} {K : PySem.W.Frag} {mg : Str → Option Value} {base : Heap}
theorem ok_number {f fW : Addr} {fd fdW : FuncData} {k : Nat} (F : Fun K "want_number" "want_number" sNumber f fd)
    (FW : Fun K "is_within" "is_within" sWithin fW fdW) (GW : FnOk P w K mg base CX0 k fW fdW ["value", "least", "most"] (spWithin K)) (bW : Binds K fdW ["value", "least", "most"] []) (gW : mg "is_within" = some (.ref fW)) :
    FnOk P w K mg base CX0 (k + 1) f fd ["value", "least", "most", "part"] spNumber := by
  refine F.ok scNumber (fun vs H Q E h => ?_) (fun cdv A outer s H vs Q E hr h => ?_)
  · obtain ⟨x, lo, hi, z, rfl, _⟩ := h
    rfl
  · obtain ⟨x, lo, hi, z, rfl, h1, h2, q⟩ := h
    refine ⟨_, pss_one (ps_if (pt_not (pt_val (pe_call GW hr (by rfl) gW FW.kp bW .nil pass0 (pa_cons (pv 0) (pa_cons (pv 1) (pa_cons (pv 2) pa_nil)))))) (pss_one (ps_never)) pss_nil), ?_⟩
    refine Evl.s_when (b := false) (Evl.et_is (Evl.et_not (Evl.et_B (Evl.ev_call (Evl.ea_cons (Evl.ev_var rfl) (Evl.ea_cons (Evl.ev_var rfl) (Evl.ea_cons (Evl.ev_var rfl) Evl.ea_nil))) (spv_within (.int x) True.intro True.intro)))) ?_) (fun z => by cases z) fun _ H1 e1 => q H1 e1
    show (!(decide (lo ≤ x) && decide (x ≤ hi))) = false
    rw [decide_eq_true h1, decide_eq_true h2]
    rfl
theorem ok_wantWeb {C f : Addr} {fd : FuncData} {k : Nat} (F : Fun K "want_web" "want_web" sWantWeb f fd) (T : TWeb K mg C) (I : TIns K C) (mi : mg "isinstance" = none) :
    FnOk P w K mg base CX0 (k + 1) f fd ["web"] (spWantWeb C) := by
  refine F.ok scWantWeb (fun vs H Q E h => ?_) (fun cdv A outer s H vs Q E hr h => ?_)
  · obtain ⟨x, ts, rfl, _⟩ := h
    rfl
  · obtain ⟨x, ts, rfl, h, q⟩ := h
    refine ⟨_, pss_one (ps_if (pt_not (pt_val (pe_callB call_isi (by rfl) mi (by decide +kernel) (pa_cons (pv 0) (pa_cons (pe_glob (v := .ref C) (by rfl) T.mgC rfl) pa_nil))))) (pss_one (ps_never)) pss_nil), ?_⟩
    exact Evl.s_when (b := false) (Evl.et_is (Evl.et_not (Evl.et_B (Evl.ev_cb (Evl.ea_cons (Evl.ev_var rfl) (Evl.ea_cons Evl.ev_c Evl.ea_nil)) (rc_web T I h)))) rfl) (fun z => by cases z) fun _ H1 e1 => q H1 e1
/-- two webs of the same turns -/
def SameWeb (C : Addr) (a b : Addr) (H : Hp) : Prop := ∃ ts, WebAt C H a ts ∧ WebAt C H b ts
theorem ok_webE {C f : Addr} {fd : FuncData} {k : Nat} (F : Fun K "__eq__" "Web.__eq__" sWebE f fd) (T : TWeb K mg C) (I : TIns K C) (mi : mg "isinstance" = none) :
    FnOk P w K mg base CX0 (k + 1) f fd ["self", "other"] (spEq (SameWeb C)) := by
  refine F.ok scWebE (fun vs H Q E h => ?_) (fun cdv A outer s H vs Q E hr h => ?_)
  · obtain ⟨a, b, rfl, _⟩ := h
    rfl
  · obtain ⟨a, b, rfl, ⟨ts, ha, hb⟩, q⟩ := h
    refine ⟨_, pss_one (ps_ret (pe_and (pe_callB call_isi (by rfl) mi (by decide +kernel) (pa_cons (pv 1) (pa_cons (pe_glob (v := .ref C) (by rfl) T.mgC rfl) pa_nil))) (pe_one (pe_cmpR (op_eqD hr.units) (pe_fld (pv 0) rfl) (pe_fld (pv 1) rfl) (nomark _))))), ?_⟩
    obtain ⟨da, ta, ia, a1, a2, a3⟩ := id ha
    obtain ⟨db, tb, ib, b1, b2, b3⟩ := id hb
    refine Evl.s_ret (v := .bl true) (Evl.ev_is (Evl.ev_andV (b := true) (Evl.ev_cb (Evl.ea_cons (Evl.ev_var rfl) (Evl.ea_cons Evl.ev_c Evl.ea_nil)) (rc_web T I hb)) fun _ => ?_) rfl) fun H1 e1 => q H1 e1
    refine Evl.ev_op (ev_fld (Evl.ev_var rfl) a1 T.cl T.nT (wf_t _ _ _)) (ev_fld (Evl.ev_var rfl) b1 T.cl T.nT (wf_t _ _ _)) fun H2 e2 Q q => ⟨dT ts, dT ts, (a2.ex e2).dp, (b2.ex e2).dp, dT_shaped ts, dT_shaped ts, ?_⟩
    rw [dT_same]
    exact q H2 (Evl.Ex.refl H2)
end
end Tl
end S_Yg
section S_Yh
namespace Tl
open PySem PySem.Spec PyProof.Rows L2
def ringG (n : Nat) (i : Nat) : List Int := [if i + 1 < n then (i : Int) + 2 else 1, if 0 < i then (i : Int) else n]
def ringT (n : Nat) : List (List Int) := (List.range n).map (ringG n)
def wheelG (m : Nat) : Nat → List Int
  | 0 => (List.range m).map fun j : Nat => (2 : Int) + j
  | i + 1 => [1, if 0 < i then (i : Int) + 1 else m + 1, if i + 1 < m then (i : Int) + 3 else 2]
def wheelT (m : Nat) : List (List Int) := (List.range (m + 1)).map (wheelG m)
def floorG (w t : Nat) (i : Nat) : List Int :=
  (if w < i + 1 then [(i : Int) + 1 - w] else []) ++ (if 0 < (i + 1) % w then [(i : Int) + 2] else []) ++ (if i + 1 ≤ w * (t - 1) then [(i : Int) + 1 + w] else []) ++ (if 0 < i % w then [(i : Int)] else [])
def floorT (w t : Nat) : List (List Int) := (List.range (w * t)).map (floorG w t)
theorem at_map {n : Nat} {g : Nat → List Int} {i : Nat} {ns : List Int} (h : ((List.range n).map g)[i]? = some ns) : i < n ∧ ns = g i := by
  rw [List.getElem?_map] at h
  by_cases hi : i < n
  · rw [List.getElem?_range hi] at h
    exact ⟨hi, (Option.some.inj h).symm⟩
  · rw [List.getElem?_eq_none (by rw [List.length_range]; omega)] at h
    cases h
theorem at_mk {n : Nat} {g : Nat → List Int} {i : Nat} (h : i < n) : ((List.range n).map g)[i]? = some (g i) := by
  rw [List.getElem?_map, List.getElem?_range h]
  rfl
theorem sum_le {g : Nat → List Int} {c : Nat} : ∀ n, (∀ i, i < n → (g i).length ≤ c) → (((List.range n).map g).map List.length).sum ≤ c * n
  | 0, _ => Nat.zero_le _
  | n + 1, h => by
    rw [List.range_succ, List.map_append, List.map_append, List.sum_append]
    have h1 := sum_le n fun i hi => h i (by omega)
    have h2 := h n (by omega)
    show _ + (((g n).length) + 0) ≤ _
    rw [Nat.mul_succ]
    omega
theorem okT_of {n : Nat} {g : Nat → List Int} (h0 : 1 ≤ n) (h1 : n ≤ 1000) (h2 : ∀ i, i < n → (g i).Nodup ∧ (∀ x ∈ g i, 1 ≤ x ∧ x ≤ (n : Int)) ∧ ((i : Int) + 1) ∉ g i) (h3 : ∀ i, i < n → ∀ o ∈ g i, ((i : Int) + 1) ∈ g (o - 1).toNat)
    (h4 : (((List.range n).map g).map List.length).sum ≤ 30000) : OkT ((List.range n).map g) := by
  have hl : ((List.range n).map g).length = n := by rw [List.length_map, List.length_range]
  refine ⟨by rw [hl]; exact h0, by rw [hl]; exact h1, fun i ns hi => ?_, fun i ns o hi ho => ?_, h4⟩
  · obtain ⟨hn, rfl⟩ := at_map hi
    rw [hl]
    exact h2 i hn
  · obtain ⟨hn, rfl⟩ := at_map hi
    have hb := (h2 i hn).2.1 o ho
    exact ⟨_, at_mk (by omega), h3 i hn o ho⟩
theorem ok_ringT {n : Nat} (h0 : 3 ≤ n) (h1 : n ≤ 1000) : OkT (ringT n) := by
  refine okT_of (by omega) h1 (fun i hi => ?_) (fun i hi o ho => ?_) (Nat.le_trans (sum_le (c := 2) n fun i _ => Nat.le_refl 2) (by omega))
  · unfold ringG
    refine ⟨?_, ?_, ?_⟩
    · rw [List.nodup_cons]
      refine ⟨?_, List.nodup_cons.mpr ⟨List.not_mem_nil, List.nodup_nil⟩⟩
      rw [List.mem_singleton]
      split <;> split <;> omega
    · intro x hx
      simp only [List.mem_cons, List.not_mem_nil, or_false] at hx
      rcases hx with rfl | rfl <;> split <;> omega
    · simp only [List.mem_cons, List.not_mem_nil, or_false, not_or]
      constructor <;> split <;> omega
  · unfold ringG at ho
    simp only [List.mem_cons, List.not_mem_nil, or_false] at ho
    unfold ringG
    simp only [List.mem_cons, List.not_mem_nil, or_false]
    rcases ho with rfl | rfl
    · split
      · right
        have e : ((i : Int) + 2 - 1).toNat = i + 1 := by omega
        rw [e, if_pos (by omega)]
        omega
      · right
        have e : ((1 : Int) - 1).toNat = 0 := rfl
        rw [e, if_neg (by omega)]
        omega
    · split
      · left
        have e : ((i : Int) - 1).toNat = i - 1 := by omega
        rw [e, if_pos (by omega)]
        omega
      · left
        have e : ((n : Int) - 1).toNat = n - 1 := by omega
        rw [e, if_neg (by omega)]
        omega
theorem mem_from {m : Nat} {x : Int} : x ∈ (List.range m).map (fun j : Nat => (2 : Int) + j) ↔ 2 ≤ x ∧ x < (m : Int) + 2 := by
  rw [List.mem_map]
  constructor
  · rintro ⟨j, hj, rfl⟩
    have := List.mem_range.mp hj
    omega
  · rintro ⟨h1, h2⟩
    exact ⟨(x - 2).toNat, List.mem_range.mpr (by omega), by omega⟩
theorem nodup_from (m : Nat) : ((List.range m).map (fun j : Nat => (2 : Int) + j)).Nodup := by
  refine List.pairwise_map.mpr (List.nodup_range.imp fun {a b} h => ?_)
  omega
theorem ok_wheelT {m : Nat} (h0 : 3 ≤ m) (h1 : m ≤ 999) : OkT (wheelT m) := by
  have hs : (((List.range (m + 1)).map (wheelG m)).map List.length).sum ≤ 30000 := by
    rw [List.range_succ_eq_map, List.map_cons, List.map_cons, List.sum_cons]
    have e : (wheelG m 0).length = m := by
      show ((List.range m).map _).length = m
      rw [List.length_map, List.length_range]
    rw [e, List.map_map (f := Nat.succ) (g := wheelG m)]
    have := sum_le (g := wheelG m ∘ Nat.succ) (c := 3) m fun i _ => Nat.le_refl 3
    omega
  refine okT_of (by omega) (by omega) (fun i hi => ?_) (fun i hi o ho => ?_) hs
  · cases i with
    | zero =>
      refine ⟨nodup_from m, fun x hx => ?_, fun hx => ?_⟩
      · have := mem_from.mp hx
        omega
      · have := mem_from.mp hx
        omega
    | succ i =>
      unfold wheelG
      refine ⟨?_, ?_, ?_⟩
      · rw [List.nodup_cons, List.nodup_cons]
        simp only [List.mem_cons, List.not_mem_nil, or_false, not_or]
        refine ⟨⟨?_, ?_⟩, ?_, List.nodup_cons.mpr ⟨List.not_mem_nil, List.nodup_nil⟩⟩
        · split <;> omega
        · split <;> omega
        · split <;> split <;> omega
      · intro x hx
        simp only [List.mem_cons, List.not_mem_nil, or_false] at hx
        rcases hx with rfl | rfl | rfl
        · omega
        · split <;> omega
        · split <;> omega
      · simp only [List.mem_cons, List.not_mem_nil, or_false, not_or]
        refine ⟨by omega, ?_, ?_⟩ <;> split <;> omega
  · cases i with
    | zero =>
      have := mem_from.mp ho
      have e : (o - 1).toNat = (o - 2).toNat + 1 := by omega
      rw [e]
      exact List.mem_cons_self
    | succ i =>
      unfold wheelG at ho
      simp only [List.mem_cons, List.not_mem_nil, or_false] at ho
      rcases ho with rfl | rfl | rfl
      · show _ ∈ wheelG m 0
        exact mem_from.mpr (by omega)
      · split
        · rename_i hp
          have e : ((i : Int) + 1 - 1).toNat = (i - 1) + 1 := by omega
          rw [e]
          unfold wheelG
          simp only [List.mem_cons, List.not_mem_nil, or_false]
          right; right
          rw [if_pos (by omega)]
          omega
        · have e : ((m : Int) + 1 - 1).toNat = (m - 1) + 1 := by omega
          rw [e]
          unfold wheelG
          simp only [List.mem_cons, List.not_mem_nil, or_false]
          right; right
          rw [if_neg (by omega)]
          omega
      · split
        · have e : ((i : Int) + 3 - 1).toNat = (i + 1) + 1 := by omega
          rw [e]
          unfold wheelG
          simp only [List.mem_cons, List.not_mem_nil, or_false]
          right; left
          rw [if_pos (by omega)]
          try omega
        · have e : ((2 : Int) - 1).toNat = 0 + 1 := rfl
          rw [e]
          unfold wheelG
          simp only [List.mem_cons, List.not_mem_nil, or_false]
          right; left
          rw [if_neg (by omega)]
          omega
theorem mem_floor {w t i : Nat} {x : Int} : x ∈ floorG w t i ↔ (w < i + 1 ∧ x = (i : Int) + 1 - w) ∨ (0 < (i + 1) % w ∧ x = (i : Int) + 2) ∨ (i + 1 ≤ w * (t - 1) ∧ x = (i : Int) + 1 + w) ∨ (0 < i % w ∧ x = (i : Int)) := by
  have one : ∀ {c : Prop} [Decidable c] {y : Int}, x ∈ (if c then [y] else []) ↔ c ∧ x = y := fun {c _ y} => by
    by_cases h : c
    · rw [if_pos h, List.mem_singleton]
      exact ⟨fun z => ⟨h, z⟩, fun z => z.2⟩
    · rw [if_neg h]
      exact ⟨fun z => (nomatch z), fun z => absurd z.1 h⟩
  unfold floorG
  rw [List.mem_append, List.mem_append, List.mem_append, one, one, one, one, or_assoc, or_assoc]
theorem ok_floorT {w t : Nat} (hw : 1 ≤ w) (ht : 1 ≤ t) (h1 : w * t ≤ 1000) : OkT (floorT w t) := by
  have hM : w * t = w * (t - 1) + w := by
    obtain ⟨t', rfl⟩ : ∃ t', t = t' + 1 := ⟨t - 1, by omega⟩
    rw [Nat.add_sub_cancel, Nat.mul_succ]
  have hpos : 1 ≤ w * t := by omega
  have big : ∀ i, i < w * t → 0 < (i + 1) % w → i + 2 ≤ w * t := fun i hi hp => by
    rcases Nat.lt_or_ge (i + 1) (w * t) with h | h
    · omega
    · have e : i + 1 = w * t := by omega
      rw [e, Nat.mul_mod_right] at hp
      cases hp
  have m1 : ∀ i, 0 < i % w → 2 ≤ w := fun i h => by
    rcases Nat.lt_or_ge w 2 with h2 | h2
    · have e : w = 1 := by omega
      rw [e, Nat.mod_one] at h
      cases h
    · exact h2
  have m0 : ∀ i, 0 < i % w → 1 ≤ i := fun i h => by
    cases i with
    | zero => rw [Nat.zero_mod] at h; cases h
    | succ i => omega
  refine okT_of hpos h1 (fun i hi => ⟨?_, fun x hx => ?_, fun hx => ?_⟩) (fun i hi o ho => ?_) (Nat.le_trans (sum_le (c := 4) (w * t) fun i _ => ?_) (by omega))
  · unfold floorG
    have one : ∀ {c : Prop} [Decidable c] {y : Int}, (if c then [y] else []).Nodup := fun {c _ y} => by
      split
      · exact List.nodup_cons.mpr ⟨List.not_mem_nil, List.nodup_nil⟩
      · exact List.nodup_nil
    have mem1 : ∀ {c : Prop} [Decidable c] {x y : Int}, x ∈ (if c then [y] else []) → c ∧ x = y := fun {c _ x y} h => by
      split at h
      · rename_i hc
        exact ⟨hc, List.mem_singleton.mp h⟩
      · cases h
    refine List.nodup_append.mpr ⟨List.nodup_append.mpr ⟨List.nodup_append.mpr ⟨one, one, fun a ha b hb => ?_⟩, one, fun a ha b hb => ?_⟩, one, fun a ha b hb => ?_⟩
    · have := mem1 ha; have := mem1 hb; omega
    · rcases List.mem_append.mp ha with ha | ha
      · have := mem1 ha; have := mem1 hb; omega
      · have a1 := mem1 ha; have := mem1 hb; have := m1 _ a1.1; omega
    · have b1 := mem1 hb
      have := m1 _ b1.1
      rcases List.mem_append.mp ha with ha | ha
      · rcases List.mem_append.mp ha with ha | ha
        · have := mem1 ha; omega
        · have := mem1 ha; omega
      · have := mem1 ha; omega
  · rcases mem_floor.mp hx with h | h | h | h
    · omega
    · have := big i hi h.1; omega
    · omega
    · have := m0 i h.1; omega
  · rcases mem_floor.mp hx with h | h | h | h <;> omega
  · rcases mem_floor.mp ho with h | h | h | h
    · obtain ⟨h1', rfl⟩ := h
      have e : ((i : Int) + 1 - w - 1).toNat = i - w := by omega
      rw [e, mem_floor]
      right; right; left
      omega
    · obtain ⟨h1', rfl⟩ := h
      have e : ((i : Int) + 2 - 1).toNat = i + 1 := by omega
      rw [e, mem_floor]
      right; right; right
      exact ⟨h1', by omega⟩
    · obtain ⟨h1', rfl⟩ := h
      have e : ((i : Int) + 1 + w - 1).toNat = i + w := by omega
      rw [e, mem_floor]
      left
      omega
    · obtain ⟨h1', rfl⟩ := h
      have := m0 i h1'
      have e : ((i : Int) - 1).toNat = i - 1 := by omega
      rw [e, mem_floor]
      right; left
      rw [show i - 1 + 1 = i by omega]
      exact ⟨h1', by omega⟩
  · unfold floorG
    rw [List.length_append, List.length_append, List.length_append]
    have one : ∀ {c : Prop} [Decidable c] {y : Int}, (if c then [y] else []).length ≤ 1 := fun {c _ y} => by split <;> simp
    have a := one (c := w < i + 1) (y := (i : Int) + 1 - w)
    have b := one (c := 0 < (i + 1) % w) (y := (i : Int) + 2)
    have c := one (c := i + 1 ≤ w * (t - 1)) (y := (i : Int) + 1 + w)
    have d := one (c := 0 < i % w) (y := (i : Int))
    omega
end Tl
end S_Yh
section S_Yi
namespace Tl
open PySem PySem.Spec PyProof.Rows L2
/-- no object at all -/
abbrev noH : Hp := fun _ => none
theorem noH_ex (H : Hp) : Evl.Ex noH H := fun a o h => by cases h
section
open Evl
variable {K : PySem.W.Frag} {σ : L2.St} {B : Hp}
theorem refs_of {xs : List V} (h : ∀ v ∈ xs, ∃ a, v = V.ref a) : ∃ bs : List Addr, xs = bs.map V.ref := by
  induction xs with
  | nil => exact ⟨[], rfl⟩
  | cons v r ih =>
    obtain ⟨a, rfl⟩ := h v List.mem_cons_self
    obtain ⟨bs, rfl⟩ := ih fun u hu => h u (List.mem_cons_of_mem _ hu)
    exact ⟨a :: bs, rfl⟩
theorem ll_of {xs : List V} {n : Nat} {g : Nat → List Int} {l : Addr} {H : Hp} (h : H l = some (.lst xs)) (hs : Holds (fun i v H' => ∃ a, v = V.ref a ∧ H' a = some (.lst ((g i).map V.int))) n xs H) : LL H l ((List.range n).map g) := by
  obtain ⟨h1, h2⟩ := hs
  obtain ⟨bs, rfl⟩ := refs_of (xs := xs) fun v hv => by
    obtain ⟨i, hi, rfl⟩ := List.mem_iff_getElem.mp hv
    obtain ⟨a, e, _⟩ := h2 i _ (List.getElem?_eq_getElem hi)
    exact ⟨a, e⟩
  rw [List.length_map] at h1
  refine ⟨bs, h, by rw [List.length_map, List.length_range, h1], fun i a ns ha hn => ?_⟩
  obtain ⟨b, e, hb⟩ := h2 i (.ref a) (by rw [List.getElem?_map, ha]; rfl)
  cases e
  obtain ⟨_, rfl⟩ := at_map hn
  exact hb
theorem en_LL {ta : TE} {n : Nat} {g : Nat → List Int} (h : EvNL ta σ B (Holds (fun i v H' => ∃ a, v = V.ref a ∧ H' a = some (.lst ((g i).map V.int))) n)) : EvN ta σ B (fun u H' => ∃ l, u = .ref l ∧ LL H' l ((List.range n).map g)) := fun H1 e Q q =>
  h H1 e Q fun p xs H2 hp e2 h2 hL => q _ H2 e2 fun H3 h3 s3 => ⟨p, rfl, ll_of (s3 _ _ hp h2) (hL H3 h3 fun a o _ ha hb => s3 a o ha hb)⟩
end
theorem ei_rng2c {σ : L2.St} {H : Hp} {ta : TA} {i j : Int} {n : Nat} (hn : (j - i).toNat = n) (h : Evl.EvA ta σ H [.int i, .int j]) (h0 : -100000 ≤ i ∧ i ≤ 100000) (h1 : -100000 ≤ j ∧ j ≤ 100000) : EvI (iRng2 ta) σ H n (YFn fun k => .int (i + k)) := by
  subst hn
  exact ei_rng2 h h0 h1
theorem ei_rng1c {σ : L2.St} {H : Hp} {ta : TA} {j : Int} {n : Nat} (hn : j.toNat = n) (h : Evl.EvA ta σ H [.int j]) (h0 : 0 ≤ j) (h1 : j ≤ 100000) : EvI (iRng1 ta) σ H n (YFn fun k => .int (0 + k)) := by
  subst hn
  exact ei_rng1 h h0 h1
/-- what is made now, whatever stood before -/
abbrev Pure1 (H : Hp) (Q : VK) (R : V → Hp → Prop) : Prop := ∀ v H', Evl.Ex H H' → (∀ H3, Since H H' H3 → R v H3) → Q v H'
theorem fmod_nat (a b : Nat) : Int.fmod (a : Int) (b : Int) = ((a % b : Nat) : Int) := by
  rw [Int.fmod_eq_emod_of_nonneg _ (by omega)]
  rfl
theorem fmod_neg {b : Nat} (h : 2 ≤ b) : Int.fmod (-1) (b : Int) = (b : Int) - 1 := by
  rw [Int.fmod_eq_emod_of_nonneg _ (by omega), ← Int.add_emod_right]
  exact Int.emod_eq_of_lt (by omega) (by omega)
theorem ring_a {n i : Nat} (h : i < n) : Int.fmod (1 + (i : Int)) n + 1 = if i + 1 < n then (i : Int) + 2 else 1 := by
  have e : (1 : Int) + i = ((i + 1 : Nat) : Int) := by omega
  rw [e, fmod_nat]
  split
  · rw [Nat.mod_eq_of_lt (by omega)]
    omega
  · rw [show i + 1 = n by omega, Nat.mod_self]
    rfl
theorem ring_b {n i : Nat} (h : i < n) (hn : 3 ≤ n) : Int.fmod (1 + (i : Int) - 2) n + 1 = if 0 < i then (i : Int) else n := by
  split
  · have e : (1 : Int) + i - 2 = ((i - 1 : Nat) : Int) := by omega
    rw [e, fmod_nat, Nat.mod_eq_of_lt (by omega)]
    omega
  · have e : (1 : Int) + i - 2 = -1 := by omega
    rw [e, fmod_neg (by omega)]
    omega
theorem scRing : FnScope ["many", "at"] ["many"] (defScope sRing) := ⟨rfl, rfl, rfl, by decide +kernel, rfl, by decide +kernel, by decide +kernel⟩
def spRing (C : Addr) : Sp := fun vs H Q _ => ∃ n : Nat, vs = [.int n] ∧ 3 ≤ n ∧ n ≤ 1000 ∧ Pure1 H Q fun v H3 => ∃ x, v = .ref x ∧ WebAt C H3 x (ringT n)
section
variable {P : Program} {w : World} {K : PySem.W.Frag} {mg : Str → Option Value} {base : Heap}
theorem ok_ring {C f fN fI : Addr} {fd fdN fdI : FuncData} {k : Nat} (F : Fun K "ring" "ring" sRing f fd) (T : TWeb K mg C)
    (FN : Fun K "want_number" "want_number" sNumber fN fdN) (GN : FnOk P w K mg base CX0 (k + 1) fN fdN ["value", "least", "most", "part"] spNumber) (bN : Binds K fdN ["value", "least", "most", "part"] []) (gN : mg "want_number" = some (.ref fN))
    (M : Mk K C fI) (GI : FnOk P w K mg base CX0 k fI fdI ["self", "turns"] (spWebI C)) (bI : Binds K fdI ["self", "turns"] [])
    {tM : Tok} (gM : mg "MOST_PLACES" = some (.int 1000 tM)) (mrange : mg "range" = none) :
    FnOk P w K mg base CX0 (k + 2) f fd ["many"] (spRing C) := by
  refine F.ok scRing (fun vs H Q E h => ?_) (fun cdv A outer s H vs Q E hr h => ?_)
  · obtain ⟨n, rfl, _⟩ := h
    rfl
  · obtain ⟨n, rfl, h3, h1, q⟩ := h
    have nd := scRing.nd
    refine ⟨_, pss_cons (ps_expr (pe_call GN hr (by rfl) gN FN.kp bN .nil pass0 (pa_cons (pv 0) (pa_cons pe_int (pa_cons (pe_glob (v := .int 1000) (by rfl) gM ⟨_, rfl⟩) (pa_cons pe_str pa_nil))))))
      (pss_one (ps_ret (pe_make M GI hr (by rfl) T.mgC bI .nil pass0 (pa_cons
        (pe_lc (own := [("at", 1)]) (g := gName 1) (tt := tYes) rfl nd (pi_range2 (by rfl) mrange (pa_cons pe_int (pa_cons (pe_op op_add (pv 0) pe_int) pa_nil))) (blkOk_by (N := ["many", "at"]) (sc := defScope sRing) (by decide +kernel)) (fun _ _ _ _ _ => pg_name (i := 1) nd rfl (Or.inl rfl)) (fun _ _ _ _ _ => pts_nil)
          (fun _ _ _ _ _ => pe_lst (pa_cons (pe_op op_add (pe_op op_modN (pv 1) (pv 0)) pe_int) (pa_cons (pe_op op_add (pe_op op_modN (pe_op op_sub (pv 1) pe_int) (pv 0)) pe_int) pa_nil)))) pa_nil)))), ?_⟩
    refine Evl.q_drop (Evl.ev_call (Evl.ea_cons (Evl.ev_var rfl) (Evl.ea_cons Evl.ev_c (Evl.ea_cons Evl.ev_c (Evl.ea_cons Evl.ev_c Evl.ea_nil)))) (spv_number (by omega) (by omega))) fun H1 e1 => ?_
    refine s_retB (noH_ex _) (en_make (ts := ringT n) (en_LL ?_) (ok_ringT h3 h1)) fun v H2 e2 hv => q v H2 (e1.trans e2) fun H3 s3 => hv H3 (noH_ex _) fun a o ha hb => s3 a o (Evl.fresh_back e1 ha) hb
    refine en_lc (ei_rng2c (i := 1) (j := (n : Int) + 1) (n := n) (by omega) (Evl.ea_cons Evl.ev_c (Evl.ea_cons (Evl.ev_op (Evl.ev_var rfl) Evl.ev_c Evl.rv_I0) Evl.ea_nil)) (by omega) (by omega)) aims_fn (fun _ => rfl) (by omega) _ fun i hi => en_l (xs := (ringG n i).map V.int) (Evl.el_lst (Evl.ea_cons (Evl.ev_is (Evl.ev_op (Evl.ev_op (Evl.ev_var rfl) (Evl.ev_var rfl) (Evl.rv_I (by omega))) Evl.ev_c Evl.rv_I0) ?_) (Evl.ea_cons (Evl.ev_is (Evl.ev_op (Evl.ev_op (Evl.ev_op (Evl.ev_var rfl) Evl.ev_c Evl.rv_I0) (Evl.ev_var rfl) (Evl.rv_I (by omega))) Evl.ev_c Evl.rv_I0) ?_) Evl.ea_nil)) (by show 2 ≤ 100000; omega))
    · rw [ring_a hi]
    · rw [ring_b hi h3]
end
section
open Evl
variable {K : PySem.W.Frag} {σ : L2.St} {B : Hp}
theorem rowsL_app {H : Hp} {as bs : List Addr} {ts us : List (List Int)} (h1 : RowsL H as ts) (h2 : RowsL H bs us) : RowsL H (as ++ bs) (ts ++ us) := by
  refine ⟨by rw [List.length_append, List.length_append, h1.1, h2.1], fun i a ns ha hn => ?_⟩
  rcases Nat.lt_or_ge i as.length with hi | hi
  · rw [List.getElem?_append_left hi] at ha
    rw [List.getElem?_append_left (by rw [← h1.1]; exact hi)] at hn
    exact h1.2 i a ns ha hn
  · rw [List.getElem?_append_right hi] at ha
    rw [List.getElem?_append_right (by rw [← h1.1]; exact hi), ← h1.1] at hn
    exact h2.2 _ a ns ha hn
theorem en_cat {ta tb : TE} {ts us : List (List Int)} (h1 : EvN ta σ B (fun u H' => ∃ l, u = .ref l ∧ LL H' l ts)) (h2 : EvN tb σ B (fun u H' => ∃ l, u = .ref l ∧ LL H' l us)) (hz : ts.length + us.length ≤ 90000) :
    EvN (tOp rCat ta tb) σ B (fun u H' => ∃ l, u = .ref l ∧ LL H' l (ts ++ us)) := fun H1 e Q q =>
  h1 H1 e _ fun v H2 e2 hv => h2 H2 (e.trans e2) _ fun v2 H3 e3 hv2 => by
    have exB : Ex B (plus B H1 H3) := plus_base ((e.trans e2).trans e3)
    obtain ⟨l, rfl, as, a1, a2⟩ := hv (plus B H1 H3) exB fun a o hn h => plus_new a o hn (e3 _ _ h)
    obtain ⟨m, rfl, bs, b1, b2⟩ := hv2 (plus B H1 H3) exB fun a o hn h => plus_new a o (fresh_back e2 hn) h
    have r := rowsL_app a2 b2
    refine ⟨l, m, _, _, rfl, rfl, plus_le _ _ a1, plus_le _ _ b1, sz_of (by rw [List.length_map, List.length_map, a2.1, b2.1]; omega), fun p hp => q _ _ ((e2.trans e3).trans (Ex.new hp)) fun H4 h4 s4 => ?_⟩
    have n1 : H1 p = none := fresh_back (e2.trans e3) hp
    refine ⟨p, rfl, as ++ bs, ?_, r.ex (plus_in ((e.trans e2).trans e3) h4 fun a o hn h => s4 a o hn ?_)⟩
    · rw [List.map_append]
      exact s4 _ _ n1 upd_same
    · rw [upd_ne (ne_of_none h hp)]
      exact h
theorem en_lst1 {ti : TE} {ns : List Int} (h : EvL ti σ B (ns.map V.int)) : EvN (tLst (tCons ti tNil)) σ B (fun u H' => ∃ l, u = .ref l ∧ LL H' l [ns]) := fun H1 e Q q =>
  h H1 e _ fun p H2 hp e2 h2 => ⟨by show 1 ≤ sizeLine; decide, fun l hl => q _ _ (e2.trans (Ex.new hl)) fun H3 _ s3 => ⟨l, rfl, [p], s3 _ _ (fresh_back e2 hl) upd_same, rfl, fun i a ms ha hn => by
    cases i with
    | zero =>
      cases ha
      cases hn
      refine s3 _ _ hp ?_
      rw [upd_ne (ne_of_none h2 hl)]
      exact h2
    | succ i => simp at ha⟩⟩
theorem el_rg {ta tb : TE} {a b : Int} (ha : Ev ta σ B (.int a)) (hb : Ev tb σ B (.int b)) (h : RgOk a b) : EvL (tLstRg (tRg2 ta tb)) σ B (rgV a b) := fun H1 e Q q =>
  ha H1 e _ fun H2 e2 => hb H2 (e.trans e2) _ fun H3 e3 => ⟨a, b, rfl, rfl, h, fun p hp => q p _ (fresh_back (e2.trans e3) hp) ((e2.trans e3).trans (Ex.new hp)) upd_same⟩
theorem en_LLv {i : Nat} {l : Addr} {ts : List (List Int)} (hs : σ[i]? = some (some (.ref l))) (h : LL B l ts) : EvN (tVar i) σ B (fun u H' => ∃ l, u = .ref l ∧ LL H' l ts) := fun H1 e Q q => ⟨.ref l, hs, q _ H1 (Ex.refl H1) fun H3 h3 _ => ⟨l, rfl, h.ex h3⟩⟩
end
theorem wheelT_eq (m : Nat) : wheelT m = [wheelG m 0] ++ (List.range m).map (fun i => wheelG m (i + 1)) := by
  unfold wheelT
  rw [List.range_succ_eq_map, List.map_cons, List.map_map]
  rfl
theorem rg_wheel (m : Nat) : rgV 2 ((m : Int) + 2) = (wheelG m 0).map V.int := by
  unfold rgV wheelG
  rw [show ((m : Int) + 2 - 2).toNat = m by omega, List.map_map]
  rfl
theorem wheel_a {m i : Nat} (h : i < m) (hm : 3 ≤ m) : Int.fmod (0 + (i : Int) - 1) m + 2 = if 0 < i then (i : Int) + 1 else m + 1 := by
  split
  · have e : (0 : Int) + i - 1 = ((i - 1 : Nat) : Int) := by omega
    rw [e, fmod_nat, Nat.mod_eq_of_lt (by omega)]
    omega
  · have e : (0 : Int) + i - 1 = -1 := by omega
    rw [e, fmod_neg (by omega)]
    omega
theorem wheel_b {m i : Nat} (h : i < m) : Int.fmod (0 + (i : Int) + 1) m + 2 = if i + 1 < m then (i : Int) + 3 else 2 := by
  have e : (0 : Int) + i + 1 = ((i + 1 : Nat) : Int) := by omega
  rw [e, fmod_nat]
  split
  · rw [Nat.mod_eq_of_lt (by omega)]
    omega
  · rw [show i + 1 = m by omega, Nat.mod_self]
    rfl
theorem scWheel : FnScope ["many", "rim", "at"] ["many"] (defScope sWheel) := ⟨rfl, rfl, rfl, by decide +kernel, rfl, by decide +kernel, by decide +kernel⟩
def spWheel (C : Addr) : Sp := fun vs H Q _ => ∃ n : Nat, vs = [.int n] ∧ 3 ≤ n ∧ n ≤ 999 ∧ Pure1 H Q fun v H3 => ∃ x, v = .ref x ∧ WebAt C H3 x (wheelT n)
section
variable {P : Program} {w : World} {K : PySem.W.Frag} {mg : Str → Option Value} {base : Heap}
theorem ok_wheel {C f fN fI : Addr} {fd fdN fdI : FuncData} {k : Nat} (F : Fun K "wheel" "wheel" sWheel f fd) (T : TWeb K mg C)
    (FN : Fun K "want_number" "want_number" sNumber fN fdN) (GN : FnOk P w K mg base CX0 (k + 1) fN fdN ["value", "least", "most", "part"] spNumber) (bN : Binds K fdN ["value", "least", "most", "part"] []) (gN : mg "want_number" = some (.ref fN))
    (M : Mk K C fI) (GI : FnOk P w K mg base CX0 k fI fdI ["self", "turns"] (spWebI C)) (bI : Binds K fdI ["self", "turns"] [])
    {tM : Tok} (gM : mg "MOST_PLACES" = some (.int 1000 tM)) (mrange : mg "range" = none) (mlist : mg "list" = none) :
    FnOk P w K mg base CX0 (k + 2) f fd ["many"] (spWheel C) := by
  refine F.ok scWheel (fun vs H Q E h => ?_) (fun cdv A outer s H vs Q E hr h => ?_)
  · obtain ⟨n, rfl, _⟩ := h
    rfl
  · obtain ⟨n, rfl, h3, h1, q⟩ := h
    have nd := scWheel.nd
    refine ⟨_, pss_cons (ps_expr (pe_call GN hr (by rfl) gN FN.kp bN .nil pass0 (pa_cons (pv 0) (pa_cons pe_int (pa_cons (pe_op op_sub (pe_glob (v := .int 1000) (by rfl) gM ⟨_, rfl⟩) pe_int) (pa_cons pe_str pa_nil))))))
      (pss_cons (ps_setLc (i := 1) (own := [("at", 2)]) (g := gName 2) (tt := tYes) rfl nd rfl rfl (sw_true rfl rfl rfl (by decide +kernel)) (pi_range1 (by rfl) mrange (pa_cons (pv 0) pa_nil)) (blkOk_by (N := ["many", "rim", "at"]) (sc := defScope sWheel) (by decide +kernel)) (fun _ _ _ _ _ => pg_name (i := 2) nd rfl (Or.inl rfl)) (fun _ _ _ _ _ => pts_nil)
          (fun _ _ _ _ _ => pe_lst (pa_cons pe_int (pa_cons (pe_op op_add (pe_op op_modN (pe_op op_sub (pv 2) pe_int) (pv 0)) pe_int) (pa_cons (pe_op op_add (pe_op op_modN (pe_op op_add (pv 2) pe_int) (pv 0)) pe_int) pa_nil)))))
      (pss_one (ps_ret (pe_make M GI hr (by rfl) T.mgC bI .nil pass0 (pa_cons (pe_op op_cat (pe_lst (pa_cons (pe_listRg rfl (by rfl) mlist (prg_2 (by rfl) mrange pe_int (pe_op op_add (pv 0) pe_int))) pa_nil)) (pv 1)) pa_nil))))), ?_⟩
    refine Evl.q_drop (Evl.ev_call (Evl.ea_cons (Evl.ev_var rfl) (Evl.ea_cons Evl.ev_c (Evl.ea_cons (Evl.ev_op Evl.ev_c Evl.ev_c Evl.rv_I0) (Evl.ea_cons Evl.ev_c Evl.ea_nil)))) (spv_number (by omega) (by omega))) fun H1 e1 => ?_
    refine q_asgN (B := noH) (R := fun u H' => ∃ l, u = .ref l ∧ LL H' l ((List.range n).map fun i => wheelG n (i + 1))) (noH_ex _) (en_LL ?_) fun u H2 e2 hu => ?_
    · refine en_lc (ei_rng1c (j := (n : Int)) (n := n) (by omega) (Evl.ea_cons (Evl.ev_var rfl) Evl.ea_nil) (by omega) (by omega)) aims_fn (fun _ => rfl) (by omega) _ fun i hi => en_l (xs := (wheelG n (i + 1)).map V.int) (Evl.el_lst (Evl.ea_cons Evl.ev_c (Evl.ea_cons (Evl.ev_is (Evl.ev_op (Evl.ev_op (Evl.ev_op (Evl.ev_var rfl) Evl.ev_c Evl.rv_I0) (Evl.ev_var rfl) (Evl.rv_I (by omega))) Evl.ev_c Evl.rv_I0) ?_) (Evl.ea_cons (Evl.ev_is (Evl.ev_op (Evl.ev_op (Evl.ev_op (Evl.ev_var rfl) Evl.ev_c Evl.rv_I0) (Evl.ev_var rfl) (Evl.rv_I (by omega))) Evl.ev_c Evl.rv_I0) ?_) Evl.ea_nil))) (by show 3 ≤ 100000; omega))
      · rw [wheel_a hi h3]
      · rw [wheel_b hi]
    · obtain ⟨l, rfl, hl⟩ := hu (plus noH H1 H2) (noH_ex _) plus_new
      refine s_retB (B := plus noH H1 H2) plus_le (en_make (ts := wheelT n) ?_ (ok_wheelT h3 h1)) fun v H4 e4 hv => q v H4 ((e1.trans e2).trans e4) fun H5 s5 => hv H5 (plus_in (noH_ex _) (noH_ex _) fun a o hn h => s5 a o (Evl.fresh_back e1 hn) (e4 _ _ h)) fun a o ha hb => s5 a o (Evl.fresh_back (e1.trans e2) ha) hb
      rw [wheelT_eq]
      refine en_cat (en_lst1 ?_) (en_LLv rfl hl) (by rw [List.length_map, List.length_range]; show 1 + n ≤ _; omega)
      rw [← rg_wheel]
      exact el_rg Evl.ev_c (Evl.ev_op (Evl.ev_var rfl) Evl.ev_c Evl.rv_I0) (RgOk.of_le (by omega) (by omega) (by omega) (by omega))
end
end Tl
end S_Yi
section S_Yj
namespace Tl
open PySem PySem.Spec PyProof.Rows L2
theorem scFloorT : FnScope ["wide", "tall", "place", "turn"] ["wide", "tall", "place"] (defScope sFloorT) := ⟨rfl, rfl, rfl, by decide +kernel, rfl, by decide +kernel, by decide +kernel⟩
theorem scFloor : FnScope ["wide", "tall", "place"] ["wide", "tall"] (defScope sFloor) := ⟨rfl, rfl, rfl, by decide +kernel, rfl, by decide +kernel, by decide +kernel⟩
def spFloorT : Sp := fun vs H Q _ => ∃ w t i : Nat, vs = [.int w, .int t, .int (1 + (i : Int))] ∧ 1 ≤ w ∧ w ≤ 1000 ∧ 1 ≤ t ∧ t ≤ 1000 ∧ i < w * t ∧ Pure1 H Q fun v H3 => ∃ a, v = V.ref a ∧ H3 a = some (.lst ((floorG w t i).map V.int))
def spFloor (C : Addr) : Sp := fun vs H Q _ => ∃ w t : Nat, vs = [.int w, .int t] ∧ 1 ≤ w ∧ 1 ≤ t ∧ w * t ≤ 1000 ∧ Pure1 H Q fun v H3 => ∃ x, v = .ref x ∧ WebAt C H3 x (floorT w t)
theorem mul_pred {w t : Nat} (h : 1 ≤ t) : (w : Int) * ((t : Int) - 1) = ((w * (t - 1) : Nat) : Int) := by
  rw [Int.natCast_mul]
  congr 1
  omega
/-- if c: xs.append(e) -/
theorem s_ifApp {K : PySem.W.Frag} {t : L2.TT} {te : TE} {σ : L2.St} {H H' : Hp} {D : Ends} {j : Nat} {L : Addr} {c : Prop} [Decidable c] {xs : List Int} {y : Int} (hj : σ[j]? = some (some (.ref L))) (hn : H L = none) (e : Evl.Ex H H') (hL : H' L = some (.lst (xs.map V.int))) (hz : xs.length < 90000)
    (ht : Evl.EvT t σ H' (decide c)) (he : Evl.Ev te σ H' (.int y)) (k : ∀ H2, Evl.Ex H H2 → H2 L = some (.lst ((xs ++ (if c then [y] else [])).map V.int)) → D.nx σ H2) : tIfS t (tDrop (tBM K "list" rAppend (tVar j) (tCons te tNil))) tNext D σ H' := by
  refine Evl.s_when (b := decide c) ht (fun hb H1 e1 => ?_) fun hb H1 e1 => ?_
  · refine Evl.s_app (e1 _ _ hL) (Evl.ev_var hj) (he.mono e1) (by rw [List.length_map]; omega) fun H2 e2 => k _ (((e.trans e1).trans e2).mut hn) ?_
    rw [upd_same, if_pos (of_decide_eq_true hb), List.map_append]
    rfl
  · refine k H1 (e.trans e1) ?_
    rw [if_neg (of_decide_eq_false hb), List.append_nil]
    exact e1 _ _ hL
section
variable {P : Program} {w : World} {K : PySem.W.Frag} {mg : Str → Option Value} {base : Heap}
theorem ok_floorT' {f : Addr} {fd : FuncData} {k : Nat} (F : Fun K "_floor_turn" "_floor_turn" sFloorT f fd) : FnOk P w K mg base CX0 (k + 1) f fd ["wide", "tall", "place"] spFloorT := by
  refine F.ok scFloorT (fun vs H Q E h => ?_) (fun cdv A outer s H vs Q E hr h => ?_)
  · obtain ⟨w, t, i, rfl, _⟩ := h
    rfl
  · obtain ⟨w, t, i, rfl, w0, w1, t0, t1, hi, q⟩ := h
    have nd := scFloorT.nd
    refine ⟨_, pss_cons (ps_set (i := 3) nd rfl (.inl rfl) (pe_lst pa_nil))
      (Evl.pss_cut (ps_if (pt_cmpR op_gt (pv 2) (pv 0) (nomark _)) (pss_one (ps_expr (pe_bm PySem.F.plainAttrs_list PySem.F.slot_list_append PySem.F.type_list_append mt_append (pv 3) (pa_cons (pe_op op_sub (pv 2) (pv 0)) pa_nil)))) pss_nil)
      (Evl.pss_cut (ps_if (pt_cmpR op_gt (pe_op op_modN (pv 2) (pv 0)) pe_int (nomark _)) (pss_one (ps_expr (pe_bm PySem.F.plainAttrs_list PySem.F.slot_list_append PySem.F.type_list_append mt_append (pv 3) (pa_cons (pe_op op_add (pv 2) pe_int) pa_nil)))) pss_nil)
      (Evl.pss_cut (ps_if (pt_cmpR op_le (pv 2) (pe_op op_mul (pv 0) (pe_op op_sub (pv 1) pe_int)) (nomark _)) (pss_one (ps_expr (pe_bm PySem.F.plainAttrs_list PySem.F.slot_list_append PySem.F.type_list_append mt_append (pv 3) (pa_cons (pe_op op_add (pv 2) (pv 0)) pa_nil)))) pss_nil)
      (Evl.pss_cut (ps_if (pt_cmpR op_gt (pe_op op_modN (pe_op op_sub (pv 2) pe_int) (pv 0)) pe_int (nomark _)) (pss_one (ps_expr (pe_bm PySem.F.plainAttrs_list PySem.F.slot_list_append PySem.F.type_list_append mt_append (pv 3) (pa_cons (pe_op op_sub (pv 2) pe_int) pa_nil)))) pss_nil)
      (pss_one (ps_ret (pv 3))))))), ?_⟩
    refine Evl.q_asgL (xs := []) (Evl.el_lst Evl.ea_nil (Nat.zero_le _)) fun L H1 hn e1 h1 => ?_
    let S : List Int → L2.St → Hp → Prop := fun xs σ' H' => σ' = [some (.int (w : Int)), some (.int (t : Int)), some (.int (1 + (i : Int))), some (.ref L)] ∧ Evl.Ex H H' ∧ H' L = some (.lst (xs.map V.int))
    have i1 : (1 : Int) + i = ((i + 1 : Nat) : Int) := by omega
    refine Evl.q_cut (M := S ([] ++ (if w < i + 1 then [(i : Int) + 1 - w] else []))) (s_ifApp rfl hn e1 (xs := []) h1 (by decide) (Evl.et_is (Evl.et_test (Evl.ev_op (Evl.ev_var rfl) (Evl.ev_var rfl) Evl.rv_I0)) (decide_eq_decide.mpr (by omega))) (Evl.ev_is (Evl.ev_op (Evl.ev_var rfl) (Evl.ev_var rfl) Evl.rv_I0) (by rw [show (1 : Int) + i = i + 1 by omega])) fun H2 e2 h2 => ⟨rfl, e2, h2⟩) fun σ2 H2 hM => ?_
    obtain ⟨rfl, e2, h2⟩ := hM
    have one : ∀ {c : Prop} [Decidable c] {y : Int}, (if c then [y] else []).length ≤ 1 := fun {c _ y} => by split <;> simp
    have L1 := one (c := w < i + 1) (y := (i : Int) + 1 - w)
    have L2' := one (c := 0 < (i + 1) % w) (y := (i : Int) + 2)
    have L3 := one (c := i + 1 ≤ w * (t - 1)) (y := (i : Int) + 1 + w)
    refine Evl.q_cut (M := S (([] ++ (if w < i + 1 then [(i : Int) + 1 - w] else [])) ++ (if 0 < (i + 1) % w then [(i : Int) + 2] else []))) (s_ifApp rfl hn e2 h2 (by rw [List.nil_append]; omega) (Evl.et_is (Evl.et_test (Evl.ev_op (Evl.ev_op (Evl.ev_var rfl) (Evl.ev_var rfl) (Evl.rv_I (by omega))) Evl.ev_c Evl.rv_I0)) (decide_eq_decide.mpr ?_)) (Evl.ev_is (Evl.ev_op (Evl.ev_var rfl) Evl.ev_c Evl.rv_I0) (by rw [show (1 : Int) + i + 1 = i + 2 by omega])) fun H3 e3 h3 => ⟨rfl, e3, h3⟩) fun σ3 H3 hM => ?_
    · rw [i1, fmod_nat]
      omega
    obtain ⟨rfl, e3, h3⟩ := hM
    refine Evl.q_cut (M := S ((([] ++ (if w < i + 1 then [(i : Int) + 1 - w] else [])) ++ (if 0 < (i + 1) % w then [(i : Int) + 2] else [])) ++ (if i + 1 ≤ w * (t - 1) then [(i : Int) + 1 + w] else []))) (s_ifApp rfl hn e3 h3 (by rw [List.nil_append, List.length_append]; omega) (Evl.et_is (Evl.et_test (Evl.ev_op (Evl.ev_var rfl) (Evl.ev_op (Evl.ev_var rfl) (Evl.ev_op (Evl.ev_var rfl) Evl.ev_c Evl.rv_I0) (Evl.rv_I (.inl ⟨by omega, by omega⟩))) Evl.rv_I0)) (decide_eq_decide.mpr ?_)) (Evl.ev_is (Evl.ev_op (Evl.ev_var rfl) (Evl.ev_var rfl) Evl.rv_I0) (by rw [show (1 : Int) + i + w = i + 1 + w by omega])) fun H4 e4 h4 => ⟨rfl, e4, h4⟩) fun σ4 H4 hM => ?_
    · rw [mul_pred t0]
      omega
    obtain ⟨rfl, e4, h4⟩ := hM
    refine Evl.q_cut (M := S (floorG w t i)) (s_ifApp (c := 0 < i % w) (y := (i : Int)) rfl hn e4 h4 (by rw [List.nil_append, List.length_append, List.length_append]; omega) (Evl.et_is (Evl.et_test (Evl.ev_op (Evl.ev_op (Evl.ev_op (Evl.ev_var rfl) Evl.ev_c Evl.rv_I0) (Evl.ev_var rfl) (Evl.rv_I (by omega))) Evl.ev_c Evl.rv_I0)) (decide_eq_decide.mpr ?_)) (Evl.ev_is (Evl.ev_op (Evl.ev_var rfl) Evl.ev_c Evl.rv_I0) (by rw [show (1 : Int) + i - 1 = i by omega])) fun H5 e5 h5 => ⟨rfl, e5, ?_⟩) fun σ5 H5 hM => ?_
    · rw [show (1 : Int) + i - 1 = (i : Int) by omega, fmod_nat]
      omega
    · rw [List.nil_append] at h5
      exact h5
    obtain ⟨rfl, e5, h5⟩ := hM
    exact Evl.s_ret (Evl.ev_var rfl) fun H6 e6 => q _ H6 (e5.trans e6) fun H7 s7 => ⟨L, rfl, s7 _ _ hn (e6 _ _ h5)⟩
theorem ok_floor {C f fN fI fT : Addr} {fd fdN fdI fdT : FuncData} {k : Nat} (F : Fun K "floor" "floor" sFloor f fd) (T : TWeb K mg C)
    (FN : Fun K "want_number" "want_number" sNumber fN fdN) (GN : FnOk P w K mg base CX0 (k + 1) fN fdN ["value", "least", "most", "part"] spNumber) (bN : Binds K fdN ["value", "least", "most", "part"] []) (gN : mg "want_number" = some (.ref fN))
    (M : Mk K C fI) (GI : FnOk P w K mg base CX0 k fI fdI ["self", "turns"] (spWebI C)) (bI : Binds K fdI ["self", "turns"] [])
    (FT : Fun K "_floor_turn" "_floor_turn" sFloorT fT fdT) (GT : FnOk P w K mg base CX0 (k + 1) fT fdT ["wide", "tall", "place"] spFloorT) (bT : Binds K fdT ["wide", "tall", "place"] []) (gT : mg "_floor_turn" = some (.ref fT))
    {tM : Tok} (gM : mg "MOST_PLACES" = some (.int 1000 tM)) (mrange : mg "range" = none) :
    FnOk P w K mg base CX0 (k + 2) f fd ["wide", "tall"] (spFloor C) := by
  refine F.ok scFloor (fun vs H Q E h => ?_) (fun cdv A outer s H vs Q E hr h => ?_)
  · obtain ⟨n, m, rfl, _⟩ := h
    rfl
  · obtain ⟨n, m, rfl, n0, m0, h1, q⟩ := h
    have nd := scFloor.nd
    have n1 : n ≤ 1000 := Nat.le_trans (Nat.le_mul_of_pos_right n m0) h1
    have m1 : m ≤ 1000 := Nat.le_trans (Nat.le_mul_of_pos_left m n0) h1
    have pm : 1 ≤ n * m := Nat.mul_pos n0 m0
    refine ⟨_, pss_cons (ps_expr (pe_call GN hr (by rfl) gN FN.kp bN .nil pass0 (pa_cons (pv 0) (pa_cons pe_int (pa_cons (pe_glob (v := .int 1000) (by rfl) gM ⟨_, rfl⟩) (pa_cons pe_str pa_nil))))))
      (pss_cons (ps_expr (pe_call GN hr (by rfl) gN FN.kp bN .nil pass0 (pa_cons (pv 1) (pa_cons pe_int (pa_cons (pe_glob (v := .int 1000) (by rfl) gM ⟨_, rfl⟩) (pa_cons pe_str pa_nil))))))
      (pss_cons (ps_if (pt_cmpR op_gt (pe_op op_mul (pv 0) (pv 1)) (pe_glob (v := .int 1000) (by rfl) gM ⟨_, rfl⟩) (nomark _)) (pss_one ps_never) pss_nil)
      (pss_one (ps_ret (pe_make M GI hr (by rfl) T.mgC bI .nil pass0 (pa_cons
        (pe_lc (own := [("place", 2)]) (g := gName 2) (tt := tYes) rfl nd (pi_range2 (by rfl) mrange (pa_cons pe_int (pa_cons (pe_op op_add (pe_op op_mul (pv 0) (pv 1)) pe_int) pa_nil))) (blkOk_by (N := ["wide", "tall", "place"]) (sc := defScope sFloor) (by decide +kernel)) (fun _ _ _ _ _ => pg_name (i := 2) nd rfl (Or.inl rfl)) (fun _ _ _ _ _ => pts_nil)
          (fun _ _ _ _ _ => pe_call GT hr (by rfl) gT FT.kp bT .nil pass0 (pa_cons (pv 0) (pa_cons (pv 1) (pa_cons (pv 2) pa_nil))))) pa_nil)))))), ?_⟩
    have cast : (n : Int) * (m : Int) = ((n * m : Nat) : Int) := (Int.natCast_mul n m).symm
    refine Evl.q_drop (Evl.ev_call (Evl.ea_cons (Evl.ev_var rfl) (Evl.ea_cons Evl.ev_c (Evl.ea_cons Evl.ev_c (Evl.ea_cons Evl.ev_c Evl.ea_nil)))) (spv_number (by omega) (by omega))) fun H1 e1 => ?_
    refine Evl.q_drop (Evl.ev_call (Evl.ea_cons (Evl.ev_var rfl) (Evl.ea_cons Evl.ev_c (Evl.ea_cons Evl.ev_c (Evl.ea_cons Evl.ev_c Evl.ea_nil)))) (spv_number (by omega) (by omega))) fun H2 e2 => ?_
    refine Evl.q_when (b := false) (Evl.et_is (Evl.et_test (Evl.ev_op (Evl.ev_op (Evl.ev_var rfl) (Evl.ev_var rfl) (Evl.rv_I (.inl ⟨by omega, by omega⟩))) Evl.ev_c Evl.rv_I0)) (decide_eq_false (by rw [cast]; omega))) (fun z => by cases z) fun _ H3 e3 => ?_
    have e03 := (e1.trans e2).trans e3
    refine s_retB (noH_ex _) (en_make (ts := floorT n m) (en_LL ?_) (ok_floorT n0 m0 h1)) fun v H4 e4 hv => q v H4 (e03.trans e4) fun H5 s5 => hv H5 (noH_ex _) fun a o ha hb => s5 a o (Evl.fresh_back e03 ha) hb
    refine en_lc (ei_rng2c (i := 1) (j := (n : Int) * m + 1) (n := n * m) (by rw [cast]; omega) (Evl.ea_cons Evl.ev_c (Evl.ea_cons (Evl.ev_op (Evl.ev_op (Evl.ev_var rfl) (Evl.ev_var rfl) (Evl.rv_I (.inl ⟨by omega, by omega⟩))) Evl.ev_c Evl.rv_I0) Evl.ea_nil)) (by omega) (by rw [cast]; omega)) aims_fn (fun _ => rfl) (by omega) _ fun i hi => ?_
    refine en_call (vs := [.int n, .int m, .int (1 + (i : Int))]) (Evl.ea_cons (Evl.ev_var rfl) (Evl.ea_cons (Evl.ev_var rfl) (Evl.ea_cons (Evl.ev_var rfl) Evl.ea_nil))) fun H5 e5 Q5 q5 E5 => ⟨n, m, i, rfl, n0, n1, m0, m1, hi, fun v H6 e6 hv => q5 v H6 e6 fun H7 _ s7 => hv H7 s7⟩
end
end Tl
end S_Yj
section S_Yk
namespace Tl
open PySem PySem.Spec PyProof.Rows L2
abbrev Dct := List (Int × Int)
def enc (l : Dct) : List (L2.Key × V) := l.map fun p => (.inl p.1, .int p.2)
def look (l : Dct) (k : Int) : Option Int := (l.find? fun p => decide (p.1 = k)).map (·.2)
def cast (l : Dct) (k : Int) : Dct := l.filter fun p => decide (p.1 ≠ k)
theorem val_enc (l : Dct) (k : Int) : valV (enc l) (.inl k) = (look l k).map V.int := by
  unfold enc look
  induction l with
  | nil => rfl
  | cons p r ih =>
    rw [List.map_cons, List.find?_cons]
    by_cases e : p.1 = k
    · rw [valV_pos (by show (Sum.inl p.1 : L2.Key) = .inl k; rw [e]), decide_eq_true e]
      rfl
    · rw [valV_neg (by show ¬ (Sum.inl p.1 : L2.Key) = .inl k; exact fun z => e (Sum.inl.inj z)), decide_eq_false e]
      exact ih
theorem drop_enc (l : Dct) (k : Int) : dropK (enc l) (.inl k) = enc (cast l k) := by
  unfold enc cast dropK
  induction l with
  | nil => rfl
  | cons p r ih =>
    rw [List.map_cons, List.filter_cons, List.filter_cons, ih]
    have e : decide ((Sum.inl p.1 : L2.Key) ≠ .inl k) = decide (p.1 ≠ k) := decide_eq_decide.mpr ⟨fun h z => h (by rw [z]), fun h z => h (Sum.inl.inj z)⟩
    show (if decide ((Sum.inl p.1 : L2.Key) ≠ .inl k) = true then _ else _) = _
    rw [e]
    by_cases h : p.1 ≠ k
    · rw [if_pos (decide_eq_true h), if_pos (decide_eq_true h)]
      rfl
    · rw [if_neg (by rw [decide_eq_false h]; decide), if_neg (by rw [decide_eq_false h]; decide)]
/-- the face's walk: what stands behind, side by side, is taken out -/
def walk : Nat → List Dct → Int → Int → Option (List Int × List Dct)
  | 0, _, _, _ => none
  | f + 1, ds, here, there =>
    match ds[(there - 1).toNat]? with
    | none => none
    | some d => if 1 ≤ there then match look d here with
      | none => some ([], ds)
      | some nx => match walk f (ds.set (there - 1).toNat (cast d here)) there nx with
        | none => none
        | some r => some (here :: r.1, r.2)
      else none
/-- the dicts at as -/
def DctAt (H : Hp) (as : List Addr) (ds : List Dct) : Prop := as.length = ds.length ∧ (∀ (i j : Nat) (a : Addr), as[i]? = some a → as[j]? = some a → i = j) ∧ ∀ (i : Nat) (a : Addr) (d : Dct), as[i]? = some a → ds[i]? = some d → H a = some (.dK (enc d))
theorem DctAt.keep {A B : Hp} {as : List Addr} {ds : List Dct} (h : DctAt A as ds) (k : ∀ a ∈ as, ∀ o, A a = some o → B a = some o) : DctAt B as ds := ⟨h.1, h.2.1, fun i a d ha hd => k a (List.mem_of_getElem? ha) _ (h.2.2 i a d ha hd)⟩
theorem DctAt.put {A : Hp} {as : List Addr} {ds : List Dct} (h : DctAt A as ds) {i : Nat} {a : Addr} {d : Dct} (ha : as[i]? = some a) : DctAt (upd A a (.dK (enc d))) as (ds.set i d) := by
  refine ⟨by rw [List.length_set]; exact h.1, h.2.1, fun j b e hb he => ?_⟩
  by_cases hij : i = j
  · subst hij
    rw [ha] at hb
    cases hb
    have hi : i < ds.length := by rw [← h.1]; exact (List.getElem?_eq_some_iff.mp ha).1
    rw [List.getElem?_set_self hi] at he
    cases he
    exact upd_same
  · have hne : b ≠ a := fun z => hij (h.2.1 i j a ha (z ▸ hb))
    rw [upd_ne hne]
    rw [List.getElem?_set_ne hij] at he
    exact h.2.2 j b e hb he
theorem scTaken : FnScope ["left", "one", "other", "places", "here", "there"] ["left", "one", "other"] (defScope sTaken) := ⟨rfl, rfl, rfl, by decide +kernel, rfl, by decide +kernel, by decide +kernel⟩
def spTaken : Sp := fun vs H Q _ => ∃ (l : Addr) (one other : Int) (as : List Addr) (ds : List Dct) (f : Nat) (face : List Int) (es : List Dct), vs = [.ref l, .int one, .int other] ∧ H l = some (.lst (as.map V.ref)) ∧ DctAt H as ds ∧ walk f ds one other = some (face, es) ∧ f ≤ 80000 ∧
  ∀ p H', H p = none → (∀ b o, b ∉ as → H b = some o → H' b = some o) → DctAt H' as es → H' p = some (.tup (face.map V.int)) → Q (.ref p) H'
theorem walk_len : ∀ {f : Nat} {ds : List Dct} {a b : Int} {face : List Int} {es : List Dct}, walk f ds a b = some (face, es) → face.length ≤ f
  | 0, _, _, _, _, _, h => by cases h
  | f + 1, ds, a, b, face, es, h => by
    unfold walk at h
    split at h
    · cases h
    · split at h
      · split at h
        · cases h
          exact Nat.zero_le _
        · split at h
          · cases h
          · rename_i r hr
            cases h
            have := walk_len (face := r.1) (es := r.2) hr
            show r.1.length + 1 ≤ f + 1
            omega
      · cases h
section
variable {P : Program} {w : World} {K : PySem.W.Frag} {mg : Str → Option Value} {base : Heap}
set_option maxHeartbeats 2000000 in
theorem ok_taken {f : Addr} {fd : FuncData} {k : Nat} (F : Fun K "_taken_round" "_taken_round" sTaken f fd) (mtup : mg "tuple" = none) : FnOk P w K mg base CX0 (k + 1) f fd ["left", "one", "other"] spTaken := by
  refine F.ok scTaken (fun vs H Q E h => ?_) (fun cdv A outer s H vs Q E hr h => ?_)
  · obtain ⟨l, one, other, as, ds, fu, face, es, rfl, _⟩ := h
    rfl
  · obtain ⟨l, one, other, as, ds, fu, face, es, rfl, hl, hd, hw, hf, q⟩ := h
    have nd := scTaken.nd
    refine ⟨_, pss_cons (ps_set (i := 3) nd rfl (.inl rfl) (pe_lst pa_nil))
      (pss_cons (ps_par (i := 4) (j := 5) (by rfl) nd rfl rfl (by decide) rfl rfl (pa_cons (pv 1) (pa_cons (pv 2) pa_nil)) (by rfl))
      (pss_cons (ps_while PassesOwn.never (pt_cmp (pc_din (hu_of hr) (pv 4) (pe_ix ix_list (pv 0) (pe_op op_sub (pv 5) pe_int) (fun _ _ => rfl))))
        (pss_cons (ps_expr (pe_bm PySem.F.plainAttrs_list PySem.F.slot_list_append PySem.F.type_list_append mt_append (pv 3) (pa_cons (pv 4) pa_nil)))
        (pss_one (ps_par (i := 4) (j := 5) (by rfl) nd rfl rfl (by decide) rfl rfl (pa_cons (pv 5) (pa_cons (pe_dpop1 (pe_ix ix_list (pv 0) (pe_op op_sub (pv 5) pe_int) (fun _ _ => rfl)) (pv 4) ⟨by rfl, by rfl, by rfl, by rfl⟩) pa_nil)) (by rfl)))))
      (pss_one (ps_ret (pe_callTy call_tuple_of (by rfl) mtup (by decide +kernel) (pa_cons (pv 3) pa_nil)))))), ?_⟩
    refine Evl.q_asgL (xs := []) (Evl.el_lst Evl.ea_nil (Nat.zero_le _)) fun p H1 hp e1 h1 => ?_
    have inAs : ∀ {H' : Hp} {cs : List Dct} {c : Addr}, DctAt H' as cs → c ∈ as → ∃ d : Dct, H' c = some (.dK (enc d)) := fun {H' cs c} hD z => by
      obtain ⟨i, hi, e⟩ := List.mem_iff_getElem.mp z
      exact ⟨_, hD.2.2 i c _ (by rw [List.getElem?_eq_getElem hi, e]) (List.getElem?_eq_getElem (hD.1 ▸ hi))⟩
    have pas : p ∉ as := fun z => by
      obtain ⟨d, h⟩ := inAs hd z
      rw [hp] at h
      cases h
    have lne : l ∉ as := fun z => by
      obtain ⟨d, h⟩ := inAs hd z
      rw [hl] at h
      cases h
    have plt : l ≠ p := ne_of_none hl hp
    refine ⟨_, rfl, _, rfl, _, _, rfl, ?_⟩
    refine Evl.q_while (fun m σ' H' => ∃ (cs : List Dct) (a b : Int) (acc rest : List Int), σ' = [some (.ref l), some (.int one), some (.int other), some (.ref p), some (.int a), some (.int b)] ∧ walk m cs a b = some (rest, es) ∧ acc ++ rest = face ∧ H' p = some (.lst (acc.map V.int)) ∧ DctAt H' as cs ∧ ∀ b o, b ∉ as → H b = some o → H' b = some o) fu ?_ ?_
    · exact ⟨ds, one, other, [], face, rfl, hw, rfl, h1, hd.keep fun a _ o h => e1 _ _ h, fun b o _ h => e1 _ _ h⟩
    · rintro m σ' H' ⟨cs, a, b, acc, rest, rfl, hwk, hface, hP, hD, hK⟩
      cases m with
      | zero => cases hwk
      | succ m =>
        unfold walk at hwk
        cases hcs : cs[(b - 1).toNat]? with
        | none => rw [hcs] at hwk; cases hwk
        | some d =>
          rw [hcs] at hwk
          dsimp only at hwk
          by_cases hb1 : 1 ≤ b
          · rw [if_pos hb1] at hwk
            have hix : (b - 1).toNat < as.length := by rw [hD.1]; exact (List.getElem?_eq_some_iff.mp hcs).1
            have haa : as[(b - 1).toNat]? = some as[(b - 1).toNat] := List.getElem?_eq_getElem hix
            have hmem : as[(b - 1).toNat] ∈ as := List.getElem_mem hix
            have hdd := hD.2.2 _ _ _ haa hcs
            generalize as[(b - 1).toNat] = A0 at haa hmem hdd
            have hl' := hK l _ lne hl
            have at0 : atI (as.map V.ref) (b - 1) = some (.ref A0) := by
              have en : b - 1 = ((b - 1).toNat : Int) := by omega
              rw [en]
              exact atI_nat (by rw [List.getElem?_map, haa]; rfl)
            have evd : ∀ {H2 : Hp} {σ2 : L2.St}, Evl.Ex H' H2 → σ2[0]? = some (some (.ref l)) → σ2[5]? = some (some (.int b)) → Evl.Ev (tOp (rIxL K) (tVar 0) (tOp (rI0 fun i j => V.int (i - j)) (tVar 5) (tC (.int 1)))) σ2 H2 (.ref A0) :=
              fun e k1 k2 => Evl.ev_op (Evl.ev_var k1) (Evl.ev_op (Evl.ev_var k2) Evl.ev_c Evl.rv_I0) (Evl.rv_ixL (Evl.sq_of (e _ _ hl')) at0)
            refine ⟨(valV (enc d) (.inl a)).isSome, fun H1' e1' Q' q' => ev_din (Evl.ev_var rfl) (evd (Evl.Ex.refl H') rfl rfl) hdd H1' e1' _ fun H2' e2' => ⟨_, rfl, q' H2' e2'⟩, fun hb H2 e2 => ?_, fun hb H2 e2 => ?_⟩
            · rw [val_enc] at hb
              cases hlk : look d a with
              | none => rw [hlk] at hb; cases hb
              | some nx =>
                rw [hlk] at hwk
                dsimp only at hwk
                cases hrec : walk m (cs.set (b - 1).toNat (cast d a)) b nx with
                | none => rw [hrec] at hwk; cases hwk
                | some r =>
                  rw [hrec] at hwk
                  obtain ⟨r1, r2⟩ := r
                  cases hwk
                  have hpa : p ≠ A0 := fun z => pas (z ▸ hmem)
                  have wl := walk_len hrec
                  have al : acc.length ≤ 80000 := by
                    have f1 := walk_len hw
                    rw [← hface, List.length_append] at f1
                    omega
                  refine ⟨fun σ2 H2 => ∃ m', m' < m + 1 ∧ ∃ (cs : List Dct) (a b : Int) (acc rest : List Int), σ2 = [some (.ref l), some (.int one), some (.int other), some (.ref p), some (.int a), some (.int b)] ∧ walk m' cs a b = some (rest, r2) ∧ acc ++ rest = face ∧ H2 p = some (.lst (acc.map V.int)) ∧ DctAt H2 as cs ∧ ∀ b o, b ∉ as → H b = some o → H2 b = some o, fun _ _ h => h, ?_⟩
                  refine Evl.q_app (e2 _ _ hP) (Evl.ev_var rfl) (Evl.ev_var rfl) (by rw [List.length_map]; omega) fun H3 e3 => ?_
                  have e23 := e2.trans e3
                  have up3 : ∀ c o, c ≠ p → H' c = some o → (upd H3 p (.lst (acc.map V.int ++ [.int a]))) c = some o := fun c o hc h => by rw [upd_ne hc]; exact e23 _ _ h
                  have l3 := up3 l _ plt hl'
                  have d3 := up3 _ _ (Ne.symm hpa) hdd
                  refine ⟨_, rfl, .ref l, rfl, .int b, rfl, b, 1, rfl, rfl, l, as.map V.ref, b - 1, .ref A0, rfl, rfl, Evl.sq_of l3, at0, A0, rfl, .inl ⟨_, .inl d3⟩, _, rfl, enc d, .inl a, .int nx, d3, rfl, by rw [val_enc, hlk] <;> rfl, _, _, rfl, ?_⟩
                  refine ⟨m, Nat.lt_succ_self m, cs.set (b - 1).toNat (cast d a), b, nx, acc ++ [a], r1, rfl, hrec, by rw [List.append_assoc]; exact hface, ?_, ?_, ?_⟩
                  · rw [upd_ne hpa, upd_same, List.map_append]
                    rfl
                  · rw [drop_enc]
                    exact (hD.keep fun c hc o h => up3 c o (fun z => pas (z ▸ hc)) h).put haa
                  · intro c o hc h
                    rw [upd_ne (fun z : c = A0 => hc (by rw [z]; exact hmem))]
                    exact up3 c o (ne_of_none h hp) (hK c o hc h)
            · rw [val_enc] at hb
              cases hlk : look d a with
              | some nx => rw [hlk] at hb; cases hb
              | none =>
                rw [hlk] at hwk
                cases hwk
                rw [List.append_nil] at hface
                subst hface
                refine ⟨.ref p, rfl, p, _, rfl, .inl ⟨Evl.sq_of (e2 _ _ hP), fun t ht => ?_⟩⟩
                have old : ∀ c o, H' c = some o → (upd H2 t (.tup (acc.map V.int))) c = some o := fun c o h => by
                  have := e2 _ _ h
                  rw [upd_ne (ne_of_none this ht)]
                  exact this
                refine q t _ ?_ (fun c o hc h => old c o (hK c o hc h)) (hD.keep fun c hc o h => old c o h) upd_same
                cases hq : H t with
                | none => rfl
                | some o =>
                  by_cases hta : t ∈ as
                  · obtain ⟨d', h'⟩ := inAs hD hta
                    have := e2 _ _ h'
                    rw [ht] at this
                    cases this
                  · have := e2 _ _ (hK t o hta hq)
                    rw [ht] at this
                    cases this
          · rw [if_neg hb1] at hwk
            cases hwk
end
end Tl
end S_Yk
section S_Yl
namespace Tl
open PySem PySem.Spec PyProof.Rows L2
section
open Evl
variable {K : PySem.W.Frag} {σ : L2.St} {H : Hp}
/-- a comprehension whose items are new objects, one each -/
theorem go_lcF {wi : TI} {g : TG} {te : TE} {vs : List Nat} {n : Nat} {Y : Nat → Hp → V → Hp → Prop} {s : Nat → L2.St → L2.St} {o : Nat → HO} (hw : EvI wi σ H n Y) (aim : Aims g n Y s) (hs : ∀ i, wipe (s i (wipe σ vs)) vs = wipe σ vs) (hn : n ≤ 90000)
    (he : ∀ i, i < n → ∀ H1, Ex H H1 → ∀ Q : VK, (∀ p H2, H1 p = none → Ex H1 H2 → H2 p = some (o i) → Q (.ref p) H2) → te (s i (wipe σ vs)) H1 Q) (H1 : Hp) (e : Ex H H1) (Q : VK)
    (q : ∀ (D : Addr) (as : List Addr) (H2 : Hp), H1 D = none → Ex H1 H2 → H2 D = some (.lst (as.map V.ref)) → as.length = n → (∀ (i : Nat) (a : Addr), as[i]? = some a → H1 a = none ∧ H2 a = some (o i) ∧ a ≠ D) → (∀ (i j : Nat) (a : Addr), as[i]? = some a → as[j]? = some a → i = j) → Q (.ref D) H2) :
    tLc wi g tYes te vs σ H1 Q :=
  hw H1 e _ fun J G H2 e2 w sG D hD => lc_it w (fun i H' => Ex H2 H' ∧ ∃ as : List Addr, H' D = some (.lst (as.map V.ref)) ∧ as.length = i ∧ (∀ (k : Nat) (a : Addr), as[k]? = some a → H1 a = none ∧ H' a = some (o k) ∧ a ≠ D) ∧ ∀ (k j : Nat) (a : Addr), as[k]? = some a → as[j]? = some a → k = j)
    ⟨Ex.new hD, [], upd_same, rfl, fun i v h => by simp at h, fun i v a h => by simp at h⟩ (fun i H' _ p => sG H' ((e.trans e2).trans p.1) fun a o _ ha => p.1 _ _ ha)
    (fun i x A B hi p y => by
      obtain ⟨p1, as, p3, p4, p5, p6⟩ := p
      obtain ⟨ab, k⟩ := aim i (wipe σ vs) A x B hi y
      refine k _ ⟨hs i, ?_⟩
      show te (s i (wipe σ vs)) B _
      refine he i hi B (((e.trans e2).trans p1).trans ab) _ fun p C hp eC hC => ⟨as.map V.ref, eC _ _ (ab _ _ p3), sz_lt (by rw [List.length_map]; omega), ((p1.trans ab).trans eC).mut hD, as ++ [p], ?_, by rw [List.length_append, p4] <;> rfl, fun j a ha => ?_, fun j m a ha hb => ?_⟩
      · rw [upd_same, List.map_append]
        rfl
      · rcases addr_snoc ha with ⟨_, ha⟩ | ⟨rfl, rfl⟩
        · obtain ⟨q1, q2, q3⟩ := p5 j a ha
          exact ⟨q1, by rw [upd_ne q3]; exact eC _ _ (ab _ _ q2), q3⟩
        · have pD : p ≠ D := fun z => by rw [z, ab _ _ p3] at hp; cases hp
          exact ⟨fresh_back ((e2.trans p1).trans ab) hp, by rw [upd_ne pD, p4]; exact hC, pD⟩
      · rcases addr_snoc ha with ⟨h1, ha⟩ | ⟨h1, rfl⟩
        · rcases addr_snoc hb with ⟨h2, hb⟩ | ⟨h2, rfl⟩
          · exact p6 j m a ha hb
          · obtain ⟨_, q2, _⟩ := p5 j p ha
            rw [ab _ _ q2] at hp
            cases hp
        · rcases addr_snoc hb with ⟨h2, hb⟩ | ⟨h2, _⟩
          · obtain ⟨_, q2, _⟩ := p5 m p hb
            rw [ab _ _ q2] at hp
            cases hp
          · omega)
    (fun H' p => by
      obtain ⟨p1, as, p3, p4, p5, p6⟩ := p
      exact q D as H' (fresh_back e2 hD) (e2.trans p1) p3 p4 p5 p6)
where
  addr_snoc {xs : List Addr} {v u : Addr} {i : Nat} (h : (xs ++ [v])[i]? = some u) : (i < xs.length ∧ xs[i]? = some u) ∨ (i = xs.length ∧ v = u) := by
    rcases Nat.lt_or_ge i xs.length with hi | hi
    · rw [List.getElem?_append_left hi] at h
      exact .inl ⟨hi, h⟩
    · rw [List.getElem?_append_right hi] at h
      have e : i - xs.length = 0 := by
        have := (List.getElem?_eq_some_iff.mp h).1
        simp at this
        omega
      rw [e] at h
      cases h
      exact .inr ⟨by omega, rfl⟩
/-- a tuple: there or new -/
abbrev IsT (xs : List V) : V → Hp → Prop := fun u H' => ∃ a, u = .ref a ∧ H' a = some (.tup xs)
theorem en_tv {te : TE} {a : Addr} {xs : List V} (h : Ev te σ H (.ref a)) (ha : H a = some (.tup xs)) : EvN te σ H (IsT xs) := fun H1 e Q q => h H1 e Q fun H2 e2 => q _ H2 e2 fun H3 h3 _ => ⟨a, rfl, h3 _ _ ha⟩
theorem en_sl {te : TE} {tl th : TO} {lo hi : Option Int} {a : Addr} {xs : List V} (h : Ev te σ H (.ref a)) (h1 : EvO tl σ H lo) (h2 : EvO th σ H hi) (ha : H a = some (.tup xs)) : EvN (tSl (rSlA K) te tl th) σ H (IsT (cutV xs lo hi)) := fun H1 e Q q =>
  h H1 e _ fun H2 e2 => h1 H2 (e.trans e2) _ fun H3 e3 => h2 H3 ((e.trans e2).trans e3) _ fun H4 e4 => ⟨a, xs, rfl, st_of ((((e.trans e2).trans e3).trans e4) _ _ ha), fun hc => q _ H4 ((e2.trans e3).trans e4) fun H5 h5 _ => ⟨a, rfl, by
    have ec : cutV xs lo hi = xs := by
      unfold cutV
      rw [hc.1, hc.2, List.drop_zero, Nat.sub_zero, List.take_length]
    rw [ec]
    exact h5 _ _ ha⟩, fun _ p hp => q _ _ (((e2.trans e3).trans e4).trans (Ex.new hp)) fun H5 _ s5 => ⟨p, rfl, s5 _ _ (fresh_back ((e2.trans e3).trans e4) hp) upd_same⟩⟩
theorem en_catA {ta tb : TE} {xs ys : List V} (h1 : EvN ta σ H (IsT xs)) (h2 : EvN tb σ H (IsT ys)) (hz : xs.length + ys.length ≤ 90000) : EvN (tOp (rCatA K) ta tb) σ H (IsT (xs ++ ys)) := fun H1 e Q q =>
  h1 H1 e _ fun v H2 e2 hv => h2 H2 (e.trans e2) _ fun u H3 e3 hu => by
    have s1 : ∀ H4, Since H1 H3 H4 → Since H1 H2 H4 := fun H4 s a o hn h => s a o hn (e3 _ _ h)
    have s2 : ∀ H4, Since H1 H3 H4 → Since H2 H3 H4 := fun H4 s a o hn h => s a o (fresh_back e2 hn) h
    obtain ⟨a, rfl, ha⟩ := hv H3 ((e.trans e2).trans e3) (s1 H3 fun _ _ _ h => h)
    obtain ⟨b, rfl, hb⟩ := hu H3 ((e.trans e2).trans e3) (s2 H3 fun _ _ _ h => h)
    refine ⟨a, b, xs, ys, rfl, rfl, st_of ha, st_of hb, sz_of (by omega), fun hx => q _ H3 (e2.trans e3) fun H4 h4 s4 => ?_, fun _ hy => q _ H3 (e2.trans e3) fun H4 h4 s4 => ?_, fun _ _ p hp => q _ _ ((e2.trans e3).trans (Ex.new hp)) fun H4 _ s4 => ⟨p, rfl, s4 _ _ (fresh_back (e2.trans e3) hp) upd_same⟩⟩
    · rw [hx]
      exact hu H4 h4 (s2 H4 s4)
    · rw [hy, List.append_nil]
      exact hv H4 h4 (s1 H4 s4)
end
def rot (ns : List Int) : List Int := ns.drop 1 ++ ns.take 1
def behindOf (ns : List Int) : Dct := ns.zip (rot ns)
theorem rot_len (ns : List Int) : (rot ns).length = ns.length := by
  unfold rot
  rw [List.length_append, List.length_drop, List.length_take]
  omega
theorem merge_new : ∀ (l : Dct) (acc : List (L2.Key × V)), (l.map (·.1)).Nodup → (∀ p ∈ l, valV acc (.inl p.1) = none) → mergeK acc (enc l) = acc ++ enc l
  | [], acc, _, _ => (List.append_nil acc).symm
  | p :: r, acc, hn, hv => by
    rw [List.map_cons, List.nodup_cons] at hn
    show mergeK (putK acc (.inl p.1) (.int p.2)) (enc r) = acc ++ ((Sum.inl p.1, V.int p.2) :: enc r)
    rw [putK_new _ (hv p List.mem_cons_self), merge_new r _ hn.2 fun q hq => ?_, List.append_assoc]
    · rfl
    · rw [← putK_new _ (hv p List.mem_cons_self), valV_put, if_neg]
      · exact hv q (List.mem_cons_of_mem _ hq)
      · intro z
        have := Sum.inl.inj z
        exact hn.1 (this ▸ List.mem_map_of_mem (f := (·.1)) hq)
theorem zip_enc : ∀ (ks ys : List Int), zipK ks (ys.map V.int) = enc (ks.zip ys)
  | [], _ => rfl
  | _ :: _, [] => rfl
  | k :: ks, y :: ys => congrArg (((Sum.inl k : L2.Key), V.int y) :: ·) (zip_enc ks ys)
theorem merge_behind {ns : List Int} (h : ns.Nodup) : mergeK [] (zipK ns ((rot ns).map V.int)) = enc (behindOf ns) := by
  rw [zip_enc]
  refine merge_new _ _ ?_ fun _ _ => rfl
  rw [List.map_fst_zip (by rw [rot_len]; exact Nat.le_refl _)]
  exact h
theorem cutD1 (xs : List V) : cutV xs (some 1) none = xs.drop 1 := by
  unfold cutV
  rw [HT.sIx_none, show HT.sIx xs.length 0 (some 1) = min 1 xs.length from HT.sIx_nat _ _ 1]
  by_cases h : 1 ≤ xs.length
  · rw [Nat.min_eq_left h]
    exact List.take_of_length_le (by rw [List.length_drop]; exact Nat.le_refl _)
  · have e : xs = [] := List.length_eq_zero_iff.mp (by omega)
    subst e
    rfl
theorem cutT1 (xs : List V) : cutV xs none (some 1) = xs.take 1 := by
  unfold cutV
  rw [HT.sIx_none, show HT.sIx xs.length xs.length (some 1) = min 1 xs.length from HT.sIx_nat _ _ 1, List.drop_zero, Nat.sub_zero]
  by_cases h : 1 ≤ xs.length
  · rw [Nat.min_eq_left h]
  · rw [Nat.min_eq_right (by omega), List.take_length, List.take_of_length_le (by omega)]
theorem scBehind : FnScope ["web", "turn"] ["web"] (defScope sBehind) := ⟨rfl, rfl, rfl, by decide +kernel, rfl, by decide +kernel, by decide +kernel⟩
def spBehind (C : Addr) : Sp := fun vs H Q _ => ∃ (x : Addr) (ts : List (List Int)), vs = [.ref x] ∧ WebAt C H x ts ∧ OkT ts ∧
  ∀ (l : Addr) (as : List Addr) (H' : Hp), H l = none → Evl.Ex H H' → H' l = some (.lst (as.map V.ref)) → DctAt H' as (ts.map behindOf) → (∀ a ∈ as, H a = none) → Q (.ref l) H'
section
variable {P : Program} {w : World} {K : PySem.W.Frag} {mg : Str → Option Value} {base : Heap}
theorem ok_behind {C f : Addr} {fd : FuncData} {k : Nat} (F : Fun K "places_behind" "places_behind" sBehind f fd) (T : TWeb K mg C) (mdict : mg "dict" = none) (mzip : mg "zip" = none) :
    FnOk P w K mg base CX0 (k + 1) f fd ["web"] (spBehind C) := by
  refine F.ok scBehind (fun vs H Q E h => ?_) (fun cdv A outer s H vs Q E hr h => ?_)
  · obtain ⟨x, ts, rfl, _⟩ := h
    rfl
  · obtain ⟨x, ts, rfl, hW, hT, q⟩ := h
    have nd := scBehind.nd
    refine ⟨_, pss_one (ps_ret (pe_lc (own := [("turn", 1)]) (g := gName 1) (tt := tYes) (te := tDictZip K (tCons (tVar 1) (tCons (tOp (rCatA K) (tSl (rSlA K) (tVar 1) (tPart (tC (.int 1))) tNoPart) (tSl (rSlA K) (tVar 1) tNoPart (tPart (tC (.int 1))))) tNil))) rfl nd (pi_tup (pe_fld (pv 0) rfl)) (blkOk_by (N := ["web", "turn"]) (sc := defScope sBehind) (by decide +kernel)) (fun _ _ _ _ _ => pg_name (i := 1) nd rfl (Or.inl rfl)) (fun _ _ _ _ _ => pts_nil)
      (fun _ _ _ _ _ => pe_dictZip (by rfl) mdict (by rfl) mzip (pa_cons (pv 1) (pa_cons (pe_op op_catA (pe_slice sl_tupA (pv 1) (po_some pe_int) po_none) (pe_slice sl_tupA (pv 1) po_none (po_some pe_int))) pa_nil))))), ?_⟩
    obtain ⟨dx, t, ti, h1, ⟨bs, h2, hbl, hrow⟩, h3⟩ := hW
    have hmap : (bs.map V.ref).length = ts.length := by rw [List.length_map, hbl]
    have p2 := hT.most
    refine go_lcF (o := fun i => .dK (enc (behindOf (ts.getD i [])))) (ei_tup (ev_fld (Evl.ev_var rfl) h1 T.cl T.nT (wf_t _ _ _)) (Evl.st_of h2)) aims_at (fun _ => rfl) (by omega) (fun i hi H1 e1 Q1 q1 => ?_) H (Evl.Ex.refl H) _ fun D as H2 hD e2 h4 h5 h6 h7 => q D as H2 hD e2 h4 ⟨by rw [h5, hmap, List.length_map], h7, fun i a d ha hd => ?_⟩ fun a ha => ?_
    · obtain ⟨a, ns, ha, hn⟩ := both_at hbl (show i < bs.length by rw [List.length_map] at hi; exact hi)
      have hat := hrow i a ns ha hn
      have ed : ts.getD i [] = ns := by rw [List.getD_eq_getElem?_getD, hn]; rfl
      obtain ⟨t1, _, _⟩ := hT.pl i ns hn
      have hsh := hT.short hn
      have c1 : Evl.Ev (tVar 1) ([none, some ((bs.map V.ref).getD i .non)] : L2.St) H (.ref a) := Evl.ev_is (Evl.ev_var rfl) (refs_getD ha)
      have rr : EvN (tOp (rCatA K) (tSl (rSlA K) (tVar 1) (tPart (tC (.int 1))) tNoPart) (tSl (rSlA K) (tVar 1) tNoPart (tPart (tC (.int 1))))) ([none, some ((bs.map V.ref).getD i .non)] : L2.St) H (IsT ((rot ns).map V.int)) := by
        have := en_catA (K := K) (en_sl (K := K) c1 (Evl.eo_some Evl.ev_c) Evl.eo_none hat) (en_sl (K := K) c1 Evl.eo_none (Evl.eo_some Evl.ev_c) hat) (by rw [cutD1, cutT1, List.length_drop, List.length_take, List.length_map]; omega)
        rw [cutD1, cutT1, ← List.map_drop, ← List.map_take, ← List.map_append] at this
        exact this
      show tCons _ _ _ _ _
      refine cons_v (c1.mono e1) fun H3 e3 => ?_
      refine rr H3 (e1.trans e3) _ fun v H4 e4 hv => ?_
      obtain ⟨b, rfl, hb⟩ := hv H4 ((e1.trans e3).trans e4) fun _ _ _ h => h
      refine ⟨a, b, ns, (rot ns).map V.int, rfl, Evl.st_of (((e1.trans e3).trans e4) _ _ hat), Evl.st_of hb, by rw [List.length_map, rot_len], fun p hp => q1 p _ (Evl.fresh_back (e3.trans e4) hp) ((e3.trans e4).trans (Evl.Ex.new hp)) ?_⟩
      rw [upd_same, merge_behind t1, ed]
    · rw [List.getElem?_map] at hd
      cases hq : ts[i]? with
      | none => rw [hq] at hd; cases hd
      | some ns =>
        rw [hq] at hd
        cases hd
        have := (h6 i a ha).2.1
        rw [List.getD_eq_getElem?_getD, hq] at this
        exact this
    · obtain ⟨i, hi, rfl⟩ := List.mem_iff_getElem.mp ha
      exact (h6 i _ (List.getElem?_eq_getElem hi)).1
end
end Tl
end S_Yl
section S_Ym
namespace Tl
open PySem PySem.Spec PyProof.Rows L2
/-- a for over what EvI tells; the body may write what is not of the walk -/
theorem s_forI {wi : TI} {g : TG} {tb : TS} {D : Ends} {σ : L2.St} {H B : Hp} {n : Nat} {Y : Nat → Hp → V → Hp → Prop} {s : Nat → L2.St → L2.St} (hw : EvI wi σ B n Y) (aim : Aims g n Y s) (e : Evl.Ex B H) (Pv : Hp → Nat → L2.St → Hp → Prop) (h0 : ∀ H2, Evl.Ex H H2 → Pv H2 0 σ H2)
    (hk : ∀ H2 i σ' H', Evl.Ex H H2 → i ≤ n → Pv H2 i σ' H' → Evl.Ex B H' ∧ Since H H2 H') (hs : ∀ H2 i σ' H' H'', Evl.Ex H H2 → i < n → Pv H2 i σ' H' → Evl.Ex H' H'' → tb { D with nx := Pv H2 (i + 1), ct := Pv H2 (i + 1), bk := D.nx } (s i σ') H'')
    (hd : ∀ H2 σ' H', Evl.Ex H H2 → Pv H2 n σ' H' → D.nx σ' H') : tFor wi g tb D σ H :=
  hw H e _ fun J G H2 e2 w sG => for_it w (Pv H2) (h0 H2 e2) (fun i σ' H' hi p => sG H' (hk H2 i σ' H' e2 hi p).1 (hk H2 i σ' H' e2 hi p).2)
    (fun i x σ' H' H'' hi p y => by
      obtain ⟨ab, k⟩ := aim i σ' H' x H'' hi y
      exact k _ (hs H2 i σ' H' H'' e2 hi p ab)) (fun σ' H' p => hd H2 σ' H' e2 p)
theorem q_forI {wi : TI} {g : TG} {tb tz : TS} {D : Ends} {σ : L2.St} {H B : Hp} {n : Nat} {Y : Nat → Hp → V → Hp → Prop} {s : Nat → L2.St → L2.St} (hw : EvI wi σ B n Y) (aim : Aims g n Y s) (e : Evl.Ex B H) (Pv : Hp → Nat → L2.St → Hp → Prop) (h0 : ∀ H2, Evl.Ex H H2 → Pv H2 0 σ H2)
    (hk : ∀ H2 i σ' H', Evl.Ex H H2 → i ≤ n → Pv H2 i σ' H' → Evl.Ex B H' ∧ Since H H2 H') (hs : ∀ H2 i σ' H' H'', Evl.Ex H H2 → i < n → Pv H2 i σ' H' → Evl.Ex H' H'' → tb { D with nx := Pv H2 (i + 1), ct := Pv H2 (i + 1), bk := tz D } (s i σ') H'')
    (hd : ∀ H2 σ' H', Evl.Ex H H2 → Pv H2 n σ' H' → tz D σ' H') : tSeq (tFor wi g tb) tz D σ H := s_forI (D := { D with nx := tz D }) hw aim e Pv h0 hk hs hd
abbrev FSt := List Dct × List (List Int)
def stepP (fu : Nat) (p : Int) (st : Option FSt) (o : Int) : Option FSt :=
  match st with
  | none => none
  | some q => if 1 ≤ o then match q.1[(o - 1).toNat]? with
      | none => none
      | some d => if (look d p).isSome = true then match walk fu q.1 p o with
          | none => none
          | some r => some (r.2, q.2 ++ [r.1])
        else some q
    else none
def facesFrom (fu : Nat) : Nat → List (List Int) → Option FSt → Option FSt
  | _, [], st => st
  | i, ns :: r, st => facesFrom fu (i + 1) r ((srt ns).foldl (stepP fu ((i : Int) + 1)) st)
def facesM (ts : List (List Int)) : Option (List (List Int)) := if ts.length = 1 then some [[]] else (facesFrom 400 0 ts (some (ts.map behindOf, []))).map (·.2)
theorem stepP_none {fu : Nat} {p : Int} : ∀ l : List Int, l.foldl (stepP fu p) none = none
  | [] => rfl
  | _ :: r => stepP_none r
theorem stepP_le {fu : Nat} {p : Int} : ∀ {l : List Int} {q r : FSt}, l.foldl (stepP fu p) (some q) = some r → q.2.length ≤ r.2.length
  | [], q, r, h => by cases h; exact Nat.le_refl _
  | o :: l, q, r, h => by
    rw [List.foldl_cons] at h
    cases hq : stepP fu p (some q) o with
    | none => rw [hq, stepP_none] at h; cases h
    | some q2 =>
      rw [hq] at h
      refine Nat.le_trans ?_ (stepP_le h)
      unfold stepP at hq
      dsimp only at hq
      split at hq
      · split at hq
        · cases hq
        · split at hq
          · split at hq
            · cases hq
            · cases hq
              rw [List.length_append]
              exact Nat.le_add_right _ _
          · cases hq
            exact Nat.le_refl _
      · cases hq
theorem facesFrom_none {fu : Nat} : ∀ (l : List (List Int)) (i : Nat), facesFrom fu i l none = none
  | [], _ => rfl
  | ns :: r, i => by
    unfold facesFrom
    rw [stepP_none]
    exact facesFrom_none r (i + 1)
theorem facesFrom_le {fu : Nat} : ∀ {l : List (List Int)} {i : Nat} {q r : FSt}, facesFrom fu i l (some q) = some r → q.2.length ≤ r.2.length
  | [], _, q, r, h => by cases h; exact Nat.le_refl _
  | ns :: l, i, q, r, h => by
    unfold facesFrom at h
    cases hq : (srt ns).foldl (stepP fu ((i : Int) + 1)) (some q) with
    | none => rw [hq, facesFrom_none] at h; cases h
    | some q2 =>
      rw [hq] at h
      exact Nat.le_trans (stepP_le hq) (facesFrom_le h)
/-- all but the dicts at as and the list at F stays -/
def KeepD (as : List Addr) (F : Addr) (A B : Hp) : Prop := ∀ b o, b ∉ as → b ≠ F → A b = some o → B b = some o
theorem KeepD.of {as : List Addr} {F : Addr} {A B : Hp} (e : Evl.Ex A B) : KeepD as F A B := fun b o _ _ h => e b o h
theorem KeepD.trans {as : List Addr} {F : Addr} {A B C : Hp} (h : KeepD as F A B) (k : KeepD as F B C) : KeepD as F A C := fun b o h1 h2 h3 => k b o h1 h2 (h b o h1 h2 h3)
/-- what stands in the loops: the dicts, the faces found -/
def FacesSt (H0 : Hp) (l F : Addr) (as : List Addr) (q : FSt) (H' : Hp) : Prop := H' l = some (.lst (as.map V.ref)) ∧ DctAt H' as q.1 ∧ ∃ fa : List Addr, H' F = some (.lst (fa.map V.ref)) ∧ RowsT H' fa q.2 ∧ ∀ a ∈ fa, H0 a = none
theorem scFaces : FnScope ["web", "left", "faces", "at", "turn", "other"] ["web"] (defScope sFaces) := ⟨rfl, rfl, rfl, by decide +kernel, rfl, by decide +kernel, by decide +kernel⟩
def spFaces (C : Addr) : Sp := fun vs H Q _ => ∃ (x : Addr) (ts fs : List (List Int)), vs = [.ref x] ∧ WebAt C H x ts ∧ OkT ts ∧ facesM ts = some fs ∧ fs.length ≤ 50000 ∧ Pure1 H Q fun v H3 => ∃ t, v = .ref t ∧ TT H3 t fs
theorem sn_faces {C : Addr} {H : Hp} {x : Addr} {ts fs : List (List Int)} (h : WebAt C H x ts) (hT : OkT ts) (hf : facesM ts = some fs) (hz : fs.length ≤ 50000) : SpN (spFaces C) [.ref x] H (fun v H3 => ∃ t, v = .ref t ∧ TT H3 t fs) := fun H1 e Q q E =>
  ⟨x, ts, fs, rfl, h.ex e, hT, hf, hz, fun v H2 e2 hv => q v H2 e2 fun H3 _ s3 => hv H3 s3⟩
section
variable {P : Program} {w : World} {K : PySem.W.Frag} {mg : Str → Option Value} {base : Heap}
set_option maxHeartbeats 2000000 in
theorem ok_faces {C f fWW fB fT : Addr} {fd fdWW fdB fdT : FuncData} {k : Nat} (F : Fun K "faces_of" "faces_of" sFaces f fd) (T : TWeb K mg C)
    (FWW : Fun K "want_web" "want_web" sWantWeb fWW fdWW) (GWW : FnOk P w K mg base CX0 k fWW fdWW ["web"] (spWantWeb C)) (bWW : Binds K fdWW ["web"] []) (gWW : mg "want_web" = some (.ref fWW))
    (FB : Fun K "places_behind" "places_behind" sBehind fB fdB) (GB : FnOk P w K mg base CX0 k fB fdB ["web"] (spBehind C)) (bB : Binds K fdB ["web"] []) (gB : mg "places_behind" = some (.ref fB))
    (FT : Fun K "_taken_round" "_taken_round" sTaken fT fdT) (GT : FnOk P w K mg base CX0 k fT fdT ["left", "one", "other"] spTaken) (bT : Binds K fdT ["left", "one", "other"] []) (gT : mg "_taken_round" = some (.ref fT))
    (mtup : mg "tuple" = none) (menum : mg "enumerate" = none) (msort : mg "sorted" = none) :
    FnOk P w K mg base CX0 (k + 1) f fd ["web"] (spFaces C) := by
  refine F.ok scFaces (fun vs H Q E h => ?_) (fun cdv A outer s H vs Q E hr h => ?_)
  · obtain ⟨x, ts, fs, rfl, _⟩ := h
    rfl
  · obtain ⟨x, ts, fs, rfl, hW, hT, hf, hz, q⟩ := h
    have nd := scFaces.nd
    refine ⟨_, pss_cons (ps_expr (pe_call GWW hr (by rfl) gWW FWW.kp bWW .nil pass0 (pa_cons (pv 0) pa_nil)))
      (pss_cons (ps_if (pt_cmpR op_eq (pe_fld (pv 0) rfl) pe_int (nomark _)) (pss_one (ps_ret (pe_tup (pa_cons (pe_tup pa_nil) pa_nil)))) pss_nil)
      (pss_cons (ps_set (i := 1) nd rfl (.inl rfl) (pe_call GB hr (by rfl) gB FB.kp bB .nil pass0 (pa_cons (pv 0) pa_nil)))
      (pss_cons (ps_set (i := 2) nd rfl (.inl rfl) (pe_lst pa_nil))
      (pss_cons (ps_for PassesOwn.never rfl (pi_enumT (by rfl) menum (pa_cons (pe_fld (pv 0) rfl) pa_nil)) (pg_tup (by rfl) (pgs_cons (pg_name (i := 3) nd rfl (Or.inl rfl)) (pgs_cons (pg_name (i := 4) nd rfl (Or.inl rfl)) pgs_nil)))
        (pss_one (ps_for PassesOwn.never rfl (pi_list (pe_callB cr_sortedU (by rfl) msort (by decide +kernel) (pa_cons (pv 4) pa_nil))) (pg_name (i := 5) nd rfl (Or.inl rfl))
          (pss_one (ps_if (pt_cmp (pc_din (hu_of hr) (pe_op op_add (pv 3) pe_int) (pe_ix ix_list (pv 1) (pe_op op_sub (pv 5) pe_int) (fun _ _ => rfl))))
            (pss_one (ps_expr (pe_bm PySem.F.plainAttrs_list PySem.F.slot_list_append PySem.F.type_list_append mt_append (pv 2) (pa_cons (pe_call GT hr (by rfl) gT FT.kp bT .nil pass0 (pa_cons (pv 1) (pa_cons (pe_op op_add (pv 3) pe_int) (pa_cons (pv 5) pa_nil)))) pa_nil)))) pss_nil)))))
      (pss_one (ps_ret (pe_callTy call_tuple_of (by rfl) mtup (by decide +kernel) (pa_cons (pv 2) pa_nil)))))))), ?_⟩
    obtain ⟨dx, t, ti, h1, h2, h3⟩ := id hW
    refine Evl.q_drop (Evl.ev_call (Evl.ea_cons (Evl.ev_var rfl) Evl.ea_nil) (spv_wantWeb hW)) fun H1 e1 => ?_
    refine Evl.q_when (b := decide (ts.length = 1)) (Evl.et_is (Evl.et_test (Evl.ev_op (ev_fld (Evl.ev_var rfl) (e1 _ _ h1) T.cl T.nM (wf_m _ _ _)) Evl.ev_c (Evl.rv_eq rfl))) (decide_eq_decide.mpr ⟨fun z => by have := V.int.inj z; omega, fun z => by rw [z] <;> rfl⟩)) (fun hb H2 e2 => ?_) (fun hb H2 e2 => ?_)
    · have hl1 : ts.length = 1 := of_decide_eq_true hb
      unfold facesM at hf
      rw [if_pos hl1] at hf
      cases hf
      refine ⟨Nat.zero_le _, fun p hp => ⟨by show 1 ≤ sizeLine; decide, fun t2 ht2 => ?_⟩⟩
      have e02 := e1.trans e2
      have ept : p ≠ t2 := fun z => by rw [← z, upd_same] at ht2; cases ht2
      have n2 : H2 t2 = none := by
        rw [upd_ne ept.symm] at ht2
        exact ht2
      refine q _ _ ((e02.trans (Evl.Ex.new hp)).trans (Evl.Ex.new ht2)) fun H3 s3 => ⟨t2, rfl, [p], s3 _ _ (Evl.fresh_back e02 n2) upd_same, rfl, fun i a ns ha hn => ?_⟩
      cases i with
      | zero =>
        cases ha
        cases hn
        exact s3 _ _ (Evl.fresh_back e02 hp) (by rw [upd_ne ept, upd_same]; rfl)
      | succ i => simp at ha
    · have hl1 : ¬ ts.length = 1 := of_decide_eq_false hb
      unfold facesM at hf
      rw [if_neg hl1] at hf
      cases hff : facesFrom 400 0 ts (some (ts.map behindOf, [])) with
      | none => rw [hff] at hf; cases hf
      | some r =>
        rw [hff] at hf
        cases hf
        obtain ⟨dF, fF⟩ := r
        have e02 := e1.trans e2
        -- left
        refine ⟨_, rfl, x, ts, rfl, hW.ex e02, hT, fun l as H3 hl e3 h3l hD3 hn3 => ?_⟩
        refine Evl.q_asgL (xs := []) (Evl.el_lst Evl.ea_nil (Nat.zero_le _)) fun fa H4 hfa e4 h4 => ?_
        have e04 : Evl.Ex H H4 := (e02.trans e3).trans e4
        have hasN : ∀ a ∈ as, H a = none := fun a ha => Evl.fresh_back e02 (hn3 a ha)
        have hasS : ∀ a ∈ as, ∃ d : Dct, H3 a = some (.dK (enc d)) := fun a ha => by
          obtain ⟨i, hi, rfl⟩ := List.mem_iff_getElem.mp ha
          exact ⟨_, hD3.2.2 i _ _ (List.getElem?_eq_getElem hi) (List.getElem?_eq_getElem (hD3.1 ▸ hi))⟩
        have fas : fa ∉ as := fun z => by
          obtain ⟨d, h⟩ := hasS fa z
          rw [hfa] at h
          cases h
        have las : l ∉ as := fun z => by
          obtain ⟨d, h⟩ := hasS l z
          rw [h3l] at h
          cases h
        have lfa : l ≠ fa := ne_of_none h3l hfa
        have nfa : H fa = none := Evl.fresh_back (e02.trans e3) hfa
        have exK : ∀ {A : Hp}, KeepD as fa H4 A → Evl.Ex H A := fun hk b o h => hk b o (fun z => by rw [hasN b z] at h; cases h) (fun z => by rw [z, nfa] at h; cases h) (e04 _ _ h)
        have snK : ∀ {A B C : Hp}, Evl.Ex H4 A → KeepD as fa B C → Since A B C := fun ex hk b o hn h => hk b o (fun z => by
          obtain ⟨d, hd⟩ := hasS b z
          rw [ex _ _ (e4 _ _ hd)] at hn
          cases hn) (fun z => by rw [z, ex _ _ h4] at hn; cases hn) h
        obtain ⟨bs, hb2, hbl, hrow⟩ := h2
        have hmap : (bs.map V.ref).length = ts.length := by rw [List.length_map, hbl]
        have lift : ∀ {q : FSt} {A B : Hp}, FacesSt H l fa as q A → Evl.Ex A B → FacesSt H l fa as q B := fun {q A B} p e => by
          obtain ⟨p1, p2, ga, p3, p4, p5⟩ := p
          exact ⟨e _ _ p1, p2.keep fun a _ o h => e _ _ h, ga, e _ _ p3, p4.ex e, p5⟩
        refine q_forI (B := H) (ei_enumT (Evl.ea_cons (ev_fld (Evl.ev_var rfl) h1 T.cl T.nT (wf_t _ _ _)) Evl.ea_nil) (Evl.st_of hb2)) aims_enum e04
          (fun H5 i σ' H' => ∃ (y3 y4 y5 : Option V) (q : FSt), σ' = [some (.ref x), some (.ref l), some (.ref fa), y3, y4, y5] ∧ facesFrom 400 i (ts.drop i) (some q) = some (dF, fF) ∧ FacesSt H l fa as q H' ∧ KeepD as fa H5 H') (fun H5 e5 => ?_) (fun H5 i σ' H' e5 hi p => ?_) (fun H5 i σ' H' H'' e5 hi p e6 => ?_) (fun H5 σ' H' e5 p => ?_)
        · exact ⟨_, _, _, _, rfl, hff, ⟨e5 _ _ (e4 _ _ h3l), hD3.keep fun a _ o h => e5 _ _ (e4 _ _ h), [], e5 _ _ h4, ⟨rfl, fun i a ns h => by simp at h⟩, fun a h => (nomatch h)⟩, fun _ _ _ _ h => h⟩
        · obtain ⟨y3, y4, y5, q, rfl, p1, p2, p3⟩ := p
          exact ⟨exK ((KeepD.of e5).trans p3), snK (Evl.Ex.refl H4) p3⟩
        · obtain ⟨y3, y4, y5, q0, rfl, p1, p2, p3⟩ := p
          obtain ⟨a, ns, ha, hn⟩ := both_at hbl (show i < bs.length by rw [List.length_map] at hi; exact hi)
          have hat := hrow i a ns ha hn
          have hdr : ts.drop i = ns :: ts.drop (i + 1) := List.drop_eq_getElem_cons (List.getElem?_eq_some_iff.mp hn).1 |>.trans (by rw [(List.getElem?_eq_some_iff.mp hn).2])
          rw [hdr] at p1
          unfold facesFrom at p1
          cases hqr : (srt ns).foldl (stepP 400 ((i : Int) + 1)) (some q0) with
          | none => rw [hqr, facesFrom_none] at p1; cases p1
          | some qr =>
            rw [hqr] at p1
            have k6 : KeepD as fa H5 H'' := p3.trans (KeepD.of e6)
            have e46 : KeepD as fa H4 H'' := (KeepD.of e5).trans k6
            have hasS'' : ∀ a ∈ as, ∃ o, H'' a = some o := fun a ha => by
              obtain ⟨j, hj, rfl⟩ := List.mem_iff_getElem.mp ha
              have := p2.2.1
              exact ⟨_, e6 _ _ (this.2.2 j _ _ (List.getElem?_eq_getElem hj) (List.getElem?_eq_getElem (this.1 ▸ hj)))⟩
            have hfa'' : ∃ o, H'' fa = some o := by
              obtain ⟨_, _, ga, p6, _⟩ := p2
              exact ⟨_, e6 _ _ p6⟩
            refine s_forI (B := H) (ei_listN (el_sorted (Evl.ev_is (Evl.ev_var rfl) (refs_getD ha)) (.inr (Evl.st_of hat)))) aims_at (exK e46)
              (fun H6 j σ2 Hx => ∃ (y5 : Option V) (q : FSt), σ2 = [some (.ref x), some (.ref l), some (.ref fa), some (.int (i : Nat)), some ((bs.map V.ref).getD i .non), y5] ∧ ((srt ns).drop j).foldl (stepP 400 ((i : Int) + 1)) (some q) = some qr ∧ FacesSt H l fa as q Hx ∧ KeepD as fa H5 Hx ∧ KeepD as fa H6 Hx) (fun H6 e7 => ?_) (fun H6 j σ2 Hx e7 hj p => ?_) (fun H6 j σ2 Hx Hy e7 hj p e8 => ?_) (fun H6 σ2 Hx e7 p => ?_)
            · exact ⟨_, q0, rfl, hqr, lift (lift p2 e6) e7, k6.trans (KeepD.of e7), fun _ _ _ _ h => h⟩
            · obtain ⟨y5, q1, rfl, r1, r2, r3, r4⟩ := p
              refine ⟨exK ((KeepD.of e5).trans r3), fun b o hn h => r4 b o (fun z => ?_) (fun z => ?_) h⟩
              · obtain ⟨o', h'⟩ := hasS'' b z
                rw [h'] at hn
                cases hn
              · obtain ⟨o', h'⟩ := hfa''
                rw [z, h'] at hn
                cases hn
            · obtain ⟨y5, q1, rfl, r1, r2, r3, r4⟩ := p
              have hj' : j < (srt ns).length := by rw [List.length_map] at hj; exact hj
              have hdr2 : (srt ns).drop j = (srt ns)[j] :: (srt ns).drop (j + 1) := List.drop_eq_getElem_cons hj'
              have ho : ((srt ns).map V.int).getD j .non = .int (srt ns)[j] := by rw [ints_getD hj', List.getD_eq_getElem?_getD, List.getElem?_eq_getElem hj'] <;> rfl
              rw [hdr2, List.foldl_cons] at r1
              generalize (srt ns)[j] = o at r1 ho
              cases hst : stepP 400 ((i : Int) + 1) (some q1) o with
              | none => rw [hst, stepP_none] at r1; cases r1
              | some q2 =>
                rw [hst] at r1
                have le2 := stepP_le r1
                have le3 := facesFrom_le p1
                unfold stepP at hst
                dsimp only at hst
                by_cases o1 : 1 ≤ o
                · rw [if_pos o1] at hst
                  cases hd1 : q1.1[(o - 1).toNat]? with
                  | none => rw [hd1] at hst; cases hst
                  | some d =>
                    rw [hd1] at hst
                    dsimp only at hst
                    have r2y := lift r2 e8
                    obtain ⟨s1, s2, ga, s3, s4, s5⟩ := r2y
                    have hix : (o - 1).toNat < as.length := by rw [s2.1]; exact (List.getElem?_eq_some_iff.mp hd1).1
                    have haa : as[(o - 1).toNat]? = some as[(o - 1).toNat] := List.getElem?_eq_getElem hix
                    have hdd := s2.2.2 _ _ _ haa hd1
                    generalize as[(o - 1).toNat] = A0 at haa hdd
                    have at0 : atI (as.map V.ref) (o - 1) = some (.ref A0) := by
                      have en : o - 1 = ((o - 1).toNat : Int) := by omega
                      rw [en]
                      exact atI_nat (by rw [List.getElem?_map, haa]; rfl)
                    have ev0 : Evl.Ev (tDIn (tOp (rI0 fun i j => V.int (i + j)) (tVar 3) (tC (.int 1))) (tOp (rIxL K) (tVar 1) (tOp (rI0 fun i j => V.int (i - j)) (tVar 5) (tC (.int 1))))) ([some (.ref x), some (.ref l), some (.ref fa), some (.int (i : Nat)), some ((bs.map V.ref).getD i .non), some (((srt ns).map V.int).getD j .non)] : L2.St) Hy (.bl (look d ((i : Int) + 1)).isSome) :=
                      Evl.ev_is (ev_din (Evl.ev_op (Evl.ev_var rfl) Evl.ev_c Evl.rv_I0) (Evl.ev_op (Evl.ev_var rfl) (Evl.ev_op (Evl.ev_is (Evl.ev_var rfl) ho) Evl.ev_c Evl.rv_I0) (Evl.rv_ixL (Evl.sq_of s1) at0)) hdd) (by rw [val_enc]; cases look d ((i : Int) + 1) <;> rfl)
                    refine Evl.s_when (b := (look d ((i : Int) + 1)).isSome) (fun Hz ez Q' q' => ev0 Hz ez _ fun Hz2 ez2 => ⟨_, rfl, q' Hz2 ez2⟩) (fun hb Hz ez => ?_) (fun hb Hz ez => ?_)
                    · rw [if_pos hb] at hst
                      cases hwk : walk 400 q1.1 ((i : Int) + 1) o with
                      | none => rw [hwk] at hst; cases hst
                      | some r =>
                        rw [hwk] at hst
                        obtain ⟨face, es⟩ := r
                        cases hst
                        have s2z := s2.keep fun a _ o h => ez a o h
                        refine ⟨_, rfl, .inl ⟨rfl, _, Evl.sq_of (ez _ _ s3)⟩, _, rfl, _, rfl, _, _, rfl, rfl, _, rfl, ?_⟩
                        refine ⟨l, (i : Int) + 1, o, as, q1.1, 400, face, es, by rw [ho] <;> rfl, ez _ _ s1, s2z, hwk, by decide, fun p H7 hp hk7 hD7 h7 => ?_⟩
                        have pfa : p ≠ fa := fun z => by rw [z, ez _ _ s3] at hp; cases hp
                        have hfl : ga.length < 90000 := by
                          rw [s4.1]
                          have : (q1.2 ++ [face]).length ≤ fF.length := Nat.le_trans le2 le3
                          rw [List.length_append] at this
                          have hz' : fF.length ≤ 50000 := hz
                          omega
                        refine ⟨fa, ga.map V.ref, .ref p, rfl, rfl, hk7 _ _ fas (ez _ _ s3), Evl.sz_lt (by rw [List.length_map]; omega), ?_⟩
                        have keep7 : KeepD as fa Hx (upd H7 fa (.lst (ga.map V.ref ++ [.ref p]))) := fun b o h1 h2 h => by
                          rw [upd_ne h2]
                          exact hk7 b o h1 (ez _ _ (e8 _ _ h))
                        refine ⟨_, (es, q1.2 ++ [face]), rfl, r1, ⟨?_, ?_, ga ++ [p], ?_, ?_, ?_⟩, r3.trans keep7, r4.trans keep7⟩
                        · rw [upd_ne lfa]
                          exact hk7 _ _ las (ez _ _ s1)
                        · exact hD7.keep fun a ha o h => by
                            rw [upd_ne (fun z : a = fa => fas (by rw [← z]; exact ha))]
                            exact h
                        · rw [upd_same, List.map_append]
                          rfl
                        · refine ⟨by rw [List.length_append, List.length_append, s4.1] <;> rfl, fun j2 a2 ns2 ha2 hn2 => ?_⟩
                          have nf : ∀ {c : Addr} {o : HO}, Hz c = some o → (∃ xs, o = .tup xs) → c ≠ fa := fun {c o} h ⟨xs, z⟩ w => by
                            subst z
                            rw [w, ez _ _ s3] at h
                            cases h
                          rcases Nat.lt_or_ge j2 ga.length with hj2 | hj2
                          · rw [List.getElem?_append_left hj2] at ha2
                            rw [List.getElem?_append_left (by rw [← s4.1]; exact hj2)] at hn2
                            have := ez _ _ (s4.2 j2 a2 ns2 ha2 hn2)
                            rw [upd_ne (nf this ⟨_, rfl⟩)]
                            refine hk7 _ _ (fun z => ?_) this
                            obtain ⟨j3, hj3, e3'⟩ := List.mem_iff_getElem.mp z
                            have := s2z.2.2 j3 a2 _ (by rw [List.getElem?_eq_getElem hj3, e3']) (List.getElem?_eq_getElem (s2z.1 ▸ hj3))
                            rw [ez _ _ (s4.2 j2 a2 ns2 ha2 hn2)] at this
                            cases this
                          · rw [List.getElem?_append_right hj2] at ha2
                            rw [List.getElem?_append_right (by rw [← s4.1]; exact hj2), ← s4.1] at hn2
                            have e0 : j2 - ga.length = 0 := by
                              have := (List.getElem?_eq_some_iff.mp ha2).1
                              simp at this
                              omega
                            rw [e0] at ha2 hn2
                            cases ha2
                            cases hn2
                            rw [upd_ne pfa]
                            exact h7
                        · intro a ha
                          rcases List.mem_append.mp ha with h | h
                          · exact s5 a h
                          · rw [List.mem_singleton.mp h]
                            cases hq : H p with
                            | none => rfl
                            | some o' =>
                              have := ez _ _ (e8 _ _ (exK ((KeepD.of e5).trans r3) _ _ hq))
                              rw [hp] at this
                              cases this
                    · rw [if_neg (by rw [hb]; decide)] at hst
                      cases hst
                      exact ⟨_, q1, rfl, r1, lift ⟨s1, s2, ga, s3, s4, s5⟩ ez, r3.trans (KeepD.of (e8.trans ez)), r4.trans (KeepD.of (e8.trans ez))⟩
                · rw [if_neg o1] at hst
                  cases hst
            · obtain ⟨y5, q1, rfl, r1, r2, r3, r4⟩ := p
              rw [List.length_map, List.drop_length] at r1
              cases r1
              exact ⟨_, _, _, qr, rfl, p1, r2, r3⟩
        · obtain ⟨y3, y4, y5, q0, rfl, p1, p2, p3⟩ := p
          rw [hmap, List.drop_length] at p1
          cases p1
          obtain ⟨s1, s2, ga, s3, s4, s5⟩ := p2
          refine ⟨_, rfl, fa, _, rfl, .inl ⟨Evl.sq_of s3, fun t2 ht2 => ?_⟩⟩
          have exA : Evl.Ex H H' := exK ((KeepD.of e5).trans p3)
          refine q _ _ (exA.trans (Evl.Ex.new ht2)) fun H6 s6 => ⟨t2, rfl, ga, s6 _ _ (Evl.fresh_back exA ht2) upd_same, s4.1, fun i a ns ha hn => ?_⟩
          have := s4.2 i a ns ha hn
          refine s6 _ _ (s5 a (List.mem_of_getElem? ha)) ?_
          rw [upd_ne (ne_of_none this ht2)]
          exact this
end
end Tl
end S_Ym
section S_Yn
namespace Tl
open PySem PySem.Spec PyProof.Rows L2
/-! ### the places to which one comes -/
abbrev RSt := List Int × List Int
def reach1 (q : RSt) (o : Int) : RSt := if o ∈ q.1 then q else (q.1 ++ [o], q.2 ++ [o])
def reach (ts : List (List Int)) : Nat → RSt → Option (List Int)
  | 0, _ => none
  | f + 1, q => match q.2.getLast? with
    | none => some q.1
    | some h => if 1 ≤ h then match ts[(h - 1).toNat]? with
        | none => none
        | some ns => reach ts f (ns.foldl reach1 (q.1, q.2.dropLast))
      else none
theorem reach1_le (q : RSt) (o : Int) : q.1.length ≤ (reach1 q o).1.length ∧ (q.2.length ≤ q.1.length → (reach1 q o).2.length ≤ (reach1 q o).1.length) := by
  unfold reach1
  split
  · exact ⟨Nat.le_refl _, id⟩
  · exact ⟨by simp, fun h => by simp; exact h⟩
theorem reachs_le : ∀ (ns : List Int) (q : RSt), q.1.length ≤ (ns.foldl reach1 q).1.length ∧ (q.2.length ≤ q.1.length → (ns.foldl reach1 q).2.length ≤ (ns.foldl reach1 q).1.length)
  | [], q => ⟨Nat.le_refl _, id⟩
  | o :: r, q => by
    obtain ⟨a1, a2⟩ := reach1_le q o
    obtain ⟨b1, b2⟩ := reachs_le r (reach1 q o)
    exact ⟨Nat.le_trans a1 b1, fun h => b2 (a2 h)⟩
theorem reach_le {ts : List (List Int)} : ∀ {f : Nat} {q : RSt} {r : List Int}, reach ts f q = some r → q.1.length ≤ r.length
  | 0, _, _, h => by cases h
  | f + 1, q, r, h => by
    unfold reach at h
    split at h
    · cases h
      exact Nat.le_refl _
    · split at h
      · split at h
        · cases h
        · exact Nat.le_trans (reachs_le _ (q.1, q.2.dropLast)).1 (reach_le h)
      · cases h
def dE (fd : List Int) : List (L2.Key × V) := fd.map fun k => (.inl k, .bl true)
theorem val_dE (fd : List Int) (k : Int) : (valV (dE fd) (.inl k)).isSome = decide (k ∈ fd) := by
  unfold dE
  induction fd with
  | nil => rfl
  | cons a r ih =>
    rw [List.map_cons]
    by_cases e : a = k
    · rw [valV_pos (by show (Sum.inl a : L2.Key) = .inl k; rw [e]), decide_eq_true (by rw [e]; exact List.mem_cons_self)]
      rfl
    · rw [valV_neg (by show ¬ (Sum.inl a : L2.Key) = .inl k; exact fun z => e (Sum.inl.inj z)), ih]
      exact decide_eq_decide.mpr ⟨fun h => List.mem_cons_of_mem _ h, fun h => (List.mem_cons.mp h).elim (fun z => absurd z.symm e) id⟩
theorem put_dE {fd : List Int} {k : Int} (h : k ∉ fd) : putK (dE fd) (.inl k) (.bl true) = dE (fd ++ [k]) := by
  have hv : valV (dE fd) (.inl k) = none := by
    cases hq : valV (dE fd) (.inl k) with
    | none => rfl
    | some v =>
      have := val_dE fd k
      rw [hq, decide_eq_false h] at this
      cases this
  rw [putK_new _ hv]
  unfold dE
  rw [List.map_append]
  rfl
theorem scFrom : FnScope ["web", "place", "found", "waiting", "here", "other"] ["web", "place"] (defScope sFrom) := ⟨rfl, rfl, rfl, by decide +kernel, rfl, by decide +kernel, by decide +kernel⟩
def spFrom (C : Addr) : Sp := fun vs H Q _ => ∃ (x : Addr) (p : Int) (ts : List (List Int)) (fd : List Int) (fu : Nat), vs = [.ref x, .int p] ∧ WebAt C H x ts ∧ reach ts fu ([p], [p]) = some fd ∧ fd.length < 64 ∧ Pure1 H Q fun v H3 => ∃ t, v = .ref t ∧ H3 t = some (.tup ((srt fd).map V.int))
section
variable {P : Program} {w : World} {K : PySem.W.Frag} {mg : Str → Option Value} {base : Heap}
set_option maxHeartbeats 2000000 in
theorem ok_from {C f : Addr} {fd : FuncData} {k : Nat} (F : Fun K "places_from" "places_from" sFrom f fd) (T : TWeb K mg C) (mtup : mg "tuple" = none) (msort : mg "sorted" = none) :
    FnOk P w K mg base CX0 (k + 1) f fd ["web", "place"] (spFrom C) := by
  refine F.ok scFrom (fun vs H Q E h => ?_) (fun cdv A outer s H vs Q E hr h => ?_)
  · obtain ⟨x, p, ts, fdF, fu, rfl, _⟩ := h
    rfl
  · obtain ⟨x, p, ts, fdF, fu, rfl, hW, hre, h64, q⟩ := h
    have nd := scFrom.nd
    refine ⟨_, pss_cons (ps_set (i := 2) nd rfl (.inl rfl) (pe_disp (pps_cons (pv 1) pe_bl pps_nil) (by rfl) (by rfl) (fun z => by cases z) (by decide)))
      (pss_cons (ps_set (i := 3) nd rfl (.inl rfl) (pe_lst (pa_cons (pv 1) pa_nil)))
      (pss_cons (ps_while PassesOwn.never (pt_truth (pv 3) (by intro _; rfl))
        (pss_cons (ps_set (i := 4) nd rfl (.inl rfl) (pe_bm0 PySem.F.plainAttrs_list PySem.F.slot_list_pop PySem.F.type_list_pop mt_pop (pv 3)))
        (pss_one (ps_for PassesOwn.never rfl (pi_tup (pe_ix ix_tup (pe_fld (pv 0) rfl) (pe_op op_sub (pv 4) pe_int) (fun _ _ => rfl))) (pg_name (i := 5) nd rfl (Or.inl rfl))
          (pss_one (ps_if (pt_cmp (pc_dnotin (hu_of hr) (pv 5) (pv 2)))
            (pss_cons (ps_dput (hu_of hr) (pv 2) (pv 5) pe_bl rfl)
            (pss_one (ps_expr (pe_bm PySem.F.plainAttrs_list PySem.F.slot_list_append PySem.F.type_list_append mt_append (pv 3) (pa_cons (pv 5) pa_nil))))) pss_nil))))))
      (pss_one (ps_ret (pe_callTy call_tuple_of (by rfl) mtup (by decide +kernel) (pa_cons (pe_callB (call_sortedDI rfl) (by rfl) msort (by decide +kernel) (pa_cons (pv 2) pa_nil)) pa_nil)))))), ?_⟩
    obtain ⟨dx, t, ti, h1, ⟨bs, hb2, hbl, hrow⟩, h3⟩ := id hW
    -- found
    intro Fd hFd
    refine ⟨_, rfl, upd_same, [(.inl p, .bl true)], rfl, (by show 1 ≤ 15; omega), ?_⟩
    have e1 : Evl.Ex H (upd (upd H Fd (.dK [])) Fd (.dK (mergeK [] [(.inl p, .bl true)]))) := ((Evl.Ex.refl H).mut hFd).mut hFd
    have hF1 : (upd (upd H Fd (.dK [])) Fd (.dK (mergeK [] [(.inl p, .bl true)]))) Fd = some (.dK (dE [p])) := upd_same
    generalize upd (upd H Fd (.dK [])) Fd (.dK (mergeK [] [(.inl p, .bl true)])) = H1 at e1 hF1
    -- waiting
    refine Evl.q_asgL (xs := [.int p]) (Evl.el_lst (Evl.ea_cons (Evl.ev_var rfl) Evl.ea_nil) (by show 1 ≤ 100000; omega)) fun Wt H2 hWt e2 h2 => ?_
    have e02 := e1.trans e2
    have fw : Fd ≠ Wt := ne_of_none hF1 hWt
    have nWt : H Wt = none := Evl.fresh_back e1 hWt
    have mut2 : ∀ {A : Hp} {o : HO}, Evl.Ex H A → Evl.Ex H (upd A Fd o) := fun e => e.mut hFd
    have mut3 : ∀ {A : Hp} {o : HO}, Evl.Ex H A → Evl.Ex H (upd A Wt o) := fun e => e.mut nWt
    refine Evl.q_while (fun m σ' H' => ∃ (y4 y5 : Option V) (r : RSt), σ' = [some (.ref x), some (.int p), some (.ref Fd), some (.ref Wt), y4, y5] ∧ reach ts m r = some fdF ∧ r.2.length ≤ r.1.length ∧ H' Fd = some (.dK (dE r.1)) ∧ H' Wt = some (.lst (r.2.map V.int)) ∧ Evl.Ex H H') fu ⟨_, _, ([p], [p]), rfl, hre, Nat.le_refl _, e2 _ _ hF1, h2, e02⟩ ?_
    rintro m σ' H' ⟨y4, y5, r, rfl, hm, hlen, hF', hW', e'⟩
    cases m with
    | zero => cases hm
    | succ m =>
      have rl := reach_le hm
      unfold reach at hm
      refine ⟨!(r.2.map V.int).isEmpty, fun H3 e3 Q3 q3 => ⟨_, rfl, _, .inl ⟨_, Evl.sq_of (e3 _ _ hW'), rfl⟩, q3 H3 (Evl.Ex.refl H3)⟩, fun hb H3 e3 => ?_, fun hb H3 e3 => ?_⟩
      · obtain ⟨fd, wt⟩ := r
        cases hgl : wt.getLast? with
        | none =>
          have := List.getLast?_eq_none_iff.mp hgl
          subst this
          cases hb
        | some hh =>
          rw [hgl] at hm
          dsimp only at hm rl
          by_cases hh1 : 1 ≤ hh
          · rw [if_pos hh1] at hm
            cases hts : ts[(hh - 1).toNat]? with
            | none => rw [hts] at hm; cases hm
            | some ns =>
              rw [hts] at hm
              dsimp only at hm
              refine ⟨fun σ2 H2 => ∃ m', m' < m + 1 ∧ ∃ (y4 y5 : Option V) (r : RSt), σ2 = [some (.ref x), some (.int p), some (.ref Fd), some (.ref Wt), y4, y5] ∧ reach ts m' r = some fdF ∧ r.2.length ≤ r.1.length ∧ H2 Fd = some (.dK (dE r.1)) ∧ H2 Wt = some (.lst (r.2.map V.int)) ∧ Evl.Ex H H2, fun _ _ h => h, ?_⟩
              have hwl : (wt.map V.int)[(wt.map V.int).length - 1]? = some (.int hh) := by
                rw [List.length_map, List.getElem?_map]
                rw [List.getLast?_eq_getElem?] at hgl
                rw [hgl]
                rfl
              refine ⟨_, rfl, .inl ⟨rfl, _, Evl.sq_of (e3 _ _ hW')⟩, Wt, _, _, rfl, rfl, e3 _ _ hW', hwl, ?_⟩
              have hdl : (wt.map V.int).dropLast = wt.dropLast.map V.int := List.map_dropLast.symm
              rw [hdl]
              have e4 : Evl.Ex H (upd H3 Wt (.lst (wt.dropLast.map V.int))) := mut3 (e'.trans e3)
              have hF4 : (upd H3 Wt (.lst (wt.dropLast.map V.int))) Fd = some (.dK (dE fd)) := by rw [upd_ne fw]; exact e3 _ _ hF'
              have hW4 : (upd H3 Wt (.lst (wt.dropLast.map V.int))) Wt = some (.lst (wt.dropLast.map V.int)) := upd_same
              generalize upd H3 Wt (.lst (wt.dropLast.map V.int)) = H4 at e4 hF4 hW4 ⊢
              have hi : (hh - 1).toNat < bs.length := by rw [hbl]; exact (List.getElem?_eq_some_iff.mp hts).1
              obtain ⟨a, ha⟩ : ∃ a, bs[(hh - 1).toNat]? = some a := ⟨_, List.getElem?_eq_getElem hi⟩
              have hat := hrow _ a ns ha hts
              have at0 : atI (bs.map V.ref) (hh - 1) = some (.ref a) := by
                have en : hh - 1 = ((hh - 1).toNat : Int) := by omega
                rw [en]
                exact atI_nat (by rw [List.getElem?_map, ha]; rfl)
              have sumle := reachs_le ns (fd, wt.dropLast)
              have dll : wt.dropLast.length ≤ fd.length := by
                rw [List.length_dropLast]
                have : wt.length ≤ fd.length := hlen
                omega
              have finl := reach_le hm
              refine s_forI (B := H) (ei_tup (Evl.ev_op (ev_fld (Evl.ev_var rfl) h1 T.cl T.nT (wf_t _ _ _)) (Evl.ev_op (Evl.ev_var rfl) Evl.ev_c Evl.rv_I0) (Evl.rv_ixT (Evl.st_of hb2) at0)) (Evl.st_of hat)) aims_at e4
                (fun H5 j σ2 Hx => ∃ (y5 : Option V) (r : RSt), σ2 = [some (.ref x), some (.int p), some (.ref Fd), some (.ref Wt), some (.int hh), y5] ∧ (ns.drop j).foldl reach1 r = ns.foldl reach1 (fd, wt.dropLast) ∧ r.2.length ≤ r.1.length ∧ Hx Fd = some (.dK (dE r.1)) ∧ Hx Wt = some (.lst (r.2.map V.int)) ∧ Evl.Ex H Hx ∧ ∀ b o, b ≠ Fd → b ≠ Wt → H5 b = some o → Hx b = some o)
                (fun H5 e5 => ⟨_, (fd, wt.dropLast), rfl, rfl, dll, e5 _ _ hF4, e5 _ _ hW4, e4.trans e5, fun _ _ _ _ h => h⟩) (fun H5 j σ2 Hx e5 hj pp => ?_) (fun H5 j σ2 Hx Hy e5 hj pp e6 => ?_) (fun H5 σ2 Hx e5 pp => ?_)
              · obtain ⟨y5, r, rfl, r1, r2, r3, r4, r5, r6⟩ := pp
                exact ⟨r5, fun b o hn h => r6 b o (fun z => by rw [z, hF4] at hn; cases hn) (fun z => by rw [z, hW4] at hn; cases hn) h⟩
              · obtain ⟨y5, r, rfl, r1, r2, r3, r4, r5, r6⟩ := pp
                have hj' : j < ns.length := by rw [List.length_map] at hj; exact hj
                have ho : (ns.map V.int).getD j .non = .int ns[j] := by rw [ints_getD hj', List.getD_eq_getElem?_getD, List.getElem?_eq_getElem hj'] <;> rfl
                rw [List.drop_eq_getElem_cons hj', List.foldl_cons] at r1
                generalize ns[j] = o at r1 ho
                have hle : (reach1 r o).1.length < 64 := by
                  have a1 := (reachs_le (ns.drop (j + 1)) (reach1 r o)).1
                  rw [r1] at a1
                  omega
                have hr1 := reach1_le r o
                obtain ⟨f1, w1⟩ := r
                dsimp only at r2 r3 r4 hr1
                have f64 : f1.length < 64 := by omega
                have ev1 : ∀ Hz, Evl.Ex Hy Hz → ∀ Q2 : Bool → Hp → Prop, (∀ H9, Evl.Ex Hz H9 → Q2 (!decide (o ∈ f1)) H9) → tTest (tDNotIn (tVar 5) (tVar 2)) ([some (.ref x), some (.int p), some (.ref Fd), some (.ref Wt), some (.int hh), some ((ns.map V.int).getD j .non)] : L2.St) Hz Q2 := fun Hz ez Q2 q2 =>
                  ⟨_, rfl, _, rfl, Fd, valV (dE f1) (.inl o), rfl, by rw [ho]; exact DGet.k (k := Sum.inl o) (ez _ _ (e6 _ _ r3)), _, rfl, by rw [val_dE]; exact q2 Hz (Evl.Ex.refl Hz)⟩
                refine Evl.s_when (b := !decide (o ∈ f1)) ev1 (fun hb H7 e7 => ?_) (fun hb H7 e7 => ?_)
                · have hno : o ∉ f1 := fun z => by rw [decide_eq_true z] at hb; cases hb
                  unfold reach1 at r1 hle hr1
                  dsimp only at r1 hle hr1
                  rw [if_neg hno] at r1 hle hr1
                  have e67 := e6.trans e7
                  refine ⟨_, rfl, _, rfl, Fd, _, rfl, by rw [ho]; exact DPut.k (k := Sum.inl o) (e67 _ _ r3) (Evl.sz_lt (by unfold dE; rw [List.length_map]; omega)), ?_⟩
                  rw [put_dE hno]
                  refine ⟨_, rfl, .inl ⟨rfl, _, Evl.sq_of (by rw [upd_ne fw.symm]; exact e67 _ _ r4)⟩, _, rfl, Wt, w1.map V.int, _, rfl, rfl, by rw [upd_ne fw.symm]; exact e67 _ _ r4, Evl.sz_lt (by rw [List.length_map]; omega), ?_⟩
                  refine ⟨_, (f1 ++ [o], w1 ++ [o]), rfl, r1, by simp; exact r2, by rw [upd_ne fw, upd_same], by rw [upd_same, ho, List.map_append] <;> rfl, mut3 (mut2 (r5.trans e67)), fun b o2 h1 h2 h => ?_⟩
                  rw [upd_ne h2, upd_ne h1]
                  exact e67 _ _ (r6 b o2 h1 h2 h)
                · have hyes : o ∈ f1 := by
                    cases hd : decide (o ∈ f1) with
                    | true => exact of_decide_eq_true hd
                    | false => rw [hd] at hb; cases hb
                  unfold reach1 at r1
                  dsimp only at r1
                  rw [if_pos hyes] at r1
                  have e67 := e6.trans e7
                  exact ⟨_, (f1, w1), rfl, r1, r2, e67 _ _ r3, e67 _ _ r4, r5.trans e67, fun b o2 h1 h2 h => e67 _ _ (r6 b o2 h1 h2 h)⟩
              · obtain ⟨y5, r, rfl, r1, r2, r3, r4, r5, r6⟩ := pp
                rw [List.length_map, List.drop_length, List.foldl_nil] at r1
                subst r1
                exact ⟨m, Nat.lt_succ_self m, _, _, _, rfl, hm, r2, r3, r4, r5⟩
          · rw [if_neg hh1] at hm
            cases hm
      · obtain ⟨fd, wt⟩ := r
        dsimp only at hb rl hF' hm
        have hwt : wt = [] := by
          cases wt with
          | nil => rfl
          | cons a r => cases hb
        subst hwt
        cases hm
        have hF3 := e3 _ _ hF'
        refine ⟨_, rfl, Fd, dE fdF, fdF, rfl, .inl hF3, by unfold dE; rw [List.map_map] <;> rfl, h64, fun ys pp hp hu hnp => ⟨pp, _, rfl, .inl ⟨Evl.sq_of upd_same, fun t2 ht2 => ?_⟩⟩⟩
        have ept : pp ≠ t2 := fun z => by rw [← z, upd_same] at ht2; cases ht2
        have n2 : H3 t2 = none := by
          rw [upd_ne ept.symm] at ht2
          exact ht2
        have eA := e'.trans e3
        refine q _ _ ((eA.trans (Evl.Ex.new hnp)).trans (Evl.Ex.new ht2)) fun H6 s6 => ⟨t2, rfl, ?_⟩
        rw [s6 t2 _ (Evl.fresh_back eA n2) upd_same, srt_of hp hu]
end
end Tl
end S_Yn
section S_Yo
namespace Tl
open PySem PySem.Spec PyProof.Rows L2
/-! ### an attribute as one of several targets -/
def gFld (K : PySem.W.Frag) (to : TE) (f : Str) : TG := fun v σ H Q => to σ H fun x H1 => ∃ a C dx fs, x = .ref a ∧ H1 a = some (.ins C dx fs) ∧ Cls K C ∧ NoAttr K C f ∧ fs.length < 1000 ∧ Q σ (upd H1 a (.ins C dx (putF f v fs)))
theorem pg_fld {X : Cx} {o : Expr} {to : TE} {f : Str} {pos : Pos} (ho : PE X o to) : PG X (.Attribute o f pos) (gFld X.K to f) := by
  refine ⟨fun pins s σ H v u Q I r h => ?_⟩
  rw [assign_Attribute]
  refine wpAny_bind (wpAny_holding (thn (ho.run pins s σ H _ I h) fun ov s1 ⟨x, H1, I1, r1, a, C, dx, fs, ex, ea, c, n, l, q1⟩ => ?_))
  subst ex
  obtain rfl : ov = Value.ref a := r1
  refine wpAny_bind (wpAny_standAt (wpAny_bind (wpAny_holding (setattr_ok I1 ea c n l r fun s3 I3 => ?_))))
  exact wpAny_release ⟨σ, _, I3, q1⟩
abbrev sPaperI : Stmt := inClass sPaper 0
abbrev sPaperB : Stmt := inClass sPaper 2
abbrev sFlatI : Stmt := inClass sFlat 0
theorem scFixed : FnScope ["value", "item"] ["value"] (defScope sFixed) := ⟨rfl, rfl, rfl, by decide +kernel, rfl, by decide +kernel, by decide +kernel⟩
theorem scPaperI : FnScope ["self", "word", "parts"] ["self", "word", "parts"] (defScope sPaperI) := ⟨rfl, rfl, rfl, by decide +kernel, rfl, by decide +kernel, by decide +kernel⟩
theorem scPaperB : FnScope ["self"] ["self"] (defScope sPaperB) := ⟨rfl, rfl, rfl, by decide +kernel, rfl, by decide +kernel, by decide +kernel⟩
def spFix0 : Sp := fun vs H Q _ => ∃ i : Int, vs = [.int i] ∧ ∀ H1, Evl.Ex H H1 → Q (.int i) H1
theorem spv_fix0 {H : Hp} {i : Int} : Evl.SpV spFix0 [.int i] H (.int i) := fun H1 e Q q E => ⟨i, rfl, q⟩
def spFix1 : Sp := fun vs H Q _ => ∃ (a : Addr) (ns : List Int), vs = [.ref a] ∧ H a = some (.tup (ns.map V.int)) ∧ ns.length ≤ 4000 ∧ ∀ v H1, Evl.Ex H H1 → (∃ t, v = .ref t ∧ H t = none ∧ H1 t = some (.tup (ns.map V.int))) → Q v H1
structure TPap (K : PySem.W.Frag) (C : Addr) : Prop where
  cl : Cls K C
  nW : NoAttr K C "word"
  nP : NoAttr K C "parts"
def spPaper (K : PySem.W.Frag) : Sp := fun vs H Q _ => ∃ (x C dx p : Addr) (w : V) (fs : List (Str × V)) (ns : List Int), vs = [.ref x, w, .ref p] ∧ H x = some (.ins C dx fs) ∧ TPap K C ∧ fs.length < 900 ∧ H p = some (.tup (ns.map V.int)) ∧ ns.length ≤ 4000 ∧
  ∀ t H', (∀ b o, b ≠ x → H b = some o → H' b = some o) → H' x = some (.ins C dx (putF "parts" (.ref t) (putF "word" w fs))) → H' t = some (.tup (ns.map V.int)) → Q .non H'
theorem putF_len (f : Str) (v : V) : ∀ fs : List (Str × V), (putF f v fs).length ≤ fs.length + 1
  | [] => Nat.le_refl _
  | (g, y) :: r => by
    unfold putF
    split
    · simp
    · have := putF_len f v r
      simp
      omega
/-- return f([..]) -/
theorem go_elRet {r : List V → Hp → VK → Prop} {te : TE} {D : Ends} {σ : L2.St} {H : Hp} {xs : List V} (h : Evl.EvL te σ H xs) (k : ∀ p H1, H p = none → Evl.Ex H H1 → H1 p = some (.lst xs) → r [.ref p] H1 D.rt) : tRet (tCB r (tCons te tNil)) D σ H := h H (Evl.Ex.refl H) _ k
section
variable {P : Program} {w : World} {K : PySem.W.Frag} {mg : Str → Option Value} {base : Heap}
theorem ok_fix0 {f fL : Addr} {fd fdL : FuncData} {k : Nat} (F : Fun K "fixed" "fixed" sFixed f fd)
    (FL : Fun K "is_list" "is_list" sList fL fdL) (GL : FnOk P w K mg base CX0 k fL fdL ["value"] (spList K)) (bL : Binds K fdL ["value"] []) (gL : mg "is_list" = some (.ref fL)) : FnOk P w K mg base CX0 (k + 1) f fd ["value"] spFix0 := by
  refine F.ok scFixed (fun vs H Q E h => ?_) (fun cdv A outer s H vs Q E hr h => ?_)
  · obtain ⟨i, rfl, _⟩ := h
    rfl
  · obtain ⟨i, rfl, q⟩ := h
    refine ⟨_, pss_cons (ps_if (pt_val (pe_call GL hr (by rfl) gL FL.kp bL .nil pass0 (pa_cons (pv 0) pa_nil))) (pss_one ps_never) pss_nil) (pss_one (ps_ret (pv 0))), ?_⟩
    refine Evl.q_when (b := false) (Evl.et_is (Evl.et_B (Evl.ev_call (Evl.ea_cons (Evl.ev_var rfl) Evl.ea_nil) (spv_list (.int i)))) (by decide)) (fun z => by cases z) fun _ H1 e1 => ?_
    exact Evl.s_ret (Evl.ev_var rfl) fun H2 e2 => q H2 (e1.trans e2)
theorem ok_fix1 {f fL : Addr} {fd fdL : FuncData} {k : Nat} (F : Fun K "fixed" "fixed" sFixed f fd)
    (FL : Fun K "is_list" "is_list" sList fL fdL) (GL : FnOk P w K mg base CX0 k fL fdL ["value"] (spList K)) (bL : Binds K fdL ["value"] []) (gL : mg "is_list" = some (.ref fL))
    (G0 : FnOk P w K mg base CX0 k f fd ["value"] spFix0) (b0 : Binds K fd ["value"] []) (g0 : mg "fixed" = some (.ref f)) (mtup : mg "tuple" = none) : FnOk P w K mg base CX0 (k + 1) f fd ["value"] spFix1 := by
  refine F.ok scFixed (fun vs H Q E h => ?_) (fun cdv A outer s H vs Q E hr h => ?_)
  · obtain ⟨a, ns, rfl, _⟩ := h
    rfl
  · obtain ⟨a, ns, rfl, ha, hl, q⟩ := h
    have nd := scFixed.nd
    refine ⟨_, pss_cons (ps_if (pt_val (pe_call GL hr (by rfl) gL FL.kp bL .nil pass0 (pa_cons (pv 0) pa_nil))) (pss_one (ps_ret (pe_callTy call_tuple_of (by rfl) mtup (by decide +kernel) (pa_cons
        (pe_lc (own := [("item", 1)]) (g := gName 1) (tt := tYes) rfl nd (pi_tup (pv 0)) (blkOk_by (N := ["value", "item"]) (sc := defScope sFixed) (by decide +kernel)) (fun _ _ _ _ _ => pg_name (i := 1) nd rfl (Or.inl rfl)) (fun _ _ _ _ _ => pts_nil)
          (fun _ _ _ _ _ => pe_call G0 hr (by rfl) g0 F.kp b0 .nil pass0 (pa_cons (pv 1) pa_nil))) pa_nil)))) pss_nil) (pss_one ps_never), ?_⟩
    refine Evl.q_when (b := true) (Evl.et_is (Evl.et_B (Evl.ev_call (Evl.ea_cons (Evl.ev_var rfl) Evl.ea_nil) (spv_list (.tup (Evl.st_of ha))))) (by decide)) (fun _ H1 e1 => ?_) (fun z => by cases z)
    have e0 : (ns.map V.int).length = ns.length := List.length_map ..
    refine go_elRet ?_ fun p H2 hp e2 h2 => ⟨p, _, rfl, .inl ⟨Evl.sq_of h2, fun t ht => q _ _ ((e1.trans e2).trans (Evl.Ex.new ht)) ⟨t, rfl, Evl.fresh_back (e1.trans e2) ht, upd_same⟩⟩⟩
    have hh := el_lcT (K := K) (xs := ns.map V.int) (te := tCall spFix0 [] E0 (tCons (tVar 1) tNil)) (t := tYes) (σ := start ["value", "item"] [.ref a]) (H := H1) (j := 1) (vs := [1]) (fun _ => true) (fun i => V.int (ns.getD i 0)) (Evl.ev_var (i := 0) rfl) (Evl.st_of (e1 _ _ ha)) (by omega) (fun _ => rfl) (fun _ _ _ _ _ => et_yes)
      fun i v H2 e2 hv _ => by
        have hi : i < ns.length := by rw [← e0]; exact (List.getElem?_eq_some_iff.mp hv).1
        have ev : v = .int (ns.getD i 0) := by
          have := ints_getD hi
          rw [List.getD_eq_getElem?_getD, hv] at this
          exact this
        subst ev
        exact Evl.ev_call (Evl.ea_cons (Evl.ev_var rfl) Evl.ea_nil) spv_fix0
    rw [e0, given_all ns 0 V.int] at hh
    exact hh
theorem ok_paperI {f fX oc od osl : _} {kV doc pm cdv ct : Value} {an : Option Addr} {fdX : FuncData} {k : Nat}
    (lk : K.lookup f = some ⟨oc, od, .func (PySem.W.fnOf "__init__" "Paper.__init__" (defArgs sPaperI) (defBody sPaperI) (defScope sPaperI) .none kV doc pm an cdv ct), osl⟩) (hcd : PySem.W.codeIn K cdv "Paper.__init__" = true)
    (FX : Fun K "fixed" "fixed" sFixed fX fdX) (GX : FnOk P w K mg base CX0 k fX fdX ["value"] spFix1) (bX : Binds K fdX ["value"] []) (gX : mg "fixed" = some (.ref fX)) :
    FnR P w K mg base CX0 (k + 1) f (fun vs H Q E => ∃ ws rest, vs = ws ++ rest ∧ ws.length = 2 ∧ rest.length ≤ sizeLine ∧ ∀ p, H p = Option.none → spPaper K (ws ++ [V.ref p]) (upd H p (.tup rest)) Q E) := by
  refine StX.fn_star (N := ["self", "word", "parts"]) (ps := ["self", "word"]) (pv := "parts") (sp := spPaper K) lk hcd scPaperI StX.cxUp_none (fun us rest hl => ?_) (fun A outer s H vs Q E hr h => ?_)
  · match us, hl, rest with
    | [_, _], _, [] => rfl
    | [_, _], _, _ :: _ => rfl
  · obtain ⟨x, C, dx, p, w, fs, ns, rfl, hx, T, hf, hp, hl, q⟩ := h
    refine ⟨_, pss_cons (ps_fld (pv 0) (pv 1) rfl) (pss_one (ps_fld (pv 0) (pe_call GX hr (by rfl) gX FX.kp bX .nil pass0 (pa_cons (pv 2) pa_nil)) rfl)), ?_⟩
    have xp : p ≠ x := fun z => by
      rw [z, hx] at hp
      cases hp
    refine ⟨w, rfl, _, rfl, x, C, dx, fs, rfl, hx, T.cl, T.nW, by omega, _, rfl, p, ns, rfl, by rw [upd_ne xp]; exact hp, hl, fun v H1 e1 hv => ?_⟩
    obtain ⟨t, rfl, ht, h1⟩ := hv
    have hx1 := e1 _ _ upd_same
    have xt : t ≠ x := fun z => by rw [z, upd_same] at ht; cases ht
    have := putF_len "word" w fs
    refine ⟨_, rfl, x, C, dx, _, rfl, hx1, T.cl, T.nP, by omega, ?_⟩
    refine q t _ (fun b o hb h => ?_) upd_same (by rw [upd_ne xt]; exact h1)
    rw [upd_ne hb]
    exact e1 _ _ (by rw [upd_ne hb]; exact h)
end
end Tl
end S_Yo
section S_Yp
namespace Tl
open PySem PySem.Spec PyProof.Rows L2
theorem scFlatI : SuScope ["self", "places", "ties", "faces"] ["self", "places", "ties", "faces"] (defScope sFlatI) := ⟨rfl, rfl, rfl, by decide +kernel, rfl, by decide +kernel, by decide +kernel, by decide +kernel, by decide +kernel, by decide +kernel⟩
/-- what is asked of a Flat's class -/
structure TFlat (K : PySem.W.Frag) (C : Addr) : Prop where
  pap : TPap K C
  n1 : NoAttr K C "places"
  n2 : NoAttr K C "ties"
  n3 : NoAttr K C "faces"
def spFlatI (K : PySem.W.Frag) (C : Addr) : Sp := fun vs H Q _ => ∃ (x dx : Addr) (a b c : Int), vs = [.ref x, .int a, .int b, .int c] ∧ H x = some (.ins C dx []) ∧
  ∀ H' fs, (∀ q o, q ≠ x → H q = some o → H' q = some o) → H' x = some (.ins C dx fs) → Q .non H'
section
variable {P : Program} {w : World} {K : PySem.W.Frag} {mg : Str → Option Value} {base : Heap}
set_option maxHeartbeats 2000000 in
theorem ok_flatI {f f2 D C cc cda : Addr} {kV doc pm ct : Value} {an : Option Addr} {k : Nat}
    (B : SuFacts P K f f2 D C cc cda (PySem.W.ksFn "__init__" "Flat.__init__" (defArgs sFlatI) (defBody sFlatI) (defScope sFlatI) .none kV doc pm an (.ref cda) ct cc) "self")
    (hcd : PySem.W.codeIn K (.ref cda) "Flat.__init__" = true) (ms : mg "super" = none) (T : TFlat K C)
    (F2 : FnR P w K mg base CX0 k f2 (fun vs H Q E => ∃ ws rest, vs = ws ++ rest ∧ ws.length = 2 ∧ rest.length ≤ sizeLine ∧ ∀ p, H p = Option.none → spPaper K (ws ++ [V.ref p]) (upd H p (.tup rest)) Q E)) :
    FnOk P w K mg base CX0 (k + 1) f (PySem.W.ksFn "__init__" "Flat.__init__" (defArgs sFlatI) (defBody sFlatI) (defScope sFlatI) .none kV doc pm an (.ref cda) ct cc) ["self", "places", "ties", "faces"] (spFlatI K C) := by
  refine fn_super (N := ["self", "places", "ties", "faces"]) (sp := spFlatI K C) B hcd scFlatI rfl ms F2 (fun {vs H Q E} h => ?_) (fun A outer s H vs Q E hr h => ?_) (pl := pure false) ?_ ?_ ?_ ?_
  · obtain ⟨x, dx, a, b, c, rfl, _⟩ := h
    rfl
  · obtain ⟨x, dx, a, b, c, rfl, hx, q⟩ := h
    refine ⟨_, _, x, dx, [], pa_cons pe_str (pa_cons (pv 1) (pa_cons (pv 2) (pa_cons (pv 3) pa_nil))), pss_one (ps_asg (pe_fld (pv 0) rfl) (pg_tup (by rfl) (pgs_cons (pg_fld (pv 0)) (pgs_cons (pg_fld (pv 0)) (pgs_cons (pg_fld (pv 0)) pgs_nil))))), rfl, hx, fun m hm => ?_⟩
    refine ⟨_, rfl, _, rfl, _, rfl, upd_same, [.ref x, .str "flat"], [.int a, .int b, .int c], rfl, rfl, by show 3 ≤ sizeLine; decide, fun p hp => ?_⟩
    have mx : x ≠ m := ne_of_none hx hm
    have px : x ≠ p := fun z => by rw [← z, upd_ne mx, hx] at hp; cases hp
    refine ⟨x, C, dx, p, .str "flat", [], [a, b, c], rfl, by rw [upd_ne px, upd_ne mx]; exact hx, T.pap, by show 0 < 900; omega, upd_same, by show 3 ≤ 4000; omega, fun t H' hk hx' ht => ?_⟩
    have xt : t ≠ x := fun z => by rw [z, hx'] at ht; cases ht
    have h1 : ∀ q o, q ≠ x → H q = some o → H' q = some o := fun q o hq h => hk q o hq (by
      have qm : q ≠ m := ne_of_none h hm
      have qp : q ≠ p := fun z => by rw [← z, upd_ne qm, h] at hp; cases hp
      rw [upd_ne qp, upd_ne qm]
      exact h)
    have l0 := putF_len "word" (V.str "flat") []
    have l1 := putF_len "parts" (V.ref t) (putF "word" (V.str "flat") [])
    have l2 := putF_len "places" (V.int a) (putF "parts" (V.ref t) (putF "word" (V.str "flat") []))
    have l3 := putF_len "ties" (V.int b) (putF "places" (V.int a) (putF "parts" (V.ref t) (putF "word" (V.str "flat") [])))
    rw [List.length_nil] at l0
    refine ⟨_, rfl, x, C, dx, _, .ref t, rfl, hx', T.pap.cl, T.pap.nP, by rw [lookup_putF, if_pos rfl], t, [.int a, .int b, .int c], rfl, Evl.st_of ht, rfl, .int a, [.int b, .int c], rfl, ?_⟩
    refine ⟨_, rfl, x, C, dx, _, rfl, hx', T.pap.cl, T.n1, by omega, .int b, [.int c], rfl, _, rfl, x, C, dx, _, rfl, upd_same, T.pap.cl, T.n2, by omega, .int c, [], rfl, _, rfl, x, C, dx, _, rfl, upd_same, T.pap.cl, T.n3, by omega, rfl, ?_⟩
    exact q _ _ (fun c o hc h => by rw [upd_ne hc, upd_ne hc, upd_ne hc]; exact h1 c o hc h) upd_same
  · exact fun env => rfl
  · exact fun env => rfl
  · exact fun env => rfl
  · exact fun env => rfl
end
end Tl
end S_Yp
section S_Yq
namespace Tl
open PySem PySem.Spec PyProof.Rows L2
section
open Evl
variable {K : PySem.W.Frag} {σ : L2.St} {H : Hp}
theorem s_retMake {C : Addr} {sp : Sp} {dvs vs : List V} {E : XK} {ta : TA} {D : Ends} (h : EvA ta σ H vs) (k : ∀ H1, Ex H H1 → ∀ y dy, H1 y = none → H1 dy = none → dy ≠ y → sp (.ref y :: (vs ++ dvs)) (upd (upd H1 dy (.own y)) y (.ins C dy [])) (fun v H2 => v = .non ∧ D.rt (.ref y) H2) E) : tRet (tMake C sp dvs E ta) D σ H := h H (Ex.refl H) _ fun H1 e => k H1 e
theorem ev_lenT {ta : TE} {p : Addr} {xs : List V} (ha : Ev ta σ H (.ref p)) (h : SqT K H p xs) : Ev (tCB (rLenS K) (tCons ta tNil)) σ H (.int (xs.length : Int)) := fun H1 e Q q =>
  ha H1 e _ fun H2 e2 => ⟨p, xs, rfl, .inr (ex_t (e.trans e2) h), q H2 e2⟩
theorem ev_lenTT {te : TE} {fs : List (List Int)} (h : EvN te σ H (fun u H3 => ∃ t, u = .ref t ∧ TT H3 t fs)) : Ev (tCB (rLenS K) (tCons te tNil)) σ H (.int (fs.length : Int)) := fun H1 e Q q =>
  h H1 e _ fun v H2 e2 hv => by
    obtain ⟨t, rfl, as, h1, h2, _⟩ := hv H2 (e.trans e2) fun _ _ _ h => h
    refine ⟨t, _, rfl, .inr (st_of h1), ?_⟩
    rw [List.length_map, h2]
    exact q H2 e2
/-- all([len(face) == 3 for face in ..]) -/
theorem ev_all3 {te : TE} {fs : List (List Int)} {j : Nat} (hw : ∀ x, wipe ((wipe σ [j]).set j (some x)) [j] = wipe σ [j]) (hj : ∀ x, ((wipe σ [j]).set j (some x))[j]? = some (some x)) (hz : fs.length ≤ 40000) (h : EvN te σ H (fun u H3 => ∃ t, u = .ref t ∧ TT H3 t fs)) :
    Ev (tCB (rAll K) (tCons (tLc (iTup K te) (gName j) tYes (tOp rEq (tCB (rLenS K) (tCons (tVar j) tNil)) (tC (.int 3))) [j]) tNil)) σ H (.bl (fs.all fun f => decide (f.length = 3))) := fun H1 e Q q =>
  h H1 e _ fun v H2 e2 hv => by
    obtain ⟨t, rfl, as, h1, h2, h3⟩ := hv H2 (e.trans e2) fun _ _ _ h => h
    have hm : (as.map V.ref).length = fs.length := by rw [List.length_map, h2]
    have hh := el_lcT (K := K) (xs := as.map V.ref) (tl := tC (.ref t)) (te := tOp rEq (tCB (rLenS K) (tCons (tVar j) tNil)) (tC (.int 3))) (t := tYes) (σ := σ) (H := H2) (j := j) (vs := [j]) (fun _ => true) (fun i => V.bl (decide ((fs.getD i []).length = 3))) ev_c (st_of h1) (by omega) hw (fun _ _ _ _ _ => et_yes)
      fun i x H3 e3 hx _ => by
        rw [List.getElem?_map] at hx
        cases ha : as[i]? with
        | none => rw [ha] at hx; cases hx
        | some a =>
          rw [ha] at hx
          cases hx
          have hi : i < fs.length := by rw [← h2]; exact (List.getElem?_eq_some_iff.mp ha).1
          have hf : fs[i]? = some fs[i] := List.getElem?_eq_getElem hi
          have ed : fs.getD i [] = fs[i] := by rw [List.getD_eq_getElem?_getD, hf] <;> rfl
          rw [ed]
          refine ev_is (ev_op (ev_lenT (ev_var (hj _)) (st_of (e3 _ _ (h3 i a _ ha hf)))) ev_c (rv_eq rfl)) ?_
          rw [List.length_map]
          exact congrArg V.bl (decide_eq_decide.mpr ⟨fun z => by have := V.int.inj z; omega, fun z => by rw [z] <;> rfl⟩)
    rw [hm] at hh
    have eg : given fs.length (fun _ => true) (fun i => V.bl (decide ((fs.getD i []).length = 3))) = (fs.map fun f => decide (f.length = 3)).map V.bl := by
      rw [given_all fs [] fun f => V.bl (decide (f.length = 3)), List.map_map]
      rfl
    rw [eg] at hh
    refine hh H2 (Ex.refl H2) (fun x H1 => rAll K [x] H1 Q) fun p H3 hp e3 hp3 => ?_
    refine ⟨p, _, rfl, sq_of hp3, ?_⟩
    have ea : (fs.map fun f => decide (f.length = 3)).all id = fs.all fun f => decide (f.length = 3) := by rw [List.all_map] <;> rfl
    rw [ea]
    exact q H3 (e2.trans e3)
end
def spBool : Sp := fun vs H Q _ => ∃ x : Addr, vs = [.ref x] ∧ ∀ H1, Evl.Ex H H1 → Q (.bl true) H1
/-- what makes a web flat, by the two walks -/
structure FlatM (ts fs : List (List Int)) : Prop where
  faces : facesM ts = some fs
  few : fs.length ≤ 40000
  from_ : ∃ (fu : Nat) (fd : List Int), reach ts fu ([1], [1]) = some fd ∧ fd.length = ts.length ∧ fd.length < 64
  euler : (ts.length : Int) - (tiesOf ts).length + fs.length = 2
theorem scJudged : FnScope ["web", "places", "faces", "handles"] ["web"] (defScope sJudged) := ⟨rfl, rfl, rfl, by decide +kernel, rfl, by decide +kernel, by decide +kernel⟩
theorem scIsFlat : FnScope ["web"] ["web"] (defScope sIsFlat) := ⟨rfl, rfl, rfl, by decide +kernel, rfl, by decide +kernel, by decide +kernel⟩
theorem scFilled : FnScope ["web", "face"] ["web"] (defScope sFilled) := ⟨rfl, rfl, rfl, by decide +kernel, rfl, by decide +kernel, by decide +kernel⟩
def spJudged (C CF : Addr) : Sp := fun vs H Q _ => ∃ (x : Addr) (ts fs : List (List Int)), vs = [.ref x] ∧ WebAt C H x ts ∧ OkT ts ∧ FlatM ts fs ∧ ∀ y dx gs H', Evl.Ex H H' → H' y = some (.ins CF dx gs) → Q (.ref y) H'
def spIsFlat (C : Addr) : Sp := fun vs H Q _ => ∃ (x : Addr) (ts fs : List (List Int)), vs = [.ref x] ∧ WebAt C H x ts ∧ OkT ts ∧ FlatM ts fs ∧ ∀ H', Evl.Ex H H' → Q (.bl true) H'
def spFilled (C : Addr) : Sp := fun vs H Q _ => ∃ (x : Addr) (ts fs : List (List Int)), vs = [.ref x] ∧ WebAt C H x ts ∧ OkT ts ∧ FlatM ts fs ∧ ∀ H', Evl.Ex H H' → Q (.bl (decide (2 < ts.length) && fs.all fun f => decide (f.length = 3))) H'
section
variable {P : Program} {w : World} {K : PySem.W.Frag} {mg : Str → Option Value} {base : Heap}
theorem ok_paperB {f : Addr} {fd : FuncData} {k : Nat} (F : Fun K "__bool__" "Paper.__bool__" sPaperB f fd) : FnOk P w K mg base CX0 (k + 1) f fd ["self"] spBool := by
  refine F.ok scPaperB (fun vs H Q E h => ?_) (fun cdv A outer s H vs Q E hr h => ?_)
  · obtain ⟨x, rfl, _⟩ := h
    rfl
  · obtain ⟨x, rfl, q⟩ := h
    exact ⟨_, pss_one (ps_ret pe_bl), q H (Evl.Ex.refl H)⟩
set_option maxHeartbeats 2000000 in
theorem ok_judged {C CF f fWW fP fF fI : Addr} {fd fdWW fdP fdF fdI : FuncData} {k : Nat} (F : Fun K "judged_flat" "judged_flat" sJudged f fd) (T : TWeb K mg C)
    (FWW : Fun K "want_web" "want_web" sWantWeb fWW fdWW) (GWW : FnOk P w K mg base CX0 (k + 1) fWW fdWW ["web"] (spWantWeb C)) (bWW : Binds K fdWW ["web"] []) (gWW : mg "want_web" = some (.ref fWW))
    (FP : Fun K "places_from" "places_from" sFrom fP fdP) (GP : FnOk P w K mg base CX0 (k + 1) fP fdP ["web", "place"] (spFrom C)) (bP : Binds K fdP ["web", "place"] []) (gP : mg "places_from" = some (.ref fP))
    (FF : Fun K "faces_of" "faces_of" sFaces fF fdF) (GF : FnOk P w K mg base CX0 (k + 1) fF fdF ["web"] (spFaces C)) (bF : Binds K fdF ["web"] []) (gF : mg "faces_of" = some (.ref fF))
    (M : Mk K CF fI) (GI : FnOk P w K mg base CX0 k fI fdI ["self", "places", "ties", "faces"] (spFlatI K CF)) (bI : Binds K fdI ["self", "places", "ties", "faces"] []) (gFl : mg "Flat" = some (.ref CF))
    (mlen : mg "len" = none) : FnOk P w K mg base CX0 (k + 2) f fd ["web"] (spJudged C CF) := by
  refine F.ok scJudged (fun vs H Q E h => ?_) (fun cdv A outer s H vs Q E hr h => ?_)
  · obtain ⟨x, ts, fs, rfl, _⟩ := h
    rfl
  · obtain ⟨x, ts, fs, rfl, hW, hT, hM, q⟩ := h
    have nd := scJudged.nd
    refine ⟨_, pss_cons (ps_expr (pe_call GWW hr (by rfl) gWW FWW.kp bWW .nil pass0 (pa_cons (pv 0) pa_nil)))
      (pss_cons (ps_set (i := 1) nd rfl (.inl rfl) (pe_call GP hr (by rfl) gP FP.kp bP .nil pass0 (pa_cons (pv 0) (pa_cons pe_int pa_nil))))
      (pss_cons (ps_if (pt_cmpR op_lt (pe_callB call_len_seq (by rfl) mlen PySem.boot_len (pa_cons (pv 1) pa_nil)) (pe_fld (pv 0) rfl) (nomark _)) (pss_one ps_never) pss_nil)
      (pss_cons (ps_set (i := 2) nd rfl (.inl rfl) (pe_callB call_len_seq (by rfl) mlen PySem.boot_len (pa_cons (pe_call GF hr (by rfl) gF FF.kp bF .nil pass0 (pa_cons (pv 0) pa_nil)) pa_nil)))
      (pss_cons (ps_set (i := 3) nd rfl (.inl rfl) (pe_op op_fdivN (pe_op op_sub pe_int (pe_op op_add (pe_op op_sub (pe_fld (pv 0) rfl) (pe_callB call_len_seq (by rfl) mlen PySem.boot_len (pa_cons (pe_fld (pv 0) rfl) pa_nil))) (pv 2))) pe_int))
      (pss_cons (ps_if (pt_cmpR op_gt (pv 3) pe_int (nomark _)) (pss_one ps_never) pss_nil)
      (pss_one (ps_ret (pe_make M GI hr (by rfl) gFl bI .nil pass0 (pa_cons (pe_fld (pv 0) rfl) (pa_cons (pe_callB call_len_seq (by rfl) mlen PySem.boot_len (pa_cons (pe_fld (pv 0) rfl) pa_nil)) (pa_cons (pv 2) pa_nil))))))))))), ?_⟩
    obtain ⟨fu, fd1, hre, hfl, h64⟩ := hM.from_
    have eu := hM.euler
    have hz := hM.few
    obtain ⟨dx, t, ti, h1, h2, xs, h3, h4, _⟩ := id hW
    refine Evl.q_drop (Evl.ev_call (Evl.ea_cons (Evl.ev_var rfl) Evl.ea_nil) (spv_wantWeb hW)) fun H1 e1 => ?_
    -- places
    refine ⟨_, rfl, x, 1, ts, fd1, fu, rfl, hW.ex e1, hre, h64, fun v H2 e2 hv => ?_⟩
    obtain ⟨pt, rfl, hpt⟩ := hv H2 fun _ _ _ h => h
    have e02 := e1.trans e2
    have hsl : ((srt fd1).map V.int).length = ts.length := by rw [List.length_map, srt_len, hfl]
    refine Evl.q_when (b := false) (Evl.et_is (Evl.et_test (Evl.ev_op (ev_lenT (Evl.ev_var rfl) (Evl.st_of hpt)) (ev_fld (Evl.ev_var rfl) (e02 _ _ h1) T.cl T.nM (wf_m _ _ _)) Evl.rv_I0)) (decide_eq_false (by omega))) (fun z => by cases z) fun _ H3 e3 => ?_
    have e03 := e02.trans e3
    -- faces
    refine Evl.q_asg (ev_lenTT (en_call (vs := [.ref x]) (Evl.ea_cons (Evl.ev_var rfl) Evl.ea_nil) (sn_faces (hW.ex e03) hT hM.faces (by omega)))) fun H4 e4 => ?_
    have e04 := e03.trans e4
    -- handles
    refine Evl.q_asg (Evl.ev_op (Evl.ev_op Evl.ev_c (Evl.ev_op (Evl.ev_op (ev_fld (Evl.ev_var rfl) (e04 _ _ h1) T.cl T.nM (wf_m _ _ _)) (ev_lenT (ev_fld (Evl.ev_var rfl) (e04 _ _ h1) T.cl T.nI (wf_i _ _ _)) (Evl.st_of (e04 _ _ h3))) Evl.rv_I0) (Evl.ev_var rfl) Evl.rv_I0) Evl.rv_I0) Evl.ev_c (Evl.rv_I ⟨by decide, by decide⟩)) fun H5 e5 => ?_
    have e05 := e04.trans e5
    have hx0 : (2 : Int) - ((ts.length : Int) - (xs.length : Int) + (fs.length : Int)) = 0 := by
      rw [h4]
      omega
    rw [hx0]
    refine Evl.q_when (b := false) (Evl.et_is (Evl.et_test (Evl.ev_op (Evl.ev_var rfl) Evl.ev_c Evl.rv_I0)) (by decide)) (fun z => by cases z) fun _ H6 e6 => ?_
    have e06 := e05.trans e6
    have args := Evl.ea_cons (ev_fld (K := K) (ta := tVar 0) (Evl.ev_var (σ := [some (.ref x), some (.ref pt), some (.int (fs.length : Int)), some (.int (Int.fdiv 0 2))]) (i := 0) rfl) (e06 _ _ h1) T.cl T.nM (wf_m _ _ _)) (Evl.ea_cons (ev_lenT (K := K) (ev_fld (K := K) (ta := tVar 0) (Evl.ev_var rfl) (e06 _ _ h1) T.cl T.nI (wf_i _ _ _)) (Evl.st_of (e06 _ _ h3))) (Evl.ea_cons (Evl.ev_var (i := 2) rfl) Evl.ea_nil))
    refine s_retMake args fun H7 e7 y dy ny ndy ney => ⟨y, dy, _, _, _, rfl, upd_same, fun H8 gs hk hy => ⟨rfl, q y dy gs H8 ?_ hy⟩⟩
    intro c o h
    have h7 := e7 _ _ (e06 _ _ h)
    exact hk c o (ne_of_none h7 ny) (by rw [upd_ne (ne_of_none h7 ny), upd_ne (ne_of_none h7 ndy)]; exact h7)
theorem ok_isFlat {C CF f fJ fB : Addr} {fd fdJ fdB : FuncData} {k : Nat} (F : Fun K "is_flat" "is_flat" sIsFlat f fd)
    (FJ : Fun K "judged_flat" "judged_flat" sJudged fJ fdJ) (GJ : FnOk P w K mg base CX0 (k + 2) fJ fdJ ["web"] (spJudged C CF)) (bJ : Binds K fdJ ["web"] []) (gJ : mg "judged_flat" = some (.ref fJ))
    (GB : FnOk P w K mg base CX0 k fB fdB ["self"] spBool) (bB : Binds K fdB ["self"] []) (hB : PySem.W.findIn K (.ref CF) "__bool__" = some (some (.ref fB))) (hBf : PySem.W.isFn K (.ref fB) = true) (mbool : mg "bool" = none) :
    FnOk P w K mg base CX0 (k + 3) f fd ["web"] (spIsFlat C) := by
  refine F.ok scIsFlat (fun vs H Q E h => ?_) (fun cdv A outer s H vs Q E hr h => ?_)
  · obtain ⟨x, ts, fs, rfl, _⟩ := h
    rfl
  · obtain ⟨x, ts, fs, rfl, hW, hT, hM, q⟩ := h
    refine ⟨_, pss_one (ps_ret (pe_callTy (call_boolO GB hr bB pass0 hB hBf) (by rfl) mbool (by decide +kernel) (pa_cons (pe_call GJ hr (by rfl) gJ FJ.kp bJ .nil pass0 (pa_cons (pv 0) pa_nil)) pa_nil))), ?_⟩
    refine ⟨_, rfl, x, ts, fs, rfl, hW, hT, hM, fun y dx gs H1 e1 hy => ⟨y, dx, gs, rfl, hy, y, rfl, fun H2 e2 => ⟨true, rfl, q H2 (e1.trans e2)⟩⟩⟩
theorem ok_filled {C f fWW fF fI : Addr} {fd fdWW fdF fdI : FuncData} {k : Nat} (F : Fun K "is_filled" "is_filled" sFilled f fd) (T : TWeb K mg C)
    (FWW : Fun K "want_web" "want_web" sWantWeb fWW fdWW) (GWW : FnOk P w K mg base CX0 k fWW fdWW ["web"] (spWantWeb C)) (bWW : Binds K fdWW ["web"] []) (gWW : mg "want_web" = some (.ref fWW))
    (FF : Fun K "faces_of" "faces_of" sFaces fF fdF) (GF : FnOk P w K mg base CX0 k fF fdF ["web"] (spFaces C)) (bF : Binds K fdF ["web"] []) (gF : mg "faces_of" = some (.ref fF))
    (FI : Fun K "is_flat" "is_flat" sIsFlat fI fdI) (GI : FnOk P w K mg base CX0 k fI fdI ["web"] (spIsFlat C)) (bI : Binds K fdI ["web"] []) (gI : mg "is_flat" = some (.ref fI))
    (mlen : mg "len" = none) (mall : mg "all" = none) : FnOk P w K mg base CX0 (k + 1) f fd ["web"] (spFilled C) := by
  refine F.ok scFilled (fun vs H Q E h => ?_) (fun cdv A outer s H vs Q E hr h => ?_)
  · obtain ⟨x, ts, fs, rfl, _⟩ := h
    rfl
  · obtain ⟨x, ts, fs, rfl, hW, hT, hM, q⟩ := h
    have nd := scFilled.nd
    refine ⟨_, pss_cons (ps_expr (pe_call GWW hr (by rfl) gWW FWW.kp bWW .nil pass0 (pa_cons (pv 0) pa_nil)))
      (pss_one (ps_ret (pe_and (pe_cmpR op_gt (pe_fld (pv 0) rfl) pe_int (nomark _)) (pe_and (pe_callB (cr_all rfl) (by rfl) mall (by decide +kernel) (pa_cons
        (pe_lc (own := [("face", 1)]) (g := gName 1) (tt := tYes) (te := tOp rEq (tCB (Evl.rLenS K) (tCons (tVar 1) tNil)) (tC (.int 3))) rfl nd (pi_tup (pe_call GF hr (by rfl) gF FF.kp bF .nil pass0 (pa_cons (pv 0) pa_nil))) (blkOk_by (N := ["web", "face"]) (sc := defScope sFilled) (by decide +kernel)) (fun _ _ _ _ _ => pg_name (i := 1) nd rfl (Or.inl rfl)) (fun _ _ _ _ _ => pts_nil)
          (fun _ _ _ _ _ => pe_cmpR op_eq (pe_callB call_len_seq (by rfl) mlen PySem.boot_len (pa_cons (pv 1) pa_nil)) pe_int (nomark _))) pa_nil)) (pe_one (pe_call GI hr (by rfl) gI FI.kp bI .nil pass0 (pa_cons (pv 0) pa_nil))))))), ?_⟩
    obtain ⟨dx, t, ti, h1, h2, h3⟩ := id hW
    refine Evl.q_drop (Evl.ev_call (Evl.ea_cons (Evl.ev_var rfl) Evl.ea_nil) (spv_wantWeb hW)) fun H1 e1 => ?_
    refine Evl.s_ret (v := .bl (decide (2 < ts.length) && fs.all fun f => decide (f.length = 3))) (Evl.ev_is (Evl.ev_andV (Evl.ev_is (Evl.ev_op (ev_fld (Evl.ev_var rfl) (e1 _ _ h1) T.cl T.nM (wf_m _ _ _)) Evl.ev_c Evl.rv_I0) (w := .bl (decide (2 < ts.length))) ?_) fun _ => Evl.ev_andV (b := true)
      (ev_all3 (K := K) (fs := fs) (fun _ => rfl) (fun _ => rfl) hM.few (en_call (vs := [.ref x]) (Evl.ea_cons (Evl.ev_var rfl) Evl.ea_nil) (sn_faces (hW.ex e1) hT hM.faces (by have := hM.few; omega)))) fun _ => Evl.ev_call (Evl.ea_cons (Evl.ev_var rfl) Evl.ea_nil) fun H2 e2 Q2 q2 E2 => ⟨x, ts, fs, rfl, (hW.ex e1).ex e2, hT, hM, q2⟩) (by rw [Bool.and_true])) fun H2 e2 => q H2 (e1.trans e2)
    exact congrArg V.bl (decide_eq_decide.mpr (by omega))
end
end Tl
end S_Yq
section S_Yr
namespace Tl
open PySem PySem.Spec PyProof.Rows L2
def idxI : List Int → Int → Option Nat
  | [], _ => none
  | x :: r, p => if x = p then some 0 else (idxI r p).map (· + 1)
theorem idx_of : ∀ {ns : List Int} {p : Int} {j : Nat}, idxI ns p = some j → ns[j]? = some p ∧ ∀ (m : Nat) (z : Int), m < j → ns[m]? = some z → z ≠ p
  | [], _, _, h => by cases h
  | x :: r, p, j, h => by
    unfold idxI at h
    by_cases e : x = p
    · rw [if_pos e] at h
      cases h
      exact ⟨by rw [e] <;> rfl, fun m z hm => absurd hm (Nat.not_lt_zero m)⟩
    · rw [if_neg e] at h
      cases hq : idxI r p with
      | none => rw [hq] at h; cases h
      | some j' =>
        rw [hq] at h
        cases h
        obtain ⟨a1, a2⟩ := idx_of hq
        refine ⟨by simpa using a1, fun m z hm hz => ?_⟩
        cases m with
        | zero =>
          cases hz
          exact e
        | succ m => exact a2 m z (by have : m + 1 < j' + 1 := hm; omega) (by simpa using hz)
def behindL (ns : List Int) (p : Int) : Option Int := match idxI ns p with
  | none => none
  | some j => ns[(j + 1) % ns.length]?
theorem scLBehind : FnScope ["turn", "place"] ["turn", "place"] (defScope sLBehind) := ⟨rfl, rfl, rfl, by decide +kernel, rfl, by decide +kernel, by decide +kernel⟩
def spLBehind (K : PySem.W.Frag) : Sp := fun vs H Q _ => ∃ (a : Addr) (ns : List Int) (p nx : Int), vs = [.ref a, .int p] ∧ SqL K H a (ns.map V.int) ∧ behindL ns p = some nx ∧ ∀ H1, Evl.Ex H H1 → Q (.int nx) H1
theorem spv_lbehind {K : PySem.W.Frag} {H : Hp} {a : Addr} {ns : List Int} {p nx : Int} (h : SqL K H a (ns.map V.int)) (hb : behindL ns p = some nx) : Evl.SpV (spLBehind K) [.ref a, .int p] H (.int nx) := fun H1 e Q q E => ⟨a, ns, p, nx, rfl, Evl.ex_l e h, hb, q⟩
/-! ### the law's own faces -/
abbrev LSt := List (Int × Int) × List (List Int)
def walkL (ts : List (List Int)) : Nat → List (Int × Int) → Int → Int → Option (List Int × List (Int × Int))
  | 0, _, _, _ => none
  | f + 1, seen, one, its => if (one, its) ∈ seen then some ([], seen) else if 1 ≤ its then match ts[(its - 1).toNat]? with
      | none => none
      | some ns => match behindL ns one with
        | none => none
        | some nx => match walkL ts f (seen ++ [(one, its)]) its nx with
          | none => none
          | some r => some (one :: r.1, r.2)
    else none
def stepL (ts : List (List Int)) (fu : Nat) (p : Int) (st : Option LSt) (o : Int) : Option LSt :=
  match st with
  | none => none
  | some q => match walkL ts fu q.1 p o with
    | none => none
    | some r => some (r.2, if r.1 = [] then q.2 else q.2 ++ [r.1])
def facesFromL (ts : List (List Int)) (fu : Nat) : Nat → List (List Int) → Option LSt → Option LSt
  | _, [], st => st
  | i, ns :: r, st => facesFromL ts fu (i + 1) r ((srt ns).foldl (stepL ts fu ((i : Int) + 1)) st)
def facesLM (ts : List (List Int)) : Option (List (List Int)) := (facesFromL ts 400 0 ts (some ([], []))).map (·.2)
def sE (seen : List (Int × Int)) : List (List L2.Key × V) := seen.map fun p => ([.inl p.1, .inl p.2], .bl true)
theorem key2 {a b c d : Int} : ([.inl a, .inl b] : List L2.Key) = [.inl c, .inl d] ↔ (a, b) = (c, d) := by
  constructor
  · intro h
    injection h with h1 h2
    injection h2 with h3 _
    rw [Sum.inl.inj h1, Sum.inl.inj h3]
  · intro h
    cases h
    rfl
theorem val_sE (seen : List (Int × Int)) (a b : Int) : (valV (sE seen) [.inl a, .inl b]).isSome = decide ((a, b) ∈ seen) := by
  unfold sE
  induction seen with
  | nil => rfl
  | cons p r ih =>
    obtain ⟨c, d⟩ := p
    rw [List.map_cons]
    by_cases e : (c, d) = (a, b)
    · rw [valV_pos (key2.mpr e), decide_eq_true (by rw [e]; exact List.mem_cons_self)]
      rfl
    · rw [valV_neg (fun z => e (key2.mp z)), ih]
      exact decide_eq_decide.mpr ⟨fun h => List.mem_cons_of_mem _ h, fun h => (List.mem_cons.mp h).elim (fun z => absurd z.symm e) id⟩
theorem put_sE {seen : List (Int × Int)} {a b : Int} (h : (a, b) ∉ seen) : putK (sE seen) [.inl a, .inl b] (.bl true) = sE (seen ++ [(a, b)]) := by
  have hv : valV (sE seen) [.inl a, .inl b] = none := by
    cases hq : valV (sE seen) [.inl a, .inl b] with
    | none => rfl
    | some v =>
      have := val_sE seen a b
      rw [hq, decide_eq_false h] at this
      cases this
  rw [putK_new _ hv]
  unfold sE
  rw [List.map_append]
  rfl
theorem walkL_le {ts : List (List Int)} : ∀ {f : Nat} {seen : List (Int × Int)} {a b : Int} {face : List Int} {s2 : List (Int × Int)}, walkL ts f seen a b = some (face, s2) → seen.length ≤ s2.length ∧ face.length ≤ f
  | 0, _, _, _, _, _, h => by cases h
  | f + 1, seen, a, b, face, s2, h => by
    unfold walkL at h
    split at h
    · cases h
      exact ⟨Nat.le_refl _, Nat.zero_le _⟩
    · split at h
      · split at h
        · cases h
        · split at h
          · cases h
          · split at h
            · cases h
            · rename_i r hr
              cases h
              obtain ⟨h1, h2⟩ := walkL_le (face := r.1) (s2 := r.2) hr
              rw [List.length_append] at h1
              exact ⟨by omega, by show r.1.length + 1 ≤ f + 1; omega⟩
      · cases h
theorem stepL_none {ts : List (List Int)} {fu : Nat} {p : Int} : ∀ l : List Int, l.foldl (stepL ts fu p) none = none
  | [] => rfl
  | _ :: r => stepL_none r
theorem stepL_le {ts : List (List Int)} {fu : Nat} {p : Int} : ∀ {l : List Int} {q r : LSt}, l.foldl (stepL ts fu p) (some q) = some r → q.1.length ≤ r.1.length ∧ q.2.length ≤ r.2.length
  | [], q, r, h => by cases h; exact ⟨Nat.le_refl _, Nat.le_refl _⟩
  | o :: l, q, r, h => by
    rw [List.foldl_cons] at h
    cases hq : stepL ts fu p (some q) o with
    | none => rw [hq, stepL_none] at h; cases h
    | some q2 =>
      rw [hq] at h
      obtain ⟨b1, b2⟩ := stepL_le h
      unfold stepL at hq
      dsimp only at hq
      split at hq
      · cases hq
      · rename_i r2 hr2
        cases hq
        have := (walkL_le (face := r2.1) (s2 := r2.2) hr2).1
        refine ⟨Nat.le_trans this b1, Nat.le_trans ?_ b2⟩
        dsimp only
        split
        · exact Nat.le_refl _
        · rw [List.length_append]
          exact Nat.le_add_right _ _
theorem facesFromL_none {ts : List (List Int)} {fu : Nat} : ∀ (l : List (List Int)) (i : Nat), facesFromL ts fu i l none = none
  | [], _ => rfl
  | ns :: r, i => by
    unfold facesFromL
    rw [stepL_none]
    exact facesFromL_none r (i + 1)
theorem facesFromL_le {ts : List (List Int)} {fu : Nat} : ∀ {l : List (List Int)} {i : Nat} {q r : LSt}, facesFromL ts fu i l (some q) = some r → q.1.length ≤ r.1.length ∧ q.2.length ≤ r.2.length
  | [], _, q, r, h => by cases h; exact ⟨Nat.le_refl _, Nat.le_refl _⟩
  | ns :: l, i, q, r, h => by
    unfold facesFromL at h
    cases hq : (srt ns).foldl (stepL ts fu ((i : Int) + 1)) (some q) with
    | none => rw [hq, facesFromL_none] at h; cases h
    | some q2 =>
      rw [hq] at h
      obtain ⟨a1, a2⟩ := stepL_le hq
      obtain ⟨b1, b2⟩ := facesFromL_le h
      exact ⟨Nat.le_trans a1 b1, Nat.le_trans a2 b2⟩
section
variable {P : Program} {w : World} {K : PySem.W.Frag} {mg : Str → Option Value} {base : Heap}
theorem ok_lbehind {f : Addr} {fd : FuncData} {k : Nat} (F : Fun K "_law_behind" "_law_behind" sLBehind f fd) (mint : mg "int" = none) (mlen : mg "len" = none) : FnOk P w K mg base CX0 (k + 1) f fd ["turn", "place"] (spLBehind K) := by
  refine F.ok scLBehind (fun vs H Q E h => ?_) (fun cdv A outer s H vs Q E hr h => ?_)
  · obtain ⟨a, ns, p, nx, rfl, _⟩ := h
    rfl
  · obtain ⟨a, ns, p, nx, rfl, hS, hb, q⟩ := h
    refine ⟨_, pss_one (ps_ret (pe_ix ix_list (pv 0) (pe_op op_modN (pe_callTy call_int1 (by rfl) mint (by decide +kernel) (pa_cons (pe_op op_add (pe_bm PySem.F.plainAttrs_list PySem.F.slot_list_index PySem.F.type_list_index mt_index (pv 0) (pa_cons (pv 1) pa_nil)) pe_int) pa_nil))
      (pe_callB call_len_seq (by rfl) mlen PySem.boot_len (pa_cons (pv 0) pa_nil))) (fun _ _ => rfl))), ?_⟩
    unfold behindL at hb
    cases hj : idxI ns p with
    | none => rw [hj] at hb; cases hb
    | some j =>
      rw [hj] at hb
      dsimp only at hb
      obtain ⟨j1, j2⟩ := idx_of hj
      have hjl : j < ns.length := (List.getElem?_eq_some_iff.mp j1).1
      have evi : Evl.Ev (tBM K "list" (rIndex K) (tVar 0) (tCons (tVar 1) tNil)) (start ["turn", "place"] [.ref a, .int p]) H (.int (j : Int)) := fun H1 e Q q => ⟨.ref a, rfl, .inl ⟨rfl, _, Evl.ex_l e hS⟩, .int p, rfl, a, ns.map V.int, .int p, j, .int p, rfl, rfl, Evl.ex_l e hS, rfl, flat_ints ns, by rw [List.getElem?_map, j1] <;> rfl, by show decide (p = p) = true; exact decide_eq_true rfl, fun m z hm hz => by
        rw [List.getElem?_map] at hz
        cases hq : ns[m]? with
        | none => rw [hq] at hz; cases hz
        | some y =>
          rw [hq] at hz
          cases hz
          show decide (y = p) = false
          exact decide_eq_false (j2 m y hm hq), q H1 (Evl.Ex.refl H1)⟩
      refine Evl.s_ret (Evl.ev_op (Evl.ev_var rfl) (Evl.ev_op (ev_int (Evl.ev_op evi Evl.ev_c Evl.rv_I0)) (Evl.ev_len (Evl.ev_var rfl) hS) (Evl.rv_I (by rw [List.length_map]; omega))) (Evl.rv_ixL hS ?_)) q
      have em : Int.fmod ((j : Int) + 1) (((ns.map V.int).length : Nat) : Int) = (((j + 1) % ns.length : Nat) : Int) := by
        rw [List.length_map]
        exact fmod_nat (j + 1) ns.length
      rw [em]
      exact atI_nat (by rw [List.getElem?_map, hb]; rfl)
end
end Tl
end S_Yr
section S_Ys
namespace Tl
open PySem PySem.Spec PyProof.Rows L2
theorem scLFaces : FnScope ["turns", "seen", "found", "place", "turn", "other", "one", "its", "face"] ["turns"] (defScope sLFaces) := ⟨rfl, rfl, rfl, by decide +kernel, rfl, by decide +kernel, by decide +kernel⟩
def spLFaces : Sp := fun vs H Q _ => ∃ (l : Addr) (ts fs : List (List Int)) (s2 : List (Int × Int)), vs = [.ref l] ∧ LL H l ts ∧ ts.length ≤ 1000 ∧ facesFromL ts 400 0 ts (some ([], [])) = some (s2, fs) ∧ s2.length ≤ 50000 ∧ fs.length ≤ 50000 ∧ ∀ F H', Evl.Ex H H' → LL H' F fs → Q (.ref F) H'
/-- all but these three stays -/
def Keep2 (S F : Addr) (A B : Hp) : Prop := ∀ b o, b ≠ S → b ≠ F → A b = some o → B b = some o
theorem Keep2.of {S F : Addr} {A B : Hp} (e : Evl.Ex A B) : Keep2 S F A B := fun b o _ _ h => e b o h
theorem Keep2.trans {S F : Addr} {A B C : Hp} (h : Keep2 S F A B) (k : Keep2 S F B C) : Keep2 S F A C := fun b o h1 h2 h3 => k b o h1 h2 (h b o h1 h2 h3)
def LFSt (S F : Addr) (q : LSt) (H' : Hp) : Prop := H' S = some (.dT (sE q.1)) ∧ ∃ fa : List Addr, H' F = some (.lst (fa.map V.ref)) ∧ RowsL H' fa q.2 ∧ S ∉ fa ∧ F ∉ fa
section
variable {P : Program} {w : World} {K : PySem.W.Frag} {mg : Str → Option Value} {base : Heap}
set_option maxHeartbeats 4000000 in
theorem ok_lfaces {f fB : Addr} {fd fdB : FuncData} {k : Nat} (F : Fun K "_law_faces" "_law_faces" sLFaces f fd)
    (FB : Fun K "_law_behind" "_law_behind" sLBehind fB fdB) (GB : FnOk P w K mg base CX0 k fB fdB ["turn", "place"] (spLBehind K)) (bB : Binds K fdB ["turn", "place"] []) (gB : mg "_law_behind" = some (.ref fB))
    (menum : mg "enumerate" = none) (msort : mg "sorted" = none) : FnOk P w K mg base CX0 (k + 1) f fd ["turns"] spLFaces := by
  refine F.ok scLFaces (fun vs H Q E h => ?_) (fun cdv A outer s H vs Q E hr h => ?_)
  · obtain ⟨l, ts, fs, s2, rfl, _⟩ := h
    rfl
  · obtain ⟨l, ts, fs, s2F, rfl, hL, hts, hf, hz1, hz2, q⟩ := h
    have nd := scLFaces.nd
    refine ⟨_, pss_cons (ps_par (i := 1) (j := 2) (by rfl) nd rfl rfl (by decide) rfl rfl (pa_cons pe_dnewT (pa_cons (pe_lst pa_nil) pa_nil)) (by rfl))
      (pss_cons (ps_for PassesOwn.never rfl (pi_enum (by rfl) menum (pa_cons (pv 0) pa_nil)) (pg_tup (by rfl) (pgs_cons (pg_name (i := 3) nd rfl (Or.inl rfl)) (pgs_cons (pg_name (i := 4) nd rfl (Or.inl rfl)) pgs_nil)))
        (pss_one (ps_for PassesOwn.never rfl (pi_list (pe_callB cr_sortedU (by rfl) msort (by decide +kernel) (pa_cons (pv 4) pa_nil))) (pg_name (i := 5) nd rfl (Or.inl rfl))
          (pss_cons (ps_par3 (i := 6) (j := 7) (l := 8) (by rfl) nd rfl rfl rfl (by decide) (by decide) (by decide) rfl rfl rfl (pa_cons (pe_op op_add (pv 3) pe_int) (pa_cons (pv 5) (pa_cons (pe_lst pa_nil) pa_nil))) (by rfl))
          (pss_cons (ps_while PassesOwn.never (pt_cmp (pc_dnotin (hu_of hr) (pe_tup (pa_cons (pv 6) (pa_cons (pv 7) pa_nil))) (pv 1)))
            (pss_cons (ps_dput (hu_of hr) (pv 1) (pe_tup (pa_cons (pv 6) (pa_cons (pv 7) pa_nil))) pe_bl rfl)
            (pss_cons (ps_expr (pe_bm PySem.F.plainAttrs_list PySem.F.slot_list_append PySem.F.type_list_append mt_append (pv 8) (pa_cons (pv 6) pa_nil)))
            (pss_one (ps_par (i := 6) (j := 7) (by rfl) nd rfl rfl (by decide) rfl rfl (pa_cons (pv 7) (pa_cons (pe_call GB hr (by rfl) gB FB.kp bB .nil pass0 (pa_cons (pe_ix ix_list (pv 0) (pe_op op_sub (pv 7) pe_int) (fun _ _ => rfl)) (pa_cons (pv 6) pa_nil))) pa_nil)) (by rfl))))))
          (pss_one (ps_if (pt_cmpR (op_neD hr.units) (pv 8) (pe_lst pa_nil) (nomark _)) (pss_one (ps_expr (pe_bm PySem.F.plainAttrs_list PySem.F.slot_list_append PySem.F.type_list_append mt_append (pv 2) (pa_cons (pv 8) pa_nil)))) pss_nil)))))))
      (pss_one (ps_ret (pv 2)))), ?_⟩
    obtain ⟨as, hl, hal, hrow⟩ := hL
    have hmap : (as.map V.ref).length = ts.length := by rw [List.length_map, hal]
    intro S hS
    refine ⟨Nat.zero_le _, fun F0 hF => ⟨_, _, rfl, ?_⟩⟩
    have fs0 : F0 ≠ S := fun z => by rw [z, upd_same] at hF; cases hF
    have nF : H F0 = none := by rw [upd_ne fs0] at hF; exact hF
    have e02 : Evl.Ex H (upd (upd H S (.dT [])) F0 (.lst [])) := ((Evl.Ex.refl H).mut hS).mut nF
    have hS2 : (upd (upd H S (.dT [])) F0 (.lst [])) S = some (.dT (sE [])) := by rw [upd_ne fs0.symm, upd_same] <;> rfl
    have hF2 : (upd (upd H S (.dT [])) F0 (.lst [])) F0 = some (.lst []) := upd_same
    generalize upd (upd H S (.dT [])) F0 (.lst []) = H2 at e02 hS2 hF2 ⊢
    have exK : ∀ {A : Hp}, Keep2 S F0 H2 A → Evl.Ex H A := fun hk b o h => hk b o (fun z => by rw [z, hS] at h; cases h) (fun z => by rw [z, nF] at h; cases h) (e02 _ _ h)
    have lift : ∀ {q : LSt} {A B : Hp}, LFSt S F0 q A → Evl.Ex A B → LFSt S F0 q B := fun {q A B} p e => by
      obtain ⟨p1, ga, p3, p4, p5⟩ := p
      exact ⟨e _ _ p1, ga, e _ _ p3, p4.ex e, p5⟩
    refine q_forI (B := H) (ei_enum (Evl.ea_cons (Evl.ev_var rfl) Evl.ea_nil) (Evl.sq_of hl)) aims_enum e02
      (fun H5 i σ' H' => ∃ (y3 y4 y5 y6 y7 y8 : Option V) (q : LSt), σ' = [some (.ref l), some (.ref S), some (.ref F0), y3, y4, y5, y6, y7, y8] ∧ facesFromL ts 400 i (ts.drop i) (some q) = some (s2F, fs) ∧ LFSt S F0 q H' ∧ Keep2 S F0 H5 H') (fun H5 e5 => ?_) (fun H5 i σ' H' e5 hi p => ?_) (fun H5 i σ' H' H'' e5 hi p e6 => ?_) (fun H5 σ' H' e5 p => ?_)
    · exact ⟨_, _, _, _, _, _, _, rfl, hf, ⟨e5 _ _ hS2, [], e5 _ _ hF2, ⟨rfl, fun i a ns h => by simp at h⟩, List.not_mem_nil, List.not_mem_nil⟩, fun _ _ _ _ h => h⟩
    · obtain ⟨y3, y4, y5, y6, y7, y8, q, rfl, p1, p2, p3⟩ := p
      exact ⟨exK ((Keep2.of e5).trans p3), fun b o hn h => p3 b o (fun z => by rw [z, hS2] at hn; cases hn) (fun z => by rw [z, hF2] at hn; cases hn) h⟩
    · obtain ⟨y3, y4, y5, y6, y7, y8, q0, rfl, p1, p2, p3⟩ := p
      obtain ⟨a, ns, ha, hn⟩ := both_at hal (show i < as.length by rw [List.length_map] at hi; exact hi)
      have hat := hrow i a ns ha hn
      have hdr : ts.drop i = ns :: ts.drop (i + 1) := List.drop_eq_getElem_cons (List.getElem?_eq_some_iff.mp hn).1 |>.trans (by rw [(List.getElem?_eq_some_iff.mp hn).2])
      rw [hdr] at p1
      unfold facesFromL at p1
      cases hqr : (srt ns).foldl (stepL ts 400 ((i : Int) + 1)) (some q0) with
      | none => rw [hqr, facesFromL_none] at p1; cases p1
      | some qr =>
        rw [hqr] at p1
        have k6 : Keep2 S F0 H5 H'' := p3.trans (Keep2.of e6)
        have e46 : Keep2 S F0 H2 H'' := (Keep2.of e5).trans k6
        have p2' := lift p2 e6
        have hS'' := p2'.1
        obtain ⟨ga0, hF'', _⟩ := p2'.2
        refine s_forI (B := H) (ei_listN (el_sorted (Evl.ev_is (Evl.ev_var rfl) (refs_getD ha)) (.inl (Evl.sq_of hat)))) aims_at (exK e46)
          (fun H6 j σ2 Hx => ∃ (y5 y6 y7 y8 : Option V) (q : LSt), σ2 = [some (.ref l), some (.ref S), some (.ref F0), some (.int (i : Nat)), some ((as.map V.ref).getD i .non), y5, y6, y7, y8] ∧ ((srt ns).drop j).foldl (stepL ts 400 ((i : Int) + 1)) (some q) = some qr ∧ LFSt S F0 q Hx ∧ Keep2 S F0 H5 Hx ∧ Keep2 S F0 H6 Hx) (fun H6 e7 => ?_) (fun H6 j σ2 Hx e7 hj p => ?_) (fun H6 j σ2 Hx Hy e7 hj p e8 => ?_) (fun H6 σ2 Hx e7 p => ?_)
        · exact ⟨_, _, _, _, q0, rfl, hqr, lift p2' e7, k6.trans (Keep2.of e7), fun _ _ _ _ h => h⟩
        · obtain ⟨y5, y6, y7, y8, q1, rfl, r1, r2, r3, r4⟩ := p
          exact ⟨exK ((Keep2.of e5).trans r3), fun b o hn h => r4 b o (fun z => by rw [z, hS''] at hn; cases hn) (fun z => by rw [z, hF''] at hn; cases hn) h⟩
        · obtain ⟨y5, y6, y7, y8, q1, rfl, r1, r2, r3, r4⟩ := p
          have hj' : j < (srt ns).length := by rw [List.length_map] at hj; exact hj
          have hdr2 : (srt ns).drop j = (srt ns)[j] :: (srt ns).drop (j + 1) := List.drop_eq_getElem_cons hj'
          have ho : ((srt ns).map V.int).getD j .non = .int (srt ns)[j] := by rw [ints_getD hj', List.getD_eq_getElem?_getD, List.getElem?_eq_getElem hj'] <;> rfl
          rw [hdr2, List.foldl_cons] at r1
          generalize (srt ns)[j] = o at r1 ho
          cases hst : stepL ts 400 ((i : Int) + 1) (some q1) o with
          | none => rw [hst, stepL_none] at r1; cases r1
          | some q2 =>
            rw [hst] at r1
            have le2 := stepL_le r1
            have le3 := facesFromL_le p1
            have le4 : q2.1.length ≤ s2F.length := Nat.le_trans le2.1 le3.1
            have le5 : q2.2.length ≤ fs.length := Nat.le_trans le2.2 le3.2
            unfold stepL at hst
            dsimp only at hst
            cases hwk : walkL ts 400 q1.1 ((i : Int) + 1) o with
            | none => rw [hwk] at hst; cases hst
            | some r =>
              rw [hwk] at hst
              obtain ⟨faceF, seenF⟩ := r
              dsimp only at hst
              cases hst
              have wl := walkL_le hwk
              have r2y := lift r2 e8
              have r5 : Keep2 S F0 H5 Hy := r3.trans (Keep2.of e8)
              have exHy : Evl.Ex H Hy := exK ((Keep2.of e5).trans r5)
              obtain ⟨s1, ga, s3, s4, s5, s6⟩ := r2y
              dsimp only [List.set]
              rw [ho]
              -- one, its, face
              refine ⟨_, rfl, _, _, rfl, rfl, _, rfl, Nat.zero_le _, fun Fc hFc => ⟨_, _, _, rfl, ?_⟩⟩
              have fcS : Fc ≠ S := fun z => by rw [z, s1] at hFc; cases hFc
              have fcF : Fc ≠ F0 := fun z => by rw [z, s3] at hFc; cases hFc
              refine Evl.q_while (fun m σ' Hw => ∃ (seen : List (Int × Int)) (a1 b1 : Int) (acc rest : List Int), σ' = [some (.ref l), some (.ref S), some (.ref F0), some (.int (i : Nat)), some ((as.map V.ref).getD i .non), some (.int o), some (.int a1), some (.int b1), some (.ref Fc)] ∧ walkL ts m seen a1 b1 = some (rest, seenF) ∧ acc ++ rest = faceF ∧ Hw S = some (.dT (sE seen)) ∧ Hw Fc = some (.lst (acc.map V.int)) ∧ ∀ b o, b ≠ S → b ≠ Fc → Hy b = some o → Hw b = some o) 400 ?_ ?_
              · exact ⟨q1.1, (i : Int) + 1, o, [], faceF, rfl, hwk, rfl, by rw [upd_ne fcS.symm]; exact s1, upd_same, fun b o' h1 h2 h => by rw [upd_ne h2]; exact h⟩
              · rintro m σ' Hw ⟨seen, a1, b1, acc, rest, rfl, w1, w2, w3, w4, w5⟩
                cases m with
                | zero => cases w1
                | succ m =>
                  have wl2 := walkL_le w1
                  unfold walkL at w1
                  refine ⟨!decide ((a1, b1) ∈ seen), fun Hz ez Q2 q2 => ⟨_, rfl, _, rfl, by show 2 ≤ sizeLine; decide, fun p hp => ⟨_, rfl, S, valV (sE seen) [.inl a1, .inl b1], rfl, DGet.t (k := [.inl a1, .inl b1]) (by rw [upd_ne (ne_of_none (ez _ _ w3) hp)]; exact ez _ _ w3) upd_same, _, rfl, by rw [val_sE]; exact q2 _ (Evl.Ex.new hp)⟩⟩, fun hb Hz ez => ?_, fun hb Hz ez => ?_⟩
                  · have hno : (a1, b1) ∉ seen := fun z => by rw [decide_eq_true z] at hb; cases hb
                    rw [if_neg hno] at w1
                    by_cases hb1 : 1 ≤ b1
                    · rw [if_pos hb1] at w1
                      cases hts1 : ts[(b1 - 1).toNat]? with
                      | none => rw [hts1] at w1; cases w1
                      | some ms =>
                        rw [hts1] at w1
                        dsimp only at w1
                        cases hbl : behindL ms a1 with
                        | none => rw [hbl] at w1; cases w1
                        | some nx =>
                          rw [hbl] at w1
                          dsimp only at w1
                          cases hrec : walkL ts m (seen ++ [(a1, b1)]) b1 nx with
                          | none => rw [hrec] at w1; cases w1
                          | some r =>
                            rw [hrec] at w1
                            obtain ⟨rr1, rr2⟩ := r
                            cases w1
                            refine ⟨fun σ2 H2 => ∃ m', m' < m + 1 ∧ ∃ (seen : List (Int × Int)) (a1 b1 : Int) (acc rest : List Int), σ2 = [some (.ref l), some (.ref S), some (.ref F0), some (.int (i : Nat)), some ((as.map V.ref).getD i .non), some (.int o), some (.int a1), some (.int b1), some (.ref Fc)] ∧ walkL ts m' seen a1 b1 = some (rest, rr2) ∧ acc ++ rest = faceF ∧ H2 S = some (.dT (sE seen)) ∧ H2 Fc = some (.lst (acc.map V.int)) ∧ ∀ b o, b ≠ S → b ≠ Fc → Hy b = some o → H2 b = some o, fun _ _ h => h, ?_⟩
                            have l1 : seen.length ≤ rr2.length := wl2.1
                            have l2 : rr2.length ≤ s2F.length := le4
                            refine ⟨_, rfl, _, rfl, _, rfl, by show 2 ≤ sizeLine; decide, fun p hp => ⟨S, _, rfl, DPut.t (k := [.inl a1, .inl b1]) (by rw [upd_ne (ne_of_none (ez _ _ w3) hp)]; exact ez _ _ w3) upd_same (Evl.sz_lt (by unfold sE; rw [List.length_map]; omega)), ?_⟩⟩
                            rw [put_sE hno]
                            have pS : p ≠ S := (ne_of_none (ez _ _ w3) hp).symm
                            have pFc : p ≠ Fc := (ne_of_none (ez _ _ w4) hp).symm
                            have al : acc.length ≤ 400 := by
                              have := wl.2
                              rw [← w2, List.length_append] at this
                              omega
                            have hFc3 : (upd (upd Hz p (.tup [.int a1, .int b1])) S (.dT (sE (seen ++ [(a1, b1)])))) Fc = some (.lst (acc.map V.int)) := by rw [upd_ne fcS, upd_ne pFc.symm]; exact ez _ _ w4
                            have hS3 : (upd (upd Hz p (.tup [.int a1, .int b1])) S (.dT (sE (seen ++ [(a1, b1)])))) S = some (.dT (sE (seen ++ [(a1, b1)]))) := upd_same
                            have hk3 : ∀ b o', b ≠ S → b ≠ Fc → Hy b = some o' → (upd (upd Hz p (.tup [.int a1, .int b1])) S (.dT (sE (seen ++ [(a1, b1)])))) b = some o' := fun b o' h1 h2 h => by
                              have := ez _ _ (w5 b o' h1 h2 h)
                              rw [upd_ne h1, upd_ne (ne_of_none this hp)]
                              exact this
                            generalize upd (upd Hz p (.tup [.int a1, .int b1])) S (.dT (sE (seen ++ [(a1, b1)]))) = H3 at hFc3 hS3 hk3 ⊢
                            refine Evl.q_app hFc3 (Evl.ev_var rfl) (Evl.ev_var rfl) (by rw [List.length_map]; omega) fun H4 e4 => ?_
                            have hk4 : ∀ b o', b ≠ S → b ≠ Fc → Hy b = some o' → (upd H4 Fc (.lst (acc.map V.int ++ [.int a1]))) b = some o' := fun b o' h1 h2 h => by
                              rw [upd_ne h2]
                              exact e4 _ _ (hk3 b o' h1 h2 h)
                            have exB : ∀ b o', H b = some o' → (upd H4 Fc (.lst (acc.map V.int ++ [.int a1]))) b = some o' := fun b o' h => hk4 b o' (fun z => by rw [z, hS] at h; cases h) (fun z => by rw [z, Evl.fresh_back exHy hFc] at h; cases h) (exHy _ _ h)
                            have hi1 : (b1 - 1).toNat < as.length := by rw [hal]; exact (List.getElem?_eq_some_iff.mp hts1).1
                            obtain ⟨a2, ha2⟩ : ∃ a2, as[(b1 - 1).toNat]? = some a2 := ⟨_, List.getElem?_eq_getElem hi1⟩
                            have at0 : atI (as.map V.ref) (b1 - 1) = some (.ref a2) := by
                              have en : b1 - 1 = ((b1 - 1).toNat : Int) := by omega
                              rw [en]
                              exact atI_nat (by rw [List.getElem?_map, ha2]; rfl)
                            refine ⟨_, rfl, _, rfl, _, rfl, _, _, rfl, rfl, l, as.map V.ref, b1 - 1, .ref a2, rfl, rfl, Evl.sq_of (exB _ _ hl), at0, _, rfl, a2, ms, a1, nx, rfl, Evl.sq_of (exB _ _ (hrow _ a2 ms ha2 hts1)), hbl, fun H5' e5' => ⟨_, _, rfl, ?_⟩⟩
                            refine ⟨m, Nat.lt_succ_self m, seen ++ [(a1, b1)], b1, nx, acc ++ [a1], rr1, rfl, hrec, by rw [List.append_assoc]; exact w2, e5' _ _ (by rw [upd_ne fcS.symm]; exact e4 _ _ hS3), e5' _ _ (by rw [upd_same, List.map_append] <;> rfl), fun b o' h1 h2 h => e5' _ _ (hk4 b o' h1 h2 h)⟩
                    · rw [if_neg hb1] at w1
                      cases w1
                  · have hyes : (a1, b1) ∈ seen := by
                      cases hd : decide ((a1, b1) ∈ seen) with
                      | true => exact of_decide_eq_true hd
                      | false => rw [hd] at hb; cases hb
                    rw [if_pos hyes] at w1
                    cases w1
                    rw [List.append_nil] at w2
                    subst w2
                    have hFz := ez _ _ w4
                    have gz : ∀ b o', b ≠ S → b ≠ Fc → Hy b = some o' → Hz b = some o' := fun b o' h1 h2 h => ez _ _ (w5 b o' h1 h2 h)
                    have keepZ : Keep2 S F0 Hx Hz := fun b o' h1 h2 h => gz b o' h1 (ne_of_none (e8 _ _ h) hFc) (e8 _ _ h)
                    have rowsZ : RowsL Hz ga q1.2 := ⟨s4.1, fun j2 a2 ns2 h1 h2 => gz a2 _ (fun z => s5 (by rw [← z]; exact List.mem_of_getElem? h1)) (ne_of_none (s4.2 j2 a2 ns2 h1 h2) hFc) (s4.2 j2 a2 ns2 h1 h2)⟩
                    refine Evl.s_when (b := !acc.isEmpty) (Evl.et_test (ev_neNil (Evl.ev_var rfl) (Evl.sq_of hFz))) (fun hb2 H7 e7 => ?_) (fun hb2 H7 e7 => ?_)
                    · have hne : acc ≠ [] := fun z => by subst z; cases hb2
                      rw [if_neg hne] at r1 le5
                      have gal : ga.length ≤ 50000 := by
                        rw [s4.1]
                        have : (q1.2 ++ [acc]).length ≤ fs.length := le5
                        rw [List.length_append] at this
                        omega
                      have hF7 := e7 _ _ (gz F0 _ fs0 fcF.symm s3)
                      refine Evl.s_app hF7 (Evl.ev_var rfl) (Evl.ev_var rfl) (by rw [List.length_map]; omega) fun H8 e8' => ?_
                      have e78 := e7.trans e8'
                      refine ⟨_, _, _, _, (seenF, q1.2 ++ [acc]), rfl, r1, ⟨?_, ga ++ [Fc], ?_, ⟨by rw [List.length_append, List.length_append, s4.1] <;> rfl, fun j2 a2 ns2 h1 h2 => ?_⟩, ?_, ?_⟩, ?_, ?_⟩
                      · rw [upd_ne fs0.symm]
                        exact e78 _ _ (ez _ _ w3)
                      · rw [upd_same, List.map_append]
                        rfl
                      · rcases Nat.lt_or_ge j2 ga.length with hj2 | hj2
                        · rw [List.getElem?_append_left hj2] at h1
                          rw [List.getElem?_append_left (by rw [← s4.1]; exact hj2)] at h2
                          rw [upd_ne (fun z => s6 (by rw [← z]; exact List.mem_of_getElem? h1))]
                          exact e78 _ _ (rowsZ.2 j2 a2 ns2 h1 h2)
                        · rw [List.getElem?_append_right hj2] at h1
                          rw [List.getElem?_append_right (by rw [← s4.1]; exact hj2), ← s4.1] at h2
                          have e0 : j2 - ga.length = 0 := by
                            have := (List.getElem?_eq_some_iff.mp h1).1
                            simp at this
                            omega
                          rw [e0] at h1 h2
                          cases h1
                          cases h2
                          rw [upd_ne fcF]
                          exact e78 _ _ hFz
                      · intro z
                        rcases List.mem_append.mp z with z | z
                        · exact s5 z
                        · exact fcS (List.mem_singleton.mp z).symm
                      · intro z
                        rcases List.mem_append.mp z with z | z
                        · exact s6 z
                        · exact fcF (List.mem_singleton.mp z).symm
                      · exact r3.trans fun b o' h1 h2 h => by rw [upd_ne h2]; exact e78 _ _ (keepZ b o' h1 h2 h)
                      · exact r4.trans fun b o' h1 h2 h => by rw [upd_ne h2]; exact e78 _ _ (keepZ b o' h1 h2 h)
                    · have hne : acc = [] := by
                        cases acc with
                        | nil => rfl
                        | cons x r => cases hb2
                      rw [if_pos hne] at r1
                      exact ⟨_, _, _, _, (seenF, q1.2), rfl, r1, ⟨e7 _ _ (ez _ _ w3), ga, e7 _ _ (gz F0 _ fs0 fcF.symm s3), rowsZ.ex e7, s5, s6⟩, r3.trans fun b o' h1 h2 h => e7 _ _ (keepZ b o' h1 h2 h), r4.trans fun b o' h1 h2 h => e7 _ _ (keepZ b o' h1 h2 h)⟩
        · obtain ⟨y5, y6, y7, y8, q1, rfl, r1, r2, r3, r4⟩ := p
          rw [List.length_map, List.drop_length] at r1
          cases r1
          exact ⟨_, _, _, _, _, _, qr, rfl, p1, r2, r3⟩
    · obtain ⟨y3, y4, y5, y6, y7, y8, q0, rfl, p1, p2, p3⟩ := p
      rw [hmap, List.drop_length] at p1
      cases p1
      obtain ⟨s1, ga, s3, s4, _⟩ := p2
      exact Evl.s_ret (Evl.ev_var rfl) fun H6 e6 => q F0 H6 ((exK ((Keep2.of e5).trans p3)).trans e6) ⟨ga, e6 _ _ s3, s4.ex e6⟩
end
end Tl
end S_Ys
section S_Yu
namespace Tl
open PySem PySem.Spec PyProof.Rows L2
/-! ### a call of a def that wants no repr under way -/
theorem pe_callG {X : Cx} {k : Nat} {f : Addr} {fd : FuncData} {ps : List Str} {sp : Sp} {E : XK} {x : Str} {p pos : Pos} {e : Expr} {es : List Expr} {t : TA} (F : FnG X.prog X.w X.K X.mg X.base k f fd ps sp) (hgd : X.A.guards = some []) (hr : Room k X.A) (hg : Gl X x) (hm : X.mg x = some (.ref f))
    (hk : PySem.W.keepIn X.K (.ref f) = true) (hb : Binds X.K fd ps []) (hx : Passes CX0 X E) (ha : PA X (e :: es) t) (hdb : (x == ("__debug__" : Str)) = false := by decide) (he : starEach (e :: es) X.env = (false, eval e X.env) :: starEach es X.env := by rfl)
    (hpl : (backTo pos (starEach es X.env)).any (·.1) = false := by rfl) : PE X (.Call (.Name x p) (e :: es) [] pos) (tCall sp [] E t) := by
  constructor
  intro pins s σ H Q I h
  refine wpAny_Call_Name_kw (ld_glob I hg hm (PySem.W.callWith_K (h₀ := X.base) I.ok.mod.kin hk (thn (ha.run pos pins s σ H _ I h) fun us s1 hv => ?_) he hpl) hdb)
  obtain ⟨vs, H1, I1, r, q⟩ := hv
  rw [List.append_nil] at q
  refine ⟨I1.kIn, wpAny_call (codeAny_mono (F.go hgd hr I1.env0 (by
    have := hb s1 us I1.kIn (by rw [List.append_nil, ← r.length]; exact F.len q)
    rwa [List.append_nil] at this) r q) fun z s' hq => ?_)⟩
  match z, hq with
  | .error e, hq => exact hx pins σ H1 s1 e s' I1 hq
  | .ok (.ret u), hq => exact I1.after hq
  | .ok .next, hq => exact hq.elim
  | .ok .brk, hq => exact hq.elim
  | .ok .cont, hq => exact hq.elim
theorem FnG.mono {P : Program} {w : World} {K : PySem.W.Frag} {mg : Str → Option Value} {base : Heap} {j k : Nat} {f : Addr} {fd : FuncData} {ps : List Str} {sp : Sp} (F : FnG P w K mg base j f fd ps sp) (h : j ≤ k) : FnG P w K mg base k f fd ps sp := ⟨F.len, fun a b c d e g => F.go a (b.mono h) c d e g⟩
/-! ### the law's rings, wheels, floors -/
theorem scLRing : FnScope ["many", "place"] ["many"] (defScope sLRing) := ⟨rfl, rfl, rfl, by decide +kernel, rfl, by decide +kernel, by decide +kernel⟩
theorem scLWheel : FnScope ["many", "rim", "place"] ["many"] (defScope sLWheel) := ⟨rfl, rfl, rfl, by decide +kernel, rfl, by decide +kernel, by decide +kernel⟩
theorem scLFloor : FnScope ["wide", "tall", "found", "place", "column", "row"] ["wide", "tall"] (defScope sLFloor) := ⟨rfl, rfl, rfl, by decide +kernel, rfl, by decide +kernel, by decide +kernel⟩
def spLRing : Sp := fun vs H Q _ => ∃ n : Nat, vs = [.int n] ∧ 3 ≤ n ∧ n ≤ 1000 ∧ Pure1 H Q fun v H3 => ∃ l, v = .ref l ∧ LL H3 l (ringT n)
def spLWheel : Sp := fun vs H Q _ => ∃ n : Nat, vs = [.int n] ∧ 3 ≤ n ∧ n ≤ 999 ∧ Pure1 H Q fun v H3 => ∃ l, v = .ref l ∧ LL H3 l (wheelT n)
def spLFloor : Sp := fun vs H Q _ => ∃ w t : Nat, vs = [.int w, .int t] ∧ 1 ≤ w ∧ 1 ≤ t ∧ w * t ≤ 1000 ∧ Pure1 H Q fun v H3 => ∃ l, v = .ref l ∧ LL H3 l (floorT w t)
theorem q_parN {i j : Nat} {t1 : TE} {tz : TS} {D : Ends} {σ : L2.St} {H : Hp} {v : V} (h : Evl.Ev t1 σ H v) (k : ∀ H1, Evl.Ex H H1 → ∀ R, H1 R = none → tz D ((σ.set i (some v)).set j (some (.ref R))) (upd H1 R (.lst []))) : tSeq (tPar i j (tCons t1 (tCons (tLst tNil) tNil))) tz D σ H := h H (Evl.Ex.refl H) _ fun H1 e => ⟨Nat.zero_le _, fun R hR => ⟨_, _, rfl, k H1 e R hR⟩⟩
theorem mod_step {w i : Nat} (hw : 1 ≤ w) : ((i % w : Nat) : Int) < (w : Int) - 1 ↔ 0 < (i + 1) % w := by
  have hr : i % w < w := Nat.mod_lt _ hw
  by_cases h : i % w + 1 < w
  · have e : (i + 1) % w = i % w + 1 := by
      rw [← Nat.mod_add_mod, Nat.mod_eq_of_lt h]
    rw [e]
    omega
  · have e : (i + 1) % w = 0 := by
      rw [← Nat.mod_add_mod, show i % w + 1 = w by omega, Nat.mod_self]
    rw [e]
    omega
section
variable {P : Program} {w : World} {K : PySem.W.Frag} {mg : Str → Option Value} {base : Heap}
theorem ok_lring {f : Addr} {fd : FuncData} {k : Nat} (F : Fun K "_law_ring" "_law_ring" sLRing f fd) (mrange : mg "range" = none) : FnOk P w K mg base CX0 (k + 1) f fd ["many"] spLRing := by
  refine F.ok scLRing (fun vs H Q E h => ?_) (fun cdv A outer s H vs Q E hr h => ?_)
  · obtain ⟨n, rfl, _⟩ := h
    rfl
  · obtain ⟨n, rfl, h3, h1, q⟩ := h
    have nd := scLRing.nd
    refine ⟨_, pss_one (ps_ret (pe_lc (own := [("place", 1)]) (g := gName 1) (tt := tYes) rfl nd (pi_range2 (by rfl) mrange (pa_cons pe_int (pa_cons (pe_op op_add (pv 0) pe_int) pa_nil))) (blkOk_by (N := ["many", "place"]) (sc := defScope sLRing) (by decide +kernel)) (fun _ _ _ _ _ => pg_name (i := 1) nd rfl (Or.inl rfl)) (fun _ _ _ _ _ => pts_nil)
          (fun _ _ _ _ _ => pe_lst (pa_cons (pe_ifExp (pt_cmpR op_lt (pv 1) (pv 0) (nomark _)) (pe_op op_add (pv 1) pe_int) pe_int) (pa_cons (pe_ifExp (pt_cmpR op_gt (pv 1) pe_int (nomark _)) (pe_op op_sub (pv 1) pe_int) (pv 0)) pa_nil))))), ?_⟩
    refine s_retB (noH_ex _) (en_LL (g := ringG n) (n := n) ?_) fun v H2 e2 hv => q v H2 e2 fun H3 s3 => hv H3 (noH_ex _) s3
    refine en_lc (ei_rng2c (i := 1) (j := (n : Int) + 1) (n := n) (by omega) (Evl.ea_cons Evl.ev_c (Evl.ea_cons (Evl.ev_op (Evl.ev_var rfl) Evl.ev_c Evl.rv_I0) Evl.ea_nil)) (by omega) (by omega)) aims_fn (fun _ => rfl) (by omega) _ fun i hi => en_l (xs := (ringG n i).map V.int) (Evl.el_lst (Evl.ea_cons (Evl.ev_if (b := decide (i + 1 < n)) (Evl.et_is (Evl.et_test (Evl.ev_op (Evl.ev_var rfl) (Evl.ev_var rfl) Evl.rv_I0)) (decide_eq_decide.mpr (by omega))) (fun hb => Evl.ev_is (Evl.ev_op (Evl.ev_var rfl) Evl.ev_c Evl.rv_I0) ?_) (fun hb => Evl.ev_is Evl.ev_c ?_))
      (Evl.ea_cons (Evl.ev_if (b := decide (0 < i)) (Evl.et_is (Evl.et_test (Evl.ev_op (Evl.ev_var rfl) Evl.ev_c Evl.rv_I0)) (decide_eq_decide.mpr (by omega))) (fun hb => Evl.ev_is (Evl.ev_op (Evl.ev_var rfl) Evl.ev_c Evl.rv_I0) ?_) (fun hb => Evl.ev_is (Evl.ev_var rfl) ?_)) Evl.ea_nil)) (by show 2 ≤ 100000; omega))
    · rw [if_pos (of_decide_eq_true hb), show (1 : Int) + i + 1 = i + 2 by omega]
    · rw [if_neg (of_decide_eq_false hb)]
    · rw [if_pos (of_decide_eq_true hb), show (1 : Int) + i - 1 = i by omega]
    · rw [if_neg (of_decide_eq_false hb)]
theorem ok_lwheel {f : Addr} {fd : FuncData} {k : Nat} (F : Fun K "_law_wheel" "_law_wheel" sLWheel f fd) (mrange : mg "range" = none) (mlist : mg "list" = none) : FnOk P w K mg base CX0 (k + 1) f fd ["many"] spLWheel := by
  refine F.ok scLWheel (fun vs H Q E h => ?_) (fun cdv A outer s H vs Q E hr h => ?_)
  · obtain ⟨n, rfl, _⟩ := h
    rfl
  · obtain ⟨n, rfl, h3, h1, q⟩ := h
    have nd := scLWheel.nd
    refine ⟨_, pss_cons (ps_setLc (i := 1) (own := [("place", 2)]) (g := gName 2) (tt := tYes) rfl nd rfl rfl (sw_true rfl rfl rfl (by decide +kernel)) (pi_range2 (by rfl) mrange (pa_cons pe_int (pa_cons (pe_op op_add (pv 0) pe_int) pa_nil))) (blkOk_by (N := ["many", "rim", "place"]) (sc := defScope sLWheel) (by decide +kernel)) (fun _ _ _ _ _ => pg_name (i := 2) nd rfl (Or.inl rfl)) (fun _ _ _ _ _ => pts_nil)
          (fun _ _ _ _ _ => pe_lst (pa_cons pe_int (pa_cons (pe_ifExp (pt_cmpR op_gt (pv 2) pe_int (nomark _)) (pe_op op_sub (pv 2) pe_int) (pe_op op_add (pv 0) pe_int)) (pa_cons (pe_ifExp (pt_cmpR op_le (pv 2) (pv 0) (nomark _)) (pe_op op_add (pv 2) pe_int) pe_int) pa_nil)))))
      (pss_one (ps_ret (pe_op op_cat (pe_lst (pa_cons (pe_listRg rfl (by rfl) mlist (prg_2 (by rfl) mrange pe_int (pe_op op_add (pv 0) pe_int))) pa_nil)) (pv 1)))), ?_⟩
    refine q_asgN (B := noH) (R := fun u H' => ∃ l, u = .ref l ∧ LL H' l ((List.range n).map fun i => wheelG n (i + 1))) (noH_ex _) (en_LL ?_) fun u H2 e2 hu => ?_
    · refine en_lc (ei_rng2c (i := 2) (j := (n : Int) + 2) (n := n) (by omega) (Evl.ea_cons Evl.ev_c (Evl.ea_cons (Evl.ev_op (Evl.ev_var rfl) Evl.ev_c Evl.rv_I0) Evl.ea_nil)) (by omega) (by omega)) aims_fn (fun _ => rfl) (by omega) _ fun i hi => en_l (xs := (wheelG n (i + 1)).map V.int) (Evl.el_lst (Evl.ea_cons Evl.ev_c (Evl.ea_cons (Evl.ev_if (b := decide (0 < i)) (Evl.et_is (Evl.et_test (Evl.ev_op (Evl.ev_var rfl) Evl.ev_c Evl.rv_I0)) (decide_eq_decide.mpr (by omega))) (fun hb => Evl.ev_is (Evl.ev_op (Evl.ev_var rfl) Evl.ev_c Evl.rv_I0) ?_) (fun hb => Evl.ev_is (Evl.ev_op (Evl.ev_var rfl) Evl.ev_c Evl.rv_I0) ?_))
        (Evl.ea_cons (Evl.ev_if (b := decide (i + 1 < n)) (Evl.et_is (Evl.et_test (Evl.ev_op (Evl.ev_var rfl) (Evl.ev_var rfl) Evl.rv_I0)) (decide_eq_decide.mpr (by omega))) (fun hb => Evl.ev_is (Evl.ev_op (Evl.ev_var rfl) Evl.ev_c Evl.rv_I0) ?_) (fun hb => Evl.ev_is Evl.ev_c ?_)) Evl.ea_nil))) (by show 3 ≤ 100000; omega))
      · rw [if_pos (of_decide_eq_true hb), show (2 : Int) + i - 1 = i + 1 by omega]
      · rw [if_neg (of_decide_eq_false hb)]
      · rw [if_pos (of_decide_eq_true hb), show (2 : Int) + i + 1 = i + 3 by omega]
      · rw [if_neg (of_decide_eq_false hb)]
    · obtain ⟨l, rfl, hl⟩ := hu (plus noH H H2) (noH_ex _) plus_new
      have hc := en_cat (ta := tLst (tCons (tLstRg (tRg2 (tC (.int 2)) (tOp (rI0 fun i j => V.int (i + j)) (tVar 0) (tC (.int 2))))) tNil)) (tb := tVar 1) (σ := [some (.int (n : Int)), some (.ref l), none]) (B := plus noH H H2) (ts := [wheelG n 0]) (us := (List.range n).map fun i => wheelG n (i + 1)) (en_lst1 (by
        rw [← rg_wheel]
        exact el_rg Evl.ev_c (Evl.ev_op (Evl.ev_var rfl) Evl.ev_c Evl.rv_I0) (RgOk.of_le (by omega) (by omega) (by omega) (by omega)))) (en_LLv rfl hl) (by rw [List.length_map, List.length_range]; show 1 + n ≤ _; omega)
      rw [← wheelT_eq] at hc
      exact s_retB (B := plus noH H H2) plus_le hc fun v H4 e4 hv => q v H4 (e2.trans e4) fun H5 s5 => hv H5 (plus_in (noH_ex _) (noH_ex _) fun a o hn h => s5 a o hn (e4 _ _ h)) fun a o ha hb => s5 a o (Evl.fresh_back e2 ha) hb
set_option maxHeartbeats 2000000 in
theorem ok_lfloor {f : Addr} {fd : FuncData} {k : Nat} (F : Fun K "_law_floor" "_law_floor" sLFloor f fd) (mrange : mg "range" = none) (mint : mg "int" = none) : FnOk P w K mg base CX0 (k + 1) f fd ["wide", "tall"] spLFloor := by
  refine F.ok scLFloor (fun vs H Q E h => ?_) (fun cdv A outer s H vs Q E hr h => ?_)
  · obtain ⟨n, m, rfl, _⟩ := h
    rfl
  · obtain ⟨n, m, rfl, n0, m0, h1, q⟩ := h
    have nd := scLFloor.nd
    refine ⟨_, pss_cons (ps_set (i := 2) nd rfl (.inl rfl) (pe_lst pa_nil))
      (pss_cons (ps_for PassesOwn.never rfl (pi_range2 (by rfl) mrange (pa_cons pe_int (pa_cons (pe_op op_add (pe_op op_mul (pv 0) (pv 1)) pe_int) pa_nil))) (pg_name (i := 3) nd rfl (Or.inl rfl))
        (pss_cons (ps_par (i := 4) (j := 5) (by rfl) nd rfl rfl (by decide) rfl rfl (pa_cons (pe_op op_modN (pe_callTy call_int1 (by rfl) mint (by decide +kernel) (pa_cons (pe_op op_sub (pv 3) pe_int) pa_nil)) (pv 0)) (pa_cons (pe_lst pa_nil) pa_nil)) (by rfl))
        (Evl.pss_cut (ps_if (pt_cmpR op_gt (pv 3) (pv 0) (nomark _)) (pss_one (ps_expr (pe_bm PySem.F.plainAttrs_list PySem.F.slot_list_append PySem.F.type_list_append mt_append (pv 5) (pa_cons (pe_op op_sub (pv 3) (pv 0)) pa_nil)))) pss_nil)
        (Evl.pss_cut (ps_if (pt_cmpR op_lt (pv 4) (pe_op op_sub (pv 0) pe_int) (nomark _)) (pss_one (ps_expr (pe_bm PySem.F.plainAttrs_list PySem.F.slot_list_append PySem.F.type_list_append mt_append (pv 5) (pa_cons (pe_op op_add (pv 3) pe_int) pa_nil)))) pss_nil)
        (Evl.pss_cut (ps_if (pt_cmpR op_le (pe_op op_add (pv 3) (pv 0)) (pe_op op_mul (pv 0) (pv 1)) (nomark _)) (pss_one (ps_expr (pe_bm PySem.F.plainAttrs_list PySem.F.slot_list_append PySem.F.type_list_append mt_append (pv 5) (pa_cons (pe_op op_add (pv 3) (pv 0)) pa_nil)))) pss_nil)
        (Evl.pss_cut (ps_if (pt_cmpR op_gt (pv 4) pe_int (nomark _)) (pss_one (ps_expr (pe_bm PySem.F.plainAttrs_list PySem.F.slot_list_append PySem.F.type_list_append mt_append (pv 5) (pa_cons (pe_op op_sub (pv 3) pe_int) pa_nil)))) pss_nil)
        (pss_one (ps_expr (pe_bm PySem.F.plainAttrs_list PySem.F.slot_list_append PySem.F.type_list_append mt_append (pv 2) (pa_cons (pv 5) pa_nil))))))))))
      (pss_one (ps_ret (pv 2)))), ?_⟩
    have n1 : n ≤ 1000 := Nat.le_trans (Nat.le_mul_of_pos_right n m0) h1
    have m1 : m ≤ 1000 := Nat.le_trans (Nat.le_mul_of_pos_left m n0) h1
    have cm : (n : Int) * (m : Int) = ((n * m : Nat) : Int) := (Int.natCast_mul n m).symm
    have hM : n * m = n * (m - 1) + n := by
      obtain ⟨m', rfl⟩ : ∃ m', m = m' + 1 := ⟨m - 1, by omega⟩
      rw [Nat.add_sub_cancel, Nat.mul_succ]
    refine Evl.q_asgL (xs := []) (Evl.el_lst Evl.ea_nil (Nat.zero_le _)) fun F0 H1 nF e1 hF1 => ?_
    refine q_forI (B := noH) (ei_rng2c (i := 1) (j := (n : Int) * m + 1) (n := n * m) (by rw [cm]; omega) (Evl.ea_cons Evl.ev_c (Evl.ea_cons (Evl.ev_op (Evl.ev_op (Evl.ev_var rfl) (Evl.ev_var rfl) (Evl.rv_I (.inl ⟨by omega, by omega⟩))) Evl.ev_c Evl.rv_I0) Evl.ea_nil)) (by omega) (by rw [cm]; omega)) aims_fn (noH_ex _)
      (fun H5 i σ' H' => ∃ (y3 y4 y5 : Option V) (ga : List Addr), σ' = [some (.int (n : Int)), some (.int (m : Int)), some (.ref F0), y3, y4, y5] ∧ H' F0 = some (.lst (ga.map V.ref)) ∧ RowsL H' ga ((List.range i).map (floorG n m)) ∧ (∀ a ∈ ga, H a = none ∧ a ≠ F0) ∧ Evl.Ex H H' ∧ ∀ b o, b ≠ F0 → H5 b = some o → H' b = some o) (fun H5 e5 => ?_) (fun H5 i σ' H' e5 hi p => ?_) (fun H5 i σ' H' H'' e5 hi p e6 => ?_) (fun H5 σ' H' e5 p => ?_)
    · exact ⟨_, _, _, [], rfl, e5 _ _ hF1, ⟨rfl, fun i a ns h => by simp at h⟩, fun a h => (nomatch h), e1.trans e5, fun _ _ _ h => h⟩
    · obtain ⟨y3, y4, y5, ga, rfl, p1, p2, p3, p4, p5⟩ := p
      exact ⟨noH_ex _, fun b o hn h => p5 b o (fun z => by rw [z, hF1] at hn; cases hn) h⟩
    · obtain ⟨y3, y4, y5, ga, rfl, p1, p2, p3, p4, p5⟩ := p
      have ei : (1 : Int) + i - 1 = (i : Int) := by omega
      refine q_parN (v := .int ((i % n : Nat) : Int)) (Evl.ev_is (Evl.ev_op (ev_int (Evl.ev_op (Evl.ev_var rfl) Evl.ev_c Evl.rv_I0)) (Evl.ev_var rfl) (Evl.rv_I (by omega))) (by rw [ei, fmod_nat])) fun H7 e7 R hR => ?_
      have e67 := e6.trans e7
      have rF : R ≠ F0 := (ne_of_none (e67 _ _ p1) hR).symm
      let T : List Int → L2.St → Hp → Prop := fun xs σ2 Hx => σ2 = [some (.int (n : Int)), some (.int (m : Int)), some (.ref F0), some (.int (1 + (i : Int))), some (.int ((i % n : Nat) : Int)), some (.ref R)] ∧ Evl.Ex H7 Hx ∧ Hx R = some (.lst (xs.map V.int))
      have one : ∀ {c : Prop} [Decidable c] {y : Int}, (if c then [y] else []).length ≤ 1 := fun {c _ y} => by split <;> simp
      have L1 := one (c := n < i + 1) (y := (i : Int) + 1 - n)
      have L2' := one (c := 0 < (i + 1) % n) (y := (i : Int) + 2)
      have L3 := one (c := i + 1 ≤ n * (m - 1)) (y := (i : Int) + 1 + n)
      refine Evl.q_cut (M := T ([] ++ (if n < i + 1 then [(i : Int) + 1 - n] else []))) (s_ifApp rfl hR (Evl.Ex.new hR) (xs := []) upd_same (by decide) (Evl.et_is (Evl.et_test (Evl.ev_op (Evl.ev_var rfl) (Evl.ev_var rfl) Evl.rv_I0)) (decide_eq_decide.mpr (by omega))) (Evl.ev_is (Evl.ev_op (Evl.ev_var rfl) (Evl.ev_var rfl) Evl.rv_I0) (by rw [show (1 : Int) + i = i + 1 by omega])) fun H8 e8 h8 => ⟨rfl, e8, h8⟩) fun σ2 H8 hM1 => ?_
      obtain ⟨rfl, e8, h8⟩ := hM1
      refine Evl.q_cut (M := T (([] ++ (if n < i + 1 then [(i : Int) + 1 - n] else [])) ++ (if 0 < (i + 1) % n then [(i : Int) + 2] else []))) (s_ifApp rfl hR e8 h8 (by rw [List.nil_append]; omega) (Evl.et_is (Evl.et_test (Evl.ev_op (Evl.ev_var rfl) (Evl.ev_op (Evl.ev_var rfl) Evl.ev_c Evl.rv_I0) Evl.rv_I0)) (decide_eq_decide.mpr (mod_step n0))) (Evl.ev_is (Evl.ev_op (Evl.ev_var rfl) Evl.ev_c Evl.rv_I0) (by rw [show (1 : Int) + i + 1 = i + 2 by omega])) fun H9 e9 h9 => ⟨rfl, e9, h9⟩) fun σ3 H9 hM2 => ?_
      obtain ⟨rfl, e9, h9⟩ := hM2
      refine Evl.q_cut (M := T ((([] ++ (if n < i + 1 then [(i : Int) + 1 - n] else [])) ++ (if 0 < (i + 1) % n then [(i : Int) + 2] else [])) ++ (if i + 1 ≤ n * (m - 1) then [(i : Int) + 1 + n] else []))) (s_ifApp rfl hR e9 h9 (by rw [List.nil_append, List.length_append]; omega) (Evl.et_is (Evl.et_test (Evl.ev_op (Evl.ev_op (Evl.ev_var rfl) (Evl.ev_var rfl) Evl.rv_I0) (Evl.ev_op (Evl.ev_var rfl) (Evl.ev_var rfl) (Evl.rv_I (.inl ⟨by omega, by omega⟩))) Evl.rv_I0)) (decide_eq_decide.mpr (by rw [cm]; omega))) (Evl.ev_is (Evl.ev_op (Evl.ev_var rfl) (Evl.ev_var rfl) Evl.rv_I0) (by rw [show (1 : Int) + i + n = i + 1 + n by omega])) fun Ha ea ha => ⟨rfl, ea, ha⟩) fun σ4 Ha hM3 => ?_
      obtain ⟨rfl, ea, ha⟩ := hM3
      refine Evl.q_cut (M := T (floorG n m i)) (s_ifApp (c := 0 < i % n) (y := (i : Int)) rfl hR ea ha (by rw [List.nil_append, List.length_append, List.length_append]; omega) (Evl.et_is (Evl.et_test (Evl.ev_op (Evl.ev_var rfl) Evl.ev_c Evl.rv_I0)) (decide_eq_decide.mpr (by omega))) (Evl.ev_is (Evl.ev_op (Evl.ev_var rfl) Evl.ev_c Evl.rv_I0) (by rw [ei])) fun Hb eb hb => ⟨rfl, eb, ?_⟩) fun σ5 Hb hM4 => ?_
      · rw [List.nil_append] at hb
        exact hb
      obtain ⟨rfl, eb, hb⟩ := hM4
      have e6b := e67.trans eb
      refine Evl.s_app (e6b _ _ p1) (Evl.ev_var rfl) (Evl.ev_var rfl) (by rw [List.length_map, p2.1, List.length_map, List.length_range]; omega) fun Hc ec => ?_
      have e6c := e6b.trans ec
      refine ⟨_, _, _, ga ++ [R], rfl, by rw [upd_same, List.map_append] <;> rfl, ?_, fun a ha2 => ?_, (p4.trans e6c).mut nF, fun b o hne h => by rw [upd_ne hne]; exact e6c _ _ (p5 b o hne h)⟩
      · rw [List.range_succ, List.map_append]
        refine rowsL_app ⟨p2.1, fun j a ns hj hn => ?_⟩ ⟨rfl, fun j a ns hj hn => ?_⟩
        · rw [upd_ne (p3 a (List.mem_of_getElem? hj)).2]
          exact e6c _ _ (p2.2 j a ns hj hn)
        · cases j with
          | zero =>
            cases hj
            cases hn
            rw [upd_ne rF]
            exact ec _ _ hb
          | succ j => simp at hj
      · rcases List.mem_append.mp ha2 with h | h
        · exact p3 a h
        · rw [List.mem_singleton.mp h]
          exact ⟨Evl.fresh_back (p4.trans e67) hR, rF⟩
    · obtain ⟨y3, y4, y5, ga, rfl, p1, p2, p3, p4, p5⟩ := p
      exact Evl.s_ret (Evl.ev_var rfl) fun H6 e6 => q _ H6 (p4.trans e6) fun H7 s7 => ⟨F0, rfl, ga, s7 _ _ nF (e6 _ _ p1), p2.1, fun j a ns hj hn => s7 _ _ (p3 a (List.mem_of_getElem? hj)).1 (e6 _ _ (p2.2 j a ns hj hn))⟩
end
end Tl
end S_Yu
section S_Yv
namespace Tl
open PySem PySem.Spec PyProof.Rows L2
theorem piled_le : ∀ {ts : List Str} {c : Nat}, (∀ t ∈ ts, t.length ≤ c) → piled ts ≤ ts.length * (c + 2)
  | [], c, _ => Nat.zero_le _
  | t :: r, c, h => by
    have h1 := h t List.mem_cons_self
    have h2 := piled_le (ts := r) (c := c) fun u hu => h u (List.mem_cons_of_mem _ hu)
    rw [List.length_cons, Nat.succ_mul]
    show t.length + 2 + piled r ≤ _
    omega
theorem tupText_le {ts : List Str} {c : Nat} (h : ∀ t ∈ ts, t.length ≤ c) : (tupleText ts).length ≤ ts.length * (c + 2) + 3 := by
  unfold tupleText
  rw [strLen_append, strLen_append]
  have e1 : (("(" : String) : Str).length = 1 := rfl
  have e2 : (((if ts.length == 1 then ",)" else ")" : String)) : Str).length ≤ 2 := by split <;> decide
  have e3 : (Str.join ", " ts).length ≤ piled ts := by
    cases ts with
    | nil => exact Nat.le_refl _
    | cons t r => have := join_length_add (t :: r) (by simp); omega
  have := piled_le h
  omega
theorem shownAll_eq : ∀ ds : List PyData, PyData.shownAll ds = ds.map PyData.shown
  | [] => rfl
  | d :: r => by rw [PyData.shownAll, shownAll_eq r] <;> rfl
/-- few enough to be shown -/
structure Small (ts : List (List Int)) : Prop where
  len : ts.length ≤ 64
  rows : ∀ ns ∈ ts, ns.length ≤ 64 ∧ ∀ x ∈ ns, x.natAbs ≤ 64
theorem show_len {ts : List (List Int)} (h : Small ts) : (dT ts).shown.length ≤ sizeLine := by
  have h1 : ∀ t ∈ (ts.map fun ns => PyData.tuple (ns.map PyData.int)).map PyData.shown, t.length ≤ 64 * 68 + 3 := by
    intro t ht
    rw [List.map_map] at ht
    obtain ⟨ns, hns, rfl⟩ := List.mem_map.mp ht
    obtain ⟨a1, a2⟩ := h.rows ns hns
    show (tupleText (PyData.shownAll (ns.map PyData.int))).length ≤ _
    rw [shownAll_eq]
    have := tupText_le (ts := (ns.map PyData.int).map PyData.shown) (c := 66) fun u hu => by
      rw [List.map_map] at hu
      obtain ⟨x, hx, rfl⟩ := List.mem_map.mp hu
      have b1 := len_str_of_int x
      have b2 := a2 x hx
      show (Str.ofString (toString x)).length ≤ 66
      omega
    rw [List.length_map, List.length_map] at this
    have : ns.length * (66 + 2) ≤ 64 * 68 := Nat.mul_le_mul a1 (Nat.le_refl _)
    omega
  show (tupleText (PyData.shownAll _)).length ≤ _
  rw [shownAll_eq]
  have h2 := tupText_le h1
  rw [List.length_map, List.length_map] at h2
  have h3 : ts.length * (64 * 68 + 3 + 2) ≤ 64 * (64 * 68 + 3 + 2) := Nat.mul_le_mul h.len (Nat.le_refl _)
  exact Nat.le_trans h2 (Nat.le_trans (Nat.add_le_add_right h3 3) (by decide))
theorem show_ok : ∀ {ts : List (List Int)}, Small ts → (dT ts).showable = true := by
  intro ts h
  show PyData.showableAll (ts.map fun ns => PyData.tuple (ns.map PyData.int)) = true
  have one : ∀ ns : List Int, (∀ x ∈ ns, x.natAbs ≤ 64) → PyData.showableAll (ns.map PyData.int) = true := by
    intro ns
    induction ns with
    | nil => exact fun _ => rfl
    | cons x r ih =>
      intro hx
      show (decide (x.natAbs.log2 < 1920) && PyData.showableAll (r.map PyData.int)) = true
      rw [ih fun y hy => hx y (List.mem_cons_of_mem _ hy), Bool.and_true]
      have h1 := hx x List.mem_cons_self
      refine decide_eq_true (Nat.lt_of_le_of_lt (Nat.log2_le_self _) (by omega))
  have hr := h.rows
  clear h
  induction ts with
  | nil => rfl
  | cons ns r ih =>
    show (PyData.showableAll (ns.map PyData.int) && PyData.showableAll (r.map fun ns => PyData.tuple (ns.map PyData.int))) = true
    rw [one ns (hr ns List.mem_cons_self).2, ih fun m hm => hr m (List.mem_cons_of_mem _ hm)]
    rfl
theorem show_nd : ∀ ts : List (List Int), (dT ts).hasDict = false := by
  intro ts
  show PyData.hasDictAll (ts.map fun ns => PyData.tuple (ns.map PyData.int)) = false
  have one : ∀ ns : List Int, PyData.hasDictAll (ns.map PyData.int) = false := by
    intro ns
    induction ns with
    | nil => rfl
    | cons x r ih => show (false || PyData.hasDictAll (r.map PyData.int)) = false; rw [ih] <;> rfl
  induction ts with
  | nil => rfl
  | cons ns r ih =>
    show (PyData.hasDictAll (ns.map PyData.int) || PyData.hasDictAll (r.map fun ns => PyData.tuple (ns.map PyData.int))) = false
    rw [one, ih]
    rfl
theorem show_deep (ts : List (List Int)) : (dT ts).depth ≤ 20 := by
  show PyData.depthAll (ts.map fun ns => .tuple (ns.map PyData.int)) + 1 ≤ 20
  have := dT_deep ts
  omega
end Tl
end S_Yv
section S_Yx
namespace Tl
open PySem PySem.Spec PyProof.Rows L2
/-- the two walks find the same faces, as many as a flat web has, and all places are come to -/
def chk (ts : List (List Int)) : Bool :=
  match facesM ts, facesFromL ts 400 0 ts (some ([], [])), reach ts 400 ([1], [1]) with
  | some fs, some r, some fd => (decide (ts.length = 1) || decide (fs = r.2)) && decide ((ts.length : Int) - (tiesOf ts).length + fs.length = 2) && decide (fs.length ≤ 1000) && decide (r.1.length ≤ 1000) && decide (fd.length = ts.length) && decide (fd.length < 64)
  | _, _, _ => false
def small (ts : List (List Int)) : Bool := decide (ts.length ≤ 64) && ts.all fun ns => decide (ns.length ≤ 64) && ns.all fun x => decide (x.natAbs ≤ 64)
def tri (ts : List (List Int)) : Option Bool := (facesM ts).map fun fs => decide (2 < ts.length) && fs.all fun f => decide (f.length = 3)
theorem rings_ok : ((List.range 12).all fun j => chk (ringT (j + 3)) && small (ringT (j + 3)) && decide (tri (ringT (j + 3)) = some (decide (j = 0)))) = true := by decide +kernel
theorem wheels_ok : ((List.range 12).all fun j => chk (wheelT (j + 3)) && small (wheelT (j + 3)) && decide (tri (wheelT (j + 3)) = some (decide (j = 0)))) = true := by decide +kernel
theorem floors_ok : ((List.range 6).all fun i => (List.range 6).all fun j => chk (floorT (i + 1) (j + 1)) && small (floorT (i + 1) (j + 1)) && decide (tri (floorT (i + 1) (j + 1)) = some false)) = true := by decide +kernel
end Tl
end S_Yx
section S_Yy
namespace Tl
open PySem PySem.Spec PyProof.Rows L2
section
open Evl
variable {K : PySem.W.Frag} {σ : L2.St} {H : Hp}
theorem ev_reprTT {te : TE} {ts : List (List Int)} (S : Small ts) (h : EvN te σ H (fun u H' => ∃ t, u = .ref t ∧ TT H' t ts)) : Ev (tCB (rRepr K) (tCons te tNil)) σ H (.str (dT ts).shown) := fun H1 e Q q =>
  h H1 e _ fun v H2 e2 hv => by
    obtain ⟨t, rfl, ht⟩ := hv H2 (e.trans e2) fun _ _ _ h => h
    exact ⟨t, dT ts, rfl, ht.dp, show_ok S, show_nd ts, show_deep ts, show_len S, q H2 e2⟩
theorem ev_eqTT {ta tb : TE} {ts : List (List Int)} (h1 : EvN ta σ H (fun u H' => ∃ t, u = .ref t ∧ TT H' t ts)) (h2 : EvN tb σ H (fun u H' => ∃ t, u = .ref t ∧ TT H' t ts)) : Ev (tOp (rEqD K) ta tb) σ H (.bl true) := fun H1 e Q q =>
  h1 H1 e _ fun v H2 e2 hv => h2 H2 (e.trans e2) _ fun u H3 e3 hu => by
    obtain ⟨t, rfl, ht⟩ := hv H3 ((e.trans e2).trans e3) fun a o hn h => e3 _ _ h
    obtain ⟨r, rfl, hr⟩ := hu H3 ((e.trans e2).trans e3) fun _ _ _ h => h
    refine ⟨dT ts, dT ts, ht.dp, hr.dp, dT_shaped ts, dT_shaped ts, ?_⟩
    rw [dT_same]
    exact q H3 (e2.trans e3)
theorem en_fldT {C x dx : Addr} {i t n ti : Nat} {ts : List (List Int)} {mg : Str → Option Value} (T : TWeb K mg C) (hs : σ[i]? = some (some (.ref x))) (h1 : H x = some (.ins C dx (wf t n ti))) (h2 : TT H t ts) : EvN (tFld K (tVar i) "turns") σ H (fun u H' => ∃ t, u = .ref t ∧ TT H' t ts) := fun H1 e Q q =>
  ev_fld (K := K) (ev_var hs) h1 T.cl T.nT (wf_t _ _ _) H1 e Q fun H2 e2 => q _ H2 e2 fun H3 h3 _ => ⟨t, rfl, h2.ex h3⟩
/-- turns == [[]] -/
theorem ev_eq11 {ta tb : TE} (h1 : EvN ta σ H (fun u H' => ∃ t, u = .ref t ∧ LL H' t [[]])) (h2 : EvN tb σ H (fun u H' => ∃ t, u = .ref t ∧ LL H' t [[]])) : Ev (tOp (rEqD K) ta tb) σ H (.bl true) := fun H1 e Q q =>
  h1 H1 e _ fun v H2 e2 hv => h2 H2 (e.trans e2) _ fun u H3 e3 hu => by
    obtain ⟨t, rfl, ht⟩ := hv H3 ((e.trans e2).trans e3) fun a o hn h => e3 _ _ h
    obtain ⟨r, rfl, hr⟩ := hu H3 ((e.trans e2).trans e3) fun _ _ _ h => h
    have dp : ∀ {l : Addr}, LL H3 l [[]] → Dp K H3 (.ref l) (.list [.list []]) := fun {l} h => by
      obtain ⟨as, a1, a2, a3⟩ := h
      match as, a2 with
      | [a], _ => exact .lst (sq_of a1) (.cons (.lst (sq_of (a3 0 a [] rfl rfl)) .nil) .nil)
    have sh : SeqAt.shaped (.list [.list []]) = true := by decide +kernel
    refine ⟨.list [.list []], .list [.list []], dp ht, dp hr, sh, sh, ?_⟩
    rw [SeqAt.eqv_refl _ (SeqAt.canLay_of_shaped sh)]
    exact q H3 (e2.trans e3)
end
theorem scSame : FnScope ["web", "turns", "turn"] ["web", "turns"] (defScope sSame) := ⟨rfl, rfl, rfl, by decide +kernel, rfl, by decide +kernel, by decide +kernel⟩
theorem scLFlat : FnScope ["web", "turns", "faces", "face"] ["web", "turns"] (defScope sLFlat) := ⟨rfl, rfl, rfl, by decide +kernel, rfl, by decide +kernel, by decide +kernel⟩
def spSame (C : Addr) : Sp := fun vs H Q _ => ∃ (x l : Addr) (ts : List (List Int)), vs = [.ref x, .ref l] ∧ WebAt C H x ts ∧ LL H l ts ∧ Small ts ∧ ∀ H', Evl.Ex H H' → Q (.bl true) H'
structure Fine (ts : List (List Int)) : Prop where
  okT : OkT ts
  sm : Small ts
  ch : chk ts = true
  one : ts.length = 1 → ts = [[]]
def spLFlat (C : Addr) : Sp := fun vs H Q _ => ∃ (x l : Addr) (ts : List (List Int)), vs = [.ref x, .ref l] ∧ WebAt C H x ts ∧ LL H l ts ∧ Fine ts ∧ ∀ H', Evl.Ex H H' → Q (.bl true) H'
theorem chk_of {ts : List (List Int)} (h : chk ts = true) : ∃ fs s2 fl, facesM ts = some fs ∧ facesFromL ts 400 0 ts (some ([], [])) = some (s2, fl) ∧ (ts.length = 1 ∨ fs = fl) ∧ s2.length ≤ 1000 ∧ fs.length ≤ 1000 ∧ FlatM ts fs := by
  unfold chk at h
  split at h
  · rename_i fs r fd h1 h2 h3
    obtain ⟨s2, fl⟩ := r
    simp only [Bool.and_eq_true, Bool.or_eq_true, decide_eq_true_eq] at h
    obtain ⟨⟨⟨⟨⟨a1, a2⟩, a3⟩, a4⟩, a5⟩, a6⟩ := h
    exact ⟨fs, s2, fl, h1, h2, a1, a4, a3, ⟨h1, by omega, ⟨400, fd, h3, a5, a6⟩, a2⟩⟩
  · cases h
section
variable {P : Program} {w : World} {K : PySem.W.Frag} {mg : Str → Option Value} {base : Heap}
theorem ok_same {C f : Addr} {fd : FuncData} {k : Nat} (F : Fun K "_law_same" "_law_same" sSame f fd) (T : TWeb K mg C) (mrepr : mg "repr" = none) (mtup : mg "tuple" = none) (mlen : mg "len" = none) : FnG P w K mg base (k + 1) f fd ["web", "turns"] (spSame C) := by
  refine fn_g F scSame (fun {vs H Q E} h => ?_) (fun cdv A outer s H vs Q E hgd hr h => ?_)
  · obtain ⟨x, l, ts, rfl, _⟩ := h
    rfl
  · obtain ⟨x, l, ts, rfl, hW, hL, hS, q⟩ := h
    have nd := scSame.nd
    refine ⟨_, pss_one (ps_ret (pe_and (pe_cmpR op_eq (pe_callB (call_reprD hgd hr.units) (by rfl) mrepr (by decide +kernel) (pa_cons (pe_fld (pv 0) rfl) pa_nil)) (pe_callB (call_reprD hgd hr.units) (by rfl) mrepr (by decide +kernel) (pa_cons (pe_callTy call_tuple_of (by rfl) mtup (by decide +kernel) (pa_cons
          (pe_lc (own := [("turn", 2)]) (g := gName 2) (tt := tYes) (te := tCB (rTup K) (tCons (tVar 2) tNil)) rfl nd (pi_list (pv 1)) (blkOk_by (N := ["web", "turns", "turn"]) (sc := defScope sSame) (by decide +kernel)) (fun _ _ _ _ _ => pg_name (i := 2) nd rfl (Or.inl rfl)) (fun _ _ _ _ _ => pts_nil)
            (fun _ _ _ _ _ => pe_callTy call_tuple_of (by rfl) mtup (by decide +kernel) (pa_cons (pv 2) pa_nil))) pa_nil)) pa_nil)) (nomark _))
        (pe_one (pe_cmpR op_eq (pe_fld (pv 0) rfl) (pe_callB call_len_seq (by rfl) mlen PySem.boot_len (pa_cons (pv 1) pa_nil)) (nomark _))))), ?_⟩
    obtain ⟨dx, t, ti, h1, h2, h3⟩ := id hW
    obtain ⟨as, hl, hal, hrow⟩ := id hL
    have := hS.len
    refine Evl.s_ret (v := .bl true) (Evl.ev_is (Evl.ev_andV (a := true) (b := true) (Evl.ev_is (Evl.ev_op (ev_reprTT (K := K) hS (en_fldT T rfl h1 h2)) (ev_reprTT (K := K) hS (en_tuples (K := K) (i := 1) (j := 2) rfl (fun _ => rfl) (fun _ => rfl) hL (by omega))) (Evl.rv_eq rfl)) (by rw [decide_eq_true rfl])) fun _ =>
      Evl.ev_is (Evl.ev_op (ev_fld (Evl.ev_var rfl) h1 T.cl T.nM (wf_m _ _ _)) (Evl.ev_len (Evl.ev_var rfl) (Evl.sq_of hl)) (Evl.rv_eq rfl)) (by rw [List.length_map, hal, decide_eq_true rfl])) rfl) q
set_option maxHeartbeats 2000000 in
theorem ok_lflat {C f fS fL fF : Addr} {fd fdS fdL fdF : FuncData} {k : Nat} (F : Fun K "_law_flat" "_law_flat" sLFlat f fd) (T : TWeb K mg C)
    (FS : Fun K "_law_same" "_law_same" sSame fS fdS) (GS : FnG P w K mg base k fS fdS ["web", "turns"] (spSame C)) (bS : Binds K fdS ["web", "turns"] []) (gS : mg "_law_same" = some (.ref fS))
    (FL : Fun K "_law_faces" "_law_faces" sLFaces fL fdL) (GL : FnOk P w K mg base CX0 k fL fdL ["turns"] spLFaces) (bL : Binds K fdL ["turns"] []) (gL : mg "_law_faces" = some (.ref fL))
    (FF : Fun K "faces_of" "faces_of" sFaces fF fdF) (GF : FnOk P w K mg base CX0 k fF fdF ["web"] (spFaces C)) (bF : Binds K fdF ["web"] []) (gF : mg "faces_of" = some (.ref fF))
    (mtup : mg "tuple" = none) (mlen : mg "len" = none) : FnG P w K mg base (k + 1) f fd ["web", "turns"] (spLFlat C) := by
  refine fn_g F scLFlat (fun {vs H Q E} h => ?_) (fun cdv A outer s H vs Q E hgd hr h => ?_)
  · obtain ⟨x, l, ts, rfl, _⟩ := h
    rfl
  · obtain ⟨x, l, ts, rfl, hW, hL, hF, q⟩ := h
    have nd := scLFlat.nd
    refine ⟨_, pss_cons (ps_if (pt_not (pt_val (pe_callG GS hgd hr (by rfl) gS FS.kp bS pass0 (pa_cons (pv 0) (pa_cons (pv 1) pa_nil))))) (pss_one (ps_ret pe_bl)) pss_nil)
      (pss_cons (ps_if (pt_cmpR op_eq (pe_callB call_len_seq (by rfl) mlen PySem.boot_len (pa_cons (pv 1) pa_nil)) pe_int (nomark _)) (pss_one (ps_ret (pe_cmpR (op_eqD hr.units) (pv 1) (pe_lst (pa_cons (pe_lst pa_nil) pa_nil)) (nomark _)))) pss_nil)
      (pss_cons (ps_set (i := 2) nd rfl (.inl rfl) (pe_call GL hr (by rfl) gL FL.kp bL .nil pass0 (pa_cons (pv 1) pa_nil)))
      (pss_one (ps_ret (pe_and (pe_cmpR op_eq (pe_op op_add (pe_op op_sub (pe_callB call_len_seq (by rfl) mlen PySem.boot_len (pa_cons (pv 1) pa_nil)) (pe_callB call_len_seq (by rfl) mlen PySem.boot_len (pa_cons (pe_fld (pv 0) rfl) pa_nil))) (pe_callB call_len_seq (by rfl) mlen PySem.boot_len (pa_cons (pv 2) pa_nil))) pe_int (nomark _))
        (pe_one (pe_cmpR (op_eqD hr.units) (pe_call GF hr (by rfl) gF FF.kp bF .nil pass0 (pa_cons (pv 0) pa_nil)) (pe_callTy call_tuple_of (by rfl) mtup (by decide +kernel) (pa_cons
          (pe_lc (own := [("face", 3)]) (g := gName 3) (tt := tYes) (te := tCB (rTup K) (tCons (tVar 3) tNil)) rfl nd (pi_list (pv 2)) (blkOk_by (N := ["web", "turns", "faces", "face"]) (sc := defScope sLFlat) (by decide +kernel)) (fun _ _ _ _ _ => pg_name (i := 3) nd rfl (Or.inl rfl)) (fun _ _ _ _ _ => pts_nil)
            (fun _ _ _ _ _ => pe_callTy call_tuple_of (by rfl) mtup (by decide +kernel) (pa_cons (pv 3) pa_nil))) pa_nil)) (nomark _)))))))), ?_⟩
    obtain ⟨dx, t, ti, h1, h2, xs, h3, h4, _⟩ := id hW
    obtain ⟨as, hl, hal, hrow⟩ := id hL
    have hlm : (as.map V.ref).length = ts.length := by rw [List.length_map, hal]
    have hmost := hF.okT.most
    refine Evl.q_when (b := false) (Evl.et_is (Evl.et_not (Evl.et_B (Evl.ev_call (sp := spSame C) (Evl.ea_cons (Evl.ev_var rfl) (Evl.ea_cons (Evl.ev_var rfl) Evl.ea_nil)) fun H1 e1 Q1 q1 E1 => ⟨x, l, ts, rfl, hW.ex e1, hL.ex e1, hF.sm, q1⟩))) rfl) (fun z => by cases z) fun _ H1 e1 => ?_
    refine Evl.q_when (b := decide (ts.length = 1)) (Evl.et_is (Evl.et_test (Evl.ev_op (Evl.ev_len (Evl.ev_var rfl) (Evl.sq_of (e1 _ _ hl))) Evl.ev_c (Evl.rv_eq rfl))) (decide_eq_decide.mpr ⟨fun z => by have := V.int.inj z; omega, fun z => by rw [hlm, z] <;> rfl⟩)) (fun hb H2 e2 => ?_) (fun hb H2 e2 => ?_)
    · have e11 := hF.one (of_decide_eq_true hb)
      subst e11
      exact Evl.s_ret (ev_eq11 (en_LLv rfl (hL.ex (e1.trans e2))) (en_lst1 (ns := []) (Evl.el_lst Evl.ea_nil (Nat.zero_le _)))) fun H3 e3 => q H3 ((e1.trans e2).trans e3)
    · obtain ⟨fs, s2, fl, c1, c2, c3, c4, c5, c6⟩ := chk_of hF.ch
      have e12 := c3.resolve_left (of_decide_eq_false hb)
      subst e12
      have e02 := e1.trans e2
      have eu := c6.euler
      refine ⟨_, rfl, l, ts, fs, s2, rfl, hL.ex e02, hmost, c2, by omega, by omega, fun F0 H3 e3 hF3 => ?_⟩
      have e03 := e02.trans e3
      obtain ⟨ga, g1, g2, g3⟩ := id hF3
      refine Evl.s_ret (v := .bl true) (Evl.ev_is (Evl.ev_andV (a := true) (b := true) (Evl.ev_is (Evl.ev_op (Evl.ev_op (Evl.ev_op (Evl.ev_len (Evl.ev_var rfl) (Evl.sq_of (e03 _ _ hl))) (ev_lenT (ev_fld (Evl.ev_var rfl) (e03 _ _ h1) T.cl T.nI (wf_i _ _ _)) (Evl.st_of (e03 _ _ h3))) Evl.rv_I0) (Evl.ev_len (Evl.ev_var rfl) (Evl.sq_of g1)) Evl.rv_I0) Evl.ev_c (Evl.rv_eq rfl)) ?_) fun _ =>
        ev_eqTT (en_call (vs := [.ref x]) (Evl.ea_cons (Evl.ev_var rfl) Evl.ea_nil) (sn_faces (hW.ex e03) hF.okT c1 (by omega))) (en_tuples (K := K) (i := 2) (j := 3) rfl (fun _ => rfl) (fun _ => rfl) hF3 (by omega))) rfl) fun H4 e4 => q H4 (e03.trans e4)
      rw [hlm, List.length_map, g2, h4, eu, decide_eq_true rfl]
end
end Tl
end S_Yy
section S_YL
namespace Tl
open PySem PySem.Spec PyProof.Rows L2
/-! ### the webs of the law are fine -/
theorem small_of {ts : List (List Int)} (h : small ts = true) : Small ts := by
  unfold small at h
  rw [Bool.and_eq_true, decide_eq_true_eq, List.all_eq_true] at h
  refine ⟨h.1, fun ns hns => ?_⟩
  have h2 := h.2 ns hns
  rw [Bool.and_eq_true, decide_eq_true_eq, List.all_eq_true] at h2
  exact ⟨h2.1, fun x hx => of_decide_eq_true (h2.2 x hx)⟩
/-- fine, and whether it is filled -/
structure FineB (ts : List (List Int)) (b : Bool) : Prop where
  fine : Fine ts
  tri : ∃ fs, FlatM ts fs ∧ (decide (2 < ts.length) && fs.all fun f => decide (f.length = 3)) = b
theorem fineB_of {ts : List (List Int)} {b : Bool} (h : (chk ts && small ts && decide (tri ts = some b)) = true) (hT : OkT ts) (h1 : ts.length = 1 → ts = [[]]) : FineB ts b := by
  rw [Bool.and_eq_true, Bool.and_eq_true, decide_eq_true_eq] at h
  obtain ⟨⟨a1, a2⟩, a3⟩ := h
  obtain ⟨fs, s2, fl, c1, _, _, _, _, c6⟩ := chk_of a1
  refine ⟨⟨hT, small_of a2, a1, h1⟩, fs, c6, ?_⟩
  unfold tri at a3
  rw [c1] at a3
  exact Option.some.inj a3
theorem fine_ring {j : Nat} (hj : j < 12) : FineB (ringT (j + 3)) (decide (j = 0)) := fineB_of (List.all_eq_true.mp rings_ok j (List.mem_range.mpr hj)) (ok_ringT (by omega) (by omega)) fun h => by
  unfold ringT at h
  rw [List.length_map, List.length_range] at h
  omega
theorem fine_wheel {j : Nat} (hj : j < 12) : FineB (wheelT (j + 3)) (decide (j = 0)) := fineB_of (List.all_eq_true.mp wheels_ok j (List.mem_range.mpr hj)) (ok_wheelT (by omega) (by omega)) fun h => by
  unfold wheelT at h
  rw [List.length_map, List.length_range] at h
  omega
theorem fine_floor {a b : Nat} (ha : a < 6) (hb : b < 6) : FineB (floorT (a + 1) (b + 1)) false := by
  have hab : (a + 1) * (b + 1) ≤ 6 * 6 := Nat.mul_le_mul (by omega) (by omega)
  refine fineB_of (List.all_eq_true.mp (List.all_eq_true.mp floors_ok a (List.mem_range.mpr ha)) b (List.mem_range.mpr hb)) (ok_floorT (by omega) (by omega) (by omega)) fun h => ?_
  unfold floorT at h ⊢
  rw [List.length_map, List.length_range] at h
  have e1 : a + 1 = 1 := Nat.eq_one_of_mul_eq_one_right h
  have e2 : b + 1 = 1 := Nat.eq_one_of_mul_eq_one_left h
  rw [e1, e2]
  decide +kernel
section
open Evl
variable {K : PySem.W.Frag} {σ : L2.St} {H : Hp}
abbrev IsW (C : Addr) (ts : List (List Int)) : V → Hp → Prop := fun u H' => ∃ x, u = .ref x ∧ WebAt C H' x ts
abbrev IsLL (ts : List (List Int)) : V → Hp → Prop := fun u H' => ∃ l, u = .ref l ∧ LL H' l ts
theorem en_callN {sp : Sp} {m : Nat} {gV : List V → List V → List V} {E : XK} {tk : TA} {zs : List V} {R : V → Hp → Prop} (h : EvA tk σ H zs) (hl : zs.length = m) (hs : SpN sp (gV [] zs) H R) : EvN (tCallN 0 m sp gV E tNil tk) σ H R := fun H1 e Q q =>
  h H1 e _ fun H2 e2 => ⟨rfl, hl, hs H2 (e.trans e2) Q (fun v H3 e3 hv => q v H3 (e2.trans e3) fun H4 h4 s4 => hv H4 h4 fun a o ha hc => s4 a o (fresh_back e2 ha) hc) E⟩
theorem sn_pure {sp : Sp} {vs : List V} {R : V → Hp → Prop} (h : ∀ (H : Hp) (Q : VK) (E : XK), Pure1 H Q R → sp vs H Q E) : SpN sp vs H R := fun H1 e Q q E => h H1 Q E fun v H2 e2 hv => q v H2 e2 fun H3 _ s3 => hv H3 s3
theorem ev_flat {C : Addr} {E : XK} {ta tb : TE} {ts : List (List Int)} (h1 : EvN ta σ H (IsW C ts)) (h2 : EvN tb σ H (IsLL ts)) (F : Fine ts) : Ev (tCall (spLFlat C) [] E (tCons ta (tCons tb tNil))) σ H (.bl true) := fun H1 e Q q =>
  h1 H1 e _ fun v H2 e2 hv => h2 H2 (e.trans e2) _ fun u H3 e3 hu => by
    obtain ⟨x, rfl, hx⟩ := hv H3 ((e.trans e2).trans e3) fun a o hn h => e3 _ _ h
    obtain ⟨l, rfl, hl⟩ := hu H3 ((e.trans e2).trans e3) fun _ _ _ h => h
    exact ⟨x, l, ts, rfl, hx, hl, F, fun H4 e4 => q H4 ((e2.trans e3).trans e4)⟩
theorem ev_filled {C : Addr} {E : XK} {ta : TE} {ts : List (List Int)} {b : Bool} (h1 : EvN ta σ H (IsW C ts)) (F : FineB ts b) : Ev (tCall (spFilled C) [] E (tCons ta tNil)) σ H (.bl b) := fun H1 e Q q =>
  h1 H1 e _ fun v H2 e2 hv => by
    obtain ⟨x, rfl, hx⟩ := hv H2 (e.trans e2) fun _ _ _ h => h
    obtain ⟨fs, f1, f2⟩ := F.tri
    refine ⟨x, ts, fs, rfl, hx, F.fine.okT, f1, fun H3 e3 => ?_⟩
    rw [f2]
    exact q H3 (e2.trans e3)
theorem ev_repr3 {tl : TE} {x y z : Bool} (h : EvL tl σ H [.bl x, .bl y, .bl z]) : Ev (tCB (rRepr K) (tCons tl tNil)) σ H (.str (PyData.list [.bool x, .bool y, .bool z]).shown) := fun H1 e Q q =>
  h H1 e _ fun p H2 _ e2 h2 => ⟨p, _, rfl, .lst (sq_of h2) (.cons (.bl x) (.cons (.bl y) (.cons (.bl z) .nil))), rfl, rfl, (by show (PyData.list [.bool x, .bool y, .bool z]).depth ≤ 20; cases x <;> cases y <;> cases z <;> decide +kernel), (by cases x <;> cases y <;> cases z <;> decide +kernel), q H2 e2⟩
theorem ev_many {mg : Str → Option Value} {C : Addr} {ta : TE} {ts : List (List Int)} (T : TWeb K mg C) (h1 : EvN ta σ H (IsW C ts)) : Ev (tFld K ta "many") σ H (.int (ts.length : Int)) := fun H1 e Q q =>
  h1 H1 e _ fun v H2 e2 hv => by
    obtain ⟨x, rfl, dx, t, ti, hx, _⟩ := hv H2 (e.trans e2) fun _ _ _ h => h
    exact ⟨x, C, dx, _, _, rfl, hx, T.cl, T.nM, wf_m _ _ _, q H2 e2⟩
theorem ev_eqW {C : Addr} {ta tb : TE} {ts : List (List Int)} (h1 : EvN ta σ H (IsW C ts)) (h2 : EvN tb σ H (IsW C ts)) : Ev (tOp (rEqG (DIns C (SameWeb C))) ta tb) σ H (.bl true) := fun H1 e Q q =>
  h1 H1 e _ fun v H2 e2 hv => h2 H2 (e.trans e2) _ fun u H3 e3 hu => by
    obtain ⟨x, rfl, hx⟩ := hv H3 ((e.trans e2).trans e3) fun a o hn h => e3 _ _ h
    obtain ⟨y, rfl, hy⟩ := hu H3 ((e.trans e2).trans e3) fun _ _ _ h => h
    obtain ⟨dx, t, ti, a1, _⟩ := id hx
    obtain ⟨dy, t', ti', b1, _⟩ := id hy
    exact ⟨⟨x, y, dx, dy, _, _, rfl, rfl, a1, b1, ts, hx, hy⟩, fun H4 e4 => q H4 ((e2.trans e3).trans e4)⟩
theorem en_lst3 {t1 t2 t3 : TE} {n1 n2 n3 : List Int} (h1 : EvL t1 σ H (n1.map V.int)) (h2 : EvL t2 σ H (n2.map V.int)) (h3 : EvL t3 σ H (n3.map V.int)) : EvN (tLst (tCons t1 (tCons t2 (tCons t3 tNil)))) σ H (IsLL [n1, n2, n3]) := fun H1 e Q q =>
  h1 H1 e _ fun p1 H2 k1 e2 g1 => h2 H2 (e.trans e2) _ fun p2 H3 k2 e3 g2 => h3 H3 ((e.trans e2).trans e3) _ fun p3 H4 k3 e4 g3 => ⟨by show 3 ≤ sizeLine; decide, fun l hl => q _ _ (((e2.trans e3).trans e4).trans (Ex.new hl)) fun H5 _ s5 => by
    have o1 := e4 _ _ (e3 _ _ g1)
    have o2 := e4 _ _ g2
    refine ⟨l, rfl, [p1, p2, p3], s5 _ _ (fresh_back ((e2.trans e3).trans e4) hl) upd_same, rfl, fun i a ns ha hn => ?_⟩
    match i, ha, hn with
    | 0, ha, hn =>
      cases ha; cases hn
      exact s5 _ _ k1 (by rw [upd_ne (ne_of_none o1 hl)]; exact o1)
    | 1, ha, hn =>
      cases ha; cases hn
      exact s5 _ _ (fresh_back e2 k2) (by rw [upd_ne (ne_of_none o2 hl)]; exact o2)
    | 2, ha, hn =>
      cases ha; cases hn
      exact s5 _ _ (fresh_back (e2.trans e3) k3) (by rw [upd_ne (ne_of_none g3 hl)]; exact g3)
    | i + 3, ha, hn => simp at ha⟩
/-- two new lists of the same ints -/
theorem ev_neNew {ta tb : TE} {ns : List Int} (h1 : EvL ta σ H (ns.map V.int)) (h2 : EvL tb σ H (ns.map V.int)) : Ev (tOp (rNeD K) ta tb) σ H (.bl false) :=
  ev_opLL h1 h2 fun p q H1 hp hq e => fun H2 e2 Q k => by
    have es : PyData.eqv (.list (ns.map PyData.int)) (.list (ns.map PyData.int)) = true := SeqAt.eqv_refl _ (SeqAt.canLay_of_shaped (PySem.W.ke_shaped_ints ns))
    refine ⟨.list (ns.map PyData.int), .list (ns.map PyData.int), .lst (sq_of (e2 _ _ hp)) (dp_ints (c := p) ns), .lst (sq_of (e2 _ _ hq)) (dp_ints (c := p) ns), PySem.W.ke_shaped_ints ns, PySem.W.ke_shaped_ints ns, ?_⟩
    rw [es]
    exact k H2 (Ex.refl H2)
theorem el_rep4 {ta : TE} {i : Int} (h : EvL ta σ H [.int i]) : EvL (tOp rRep ta (tC (.int 4))) σ H [.int i, .int i, .int i, .int i] := fun H1 e Q q =>
  h H1 e _ fun p H2 hp e2 h2 => ⟨p, 4, _, rfl, rfl, h2, by decide, by decide, by show 1 * 4 ≤ sizeLine; decide, fun l hl => q l _ (fresh_back e2 hl) (e2.trans (Ex.new hl)) upd_same⟩
end
theorem scLaw : FnScope ["script", "yard", "turn", "many", "wide", "tall"] ["script"] (defScope sLaw) := ⟨rfl, rfl, rfl, by decide +kernel, rfl, by decide +kernel, by decide +kernel⟩
def spLaw (K : PySem.W.Frag) : Sp := fun vs H Q _ => ∃ (a : Addr) (ns : List Int), vs = [.ref a] ∧ SqL K H a (ns.map V.int) ∧ ns.length ≤ 63 ∧ ∀ H', Q (.bl true) H'
def just1 {α : Type} : List α → List α → List α := fun _ ws => ws
def swap2 {α : Type} : List α → List α → List α
  | _, [a, b] => [b, a]
  | _, _ => []
section
variable {P : Program} {w : World} {K : PySem.W.Frag} {mg : Str → Option Value} {base : Heap}
set_option maxHeartbeats 4000000 in
theorem ok_law {C f fT fS fR fW fO fLR fLW fLO fLF fFi fI fE : Addr} {fd fdT fdS fdR fdW fdO fdLR fdLW fdLO fdLF fdFi fdI fdE : FuncData} {k : Nat} (F : Fun K "law" "law" sLaw f fd) (T : TWeb K mg C)
    (FT : Fun K "_law_yard" "_law_yard" sTub fT fdT) (GT : FnOk P w K mg base CX0 (k + 1) fT fdT ["script"] (spTub K)) (bT : Binds K fdT ["script"] []) (gT : mg "_law_yard" = some (.ref fT))
    (FS : Fun K "_law_rake" "_law_rake" sScoop fS fdS) (GS : FnOk P w K mg base CX0 (k + 1) fS fdS ["yard", "many"] spScoop) (bS : Binds K fdS ["yard", "many"] []) (gS : mg "_law_rake" = some (.ref fS))
    (FR : Fun K "ring" "ring" sRing fR fdR) (GR : FnOk P w K mg base CX0 (k + 1) fR fdR ["many"] (spRing C)) (bR : Binds K fdR ["many"] []) (kR : KBn K fdR ["many"] 0 ["many"] just1 just1) (gR : mg "ring" = some (.ref fR))
    (FW : Fun K "wheel" "wheel" sWheel fW fdW) (GW : FnOk P w K mg base CX0 (k + 1) fW fdW ["many"] (spWheel C)) (bW : Binds K fdW ["many"] []) (kW : KBn K fdW ["many"] 0 ["many"] just1 just1) (gW : mg "wheel" = some (.ref fW))
    (FO : Fun K "floor" "floor" sFloor fO fdO) (GO : FnOk P w K mg base CX0 (k + 1) fO fdO ["wide", "tall"] (spFloor C)) (bO : Binds K fdO ["wide", "tall"] []) (kO : KBn K fdO ["wide", "tall"] 0 ["tall", "wide"] swap2 swap2) (gO : mg "floor" = some (.ref fO))
    (FLR : Fun K "_law_ring" "_law_ring" sLRing fLR fdLR) (GLR : FnOk P w K mg base CX0 (k + 1) fLR fdLR ["many"] spLRing) (bLR : Binds K fdLR ["many"] []) (gLR : mg "_law_ring" = some (.ref fLR))
    (FLW : Fun K "_law_wheel" "_law_wheel" sLWheel fLW fdLW) (GLW : FnOk P w K mg base CX0 (k + 1) fLW fdLW ["many"] spLWheel) (bLW : Binds K fdLW ["many"] []) (gLW : mg "_law_wheel" = some (.ref fLW))
    (FLO : Fun K "_law_floor" "_law_floor" sLFloor fLO fdLO) (GLO : FnOk P w K mg base CX0 (k + 1) fLO fdLO ["wide", "tall"] spLFloor) (bLO : Binds K fdLO ["wide", "tall"] []) (gLO : mg "_law_floor" = some (.ref fLO))
    (FLF : Fun K "_law_flat" "_law_flat" sLFlat fLF fdLF) (GLF : FnG P w K mg base (k + 1) fLF fdLF ["web", "turns"] (spLFlat C)) (bLF : Binds K fdLF ["web", "turns"] []) (gLF : mg "_law_flat" = some (.ref fLF))
    (FFi : Fun K "is_filled" "is_filled" sFilled fFi fdFi) (GFi : FnOk P w K mg base CX0 (k + 1) fFi fdFi ["web"] (spFilled C)) (bFi : Binds K fdFi ["web"] []) (gFi : mg "is_filled" = some (.ref fFi))
    (M : Mk K C fI) (GI : FnOk P w K mg base CX0 k fI fdI ["self", "turns"] (spWebI C)) (bI : Binds K fdI ["self", "turns"] [])
    (GE : FnOk P w K mg base CX0 (k + 1) fE fdE ["self", "other"] (spEq (SameWeb C))) (bE : Binds K fdE ["self", "other"] []) (hE : PySem.W.findIn K (.ref C) "__eq__" = some (some (.ref fE))) (hEf : PySem.W.isFn K (.ref fE) = true)
    (mrange : mg "range" = none) (mrepr : mg "repr" = none) :
    FnG P w K mg base (k + 2) f fd ["script"] (spLaw K) := by
  refine fn_g F scLaw (fun {vs H Q E} h => ?_) (fun cdv A outer s H vs Q E hgd hr h => ?_)
  · obtain ⟨a, ns, rfl, _⟩ := h
    rfl
  · obtain ⟨a, ns, rfl, hS, hl, q⟩ := h
    have nd := scLaw.nd
    refine ⟨_, pss_cons (ps_set (i := 1) nd rfl (.inl rfl) (pe_call GT hr (by rfl) gT FT.kp bT .nil pass0 (pa_cons (pv 0) pa_nil)))
      (pss_cons (ps_for PassesOwn.never rfl (pi_range1 (by rfl) mrange (pa_cons pe_int pa_nil)) (pg_name (i := 2) nd rfl (.inl rfl))
        (Evl.pss_cut (ps_par3 (i := 3) (j := 4) (l := 5) (by rfl) nd rfl rfl rfl (by decide) (by decide) (by decide) rfl rfl rfl (pa_cons (pe_op op_add pe_int (pe_call GS hr (by rfl) gS FS.kp bS .nil pass0 (pa_cons (pv 1) (pa_cons pe_int pa_nil))))
            (pa_cons (pe_op op_add pe_int (pe_call GS hr (by rfl) gS FS.kp bS .nil pass0 (pa_cons (pv 1) (pa_cons pe_int pa_nil)))) (pa_cons (pe_op op_add pe_int (pe_call GS hr (by rfl) gS FS.kp bS .nil pass0 (pa_cons (pv 1) (pa_cons pe_int pa_nil)))) pa_nil))) (by rfl))
        (Evl.pss_cut (ps_if (PW.pt (pw_or (pt_not (pt_val (pe_callG GLF hgd hr (by rfl) gLF FLF.kp bLF pass0 (pa_cons (pe_callN0 GR hr (by rfl) gR FR.kp kR pass0 (pk_cons (pv 3) pk_nil)) (pa_cons (pe_call GLR hr (by rfl) gLR FLR.kp bLR .nil pass0 (pa_cons (pv 3) pa_nil)) pa_nil)))))
            (pw_or1 (pt_not (pt_val (pe_callG GLF hgd hr (by rfl) gLF FLF.kp bLF pass0 (pa_cons (pe_callN0 GW hr (by rfl) gW FW.kp kW pass0 (pk_cons (pv 3) pk_nil)) (pa_cons (pe_call GLW hr (by rfl) gLW FLW.kp bLW .nil pass0 (pa_cons (pv 3) pa_nil)) pa_nil)))))))) (pss_one (ps_ret pe_bl)) pss_nil)
        (Evl.pss_cut (ps_if (pt_not (pt_val (pe_callG GLF hgd hr (by rfl) gLF FLF.kp bLF pass0 (pa_cons (pe_callN0 GO hr (by rfl) gO FO.kp kO pass0 (pk_cons (pv 5) (pk_cons (pv 4) pk_nil))) (pa_cons (pe_call GLO hr (by rfl) gLO FLO.kp bLO .nil pass0 (pa_cons (pv 4) (pa_cons (pv 5) pa_nil))) pa_nil))))) (pss_one (ps_ret pe_bl)) pss_nil)
        (pss_one (ps_if (pt_cmpR op_ne (pe_callB (call_reprD hgd hr.units) (by rfl) mrepr (by decide +kernel) (pa_cons (pe_lst (pa_cons (pe_call GFi hr (by rfl) gFi FFi.kp bFi .nil pass0 (pa_cons (pe_call GR hr (by rfl) gR FR.kp bR .nil pass0 (pa_cons (pv 3) pa_nil)) pa_nil))
              (pa_cons (pe_call GFi hr (by rfl) gFi FFi.kp bFi .nil pass0 (pa_cons (pe_call GW hr (by rfl) gW FW.kp bW .nil pass0 (pa_cons (pv 3) pa_nil)) pa_nil)) (pa_cons (pe_call GFi hr (by rfl) gFi FFi.kp bFi .nil pass0 (pa_cons (pe_call GO hr (by rfl) gO FO.kp bO .nil pass0 (pa_cons (pv 4) (pa_cons (pv 5) pa_nil))) pa_nil)) pa_nil)))) pa_nil))
            (pe_callB (call_reprD hgd hr.units) (by rfl) mrepr (by decide +kernel) (pa_cons (pe_lst (pa_cons (pe_cmpR op_eq (pv 3) pe_int (nomark _)) (pa_cons (pe_cmpR op_eq (pv 3) pe_int (nomark _)) (pa_cons pe_bl pa_nil)))) pa_nil)) (nomark _)) (pss_one (ps_ret pe_bl)) pss_nil))))))
      (pss_cons (ps_if (PW.pt (pw_and (pt_cmpR op_eq (pe_call GS hr (by rfl) gS FS.kp bS .nil pass0 (pa_cons (pv 1) (pa_cons pe_int pa_nil))) pe_int (nomark _)) (pw_and1 (pt_cmpR (op_neD hr.units)
          (pe_lst (pa_cons (pe_fld (pe_call GR hr (by rfl) gR FR.kp bR .nil pass0 (pa_cons pe_int pa_nil)) rfl) (pa_cons (pe_fld (pe_call GW hr (by rfl) gW FW.kp bW .nil pass0 (pa_cons pe_int pa_nil)) rfl)
            (pa_cons (pe_fld (pe_call GO hr (by rfl) gO FO.kp bO .nil pass0 (pa_cons pe_int (pa_cons pe_int pa_nil))) rfl) (pa_cons (pe_fld (pe_call GO hr (by rfl) gO FO.kp bO .nil pass0 (pa_cons pe_int (pa_cons pe_int pa_nil))) rfl) pa_nil)))))
          (pe_op op_rep (pe_lst (pa_cons pe_int pa_nil)) pe_int) (nomark _))))) (pss_one (ps_ret pe_bl)) pss_nil)
      (pss_one (ps_ret (pe_and (pe_cmpR (op_eqG (rcG_ins GE hE hEf bE pass0) hr) (pe_call GR hr (by rfl) gR FR.kp bR .nil pass0 (pa_cons pe_int pa_nil)) (pe_make M GI hr (by rfl) T.mgC bI .nil pass0 (pa_cons (pe_lst (pa_cons (pe_lst (pa_cons pe_int (pa_cons pe_int pa_nil))) (pa_cons (pe_lst (pa_cons pe_int (pa_cons pe_int pa_nil))) (pa_cons (pe_lst (pa_cons pe_int (pa_cons pe_int pa_nil))) pa_nil)))) pa_nil)) (nomark _))
        (pe_one (pe_cmpR (op_eqG (rcG_ins GE hE hEf bE pass0) hr) (pe_call GO hr (by rfl) gO FO.kp bO .nil pass0 (pa_cons pe_int (pa_cons pe_int pa_nil))) (pe_make M GI hr (by rfl) T.mgC bI .nil pass0 (pa_cons (pe_lst (pa_cons (pe_lst pa_nil) pa_nil)) pa_nil)) (nomark _)))))))), ?_⟩
    have sR : ∀ {n : Nat} {H2 : Hp}, 3 ≤ n → n ≤ 1000 → SpN (spRing C) [.int (n : Int)] H2 (IsW C (ringT n)) := fun {n H2} h3 h1 => sn_pure fun H Q E p => ⟨n, rfl, h3, h1, p⟩
    have sW : ∀ {n : Nat} {H2 : Hp}, 3 ≤ n → n ≤ 999 → SpN (spWheel C) [.int (n : Int)] H2 (IsW C (wheelT n)) := fun {n H2} h3 h1 => sn_pure fun H Q E p => ⟨n, rfl, h3, h1, p⟩
    have sO : ∀ {n m : Nat} {H2 : Hp}, 1 ≤ n → 1 ≤ m → n * m ≤ 1000 → SpN (spFloor C) [.int (n : Int), .int (m : Int)] H2 (IsW C (floorT n m)) := fun {n m H2} h3 h1 h2 => sn_pure fun H Q E p => ⟨n, m, rfl, h3, h1, h2, p⟩
    have sLR : ∀ {n : Nat} {H2 : Hp}, 3 ≤ n → n ≤ 1000 → SpN spLRing [.int (n : Int)] H2 (IsLL (ringT n)) := fun {n H2} h3 h1 => sn_pure fun H Q E p => ⟨n, rfl, h3, h1, p⟩
    have sLW : ∀ {n : Nat} {H2 : Hp}, 3 ≤ n → n ≤ 999 → SpN spLWheel [.int (n : Int)] H2 (IsLL (wheelT n)) := fun {n H2} h3 h1 => sn_pure fun H Q E p => ⟨n, rfl, h3, h1, p⟩
    have sLO : ∀ {n m : Nat} {H2 : Hp}, 1 ≤ n → 1 ≤ m → n * m ≤ 1000 → SpN spLFloor [.int (n : Int), .int (m : Int)] H2 (IsLL (floorT n m)) := fun {n m H2} h3 h1 h2 => sn_pure fun H Q E p => ⟨n, m, rfl, h3, h1, h2, p⟩
    -- yard
    refine ⟨.ref a, rfl, a, ns, rfl, hS, by omega, fun t c H1 ht hc sm T0 => ?_⟩
    refine Evl.q_forR1 (n := 3) (Evl.ea_cons Evl.ev_c Evl.ea_nil) ⟨by decide, by decide⟩ (fun i σ' H' => ∃ x2 x3 x4 x5 : Option V, σ' = [some (.ref a), some (.ref t), x2, x3, x4, x5] ∧ Tub H' t c (10 * i))
      (fun H2 e2 => ⟨_, _, _, _, rfl, (T0.ex e2).mono (by omega)⟩) (fun i σ' H2 hi hP => ?_) (fun σ' H2 hP => ?_)
    · obtain ⟨x2, x3, x4, x5, rfl, T1⟩ := hP
      have hi3 : i < 3 := by omega
      refine Evl.q_cut (M := fun σ2 H3 => ∃ j u v : Nat, j < 12 ∧ u < 6 ∧ v < 6 ∧ σ2 = [some (.ref a), some (.ref t), some (.int i), some (.int ((j + 3 : Nat) : Int)), some (.int ((u + 1 : Nat) : Int)), some (.int ((v + 1 : Nat) : Int))] ∧ Tub H3 t c (10 * i + 3)) ?_ fun σ2 H3 hM => ?_
      · refine ⟨.ref t, rfl, t, c, 12, 10 * i, rfl, T1, by omega, by decide, by decide, fun r H4 r0 r1 k1 T2 => ⟨3, r, rfl, rfl, .ref t, rfl, t, c, 6, 10 * i + 1, rfl, T2, by omega, by decide, by decide, fun r2 H5 r20 r21 k2 T3 => ⟨1, r2, rfl, rfl, .ref t, rfl, t, c, 6, 10 * i + 1 + 1, rfl, T3, by omega, by decide, by decide, fun r3 H6 r30 r31 k3 T4 => ⟨1, r3, rfl, rfl, _, _, _, rfl, ?_⟩⟩⟩⟩
        refine ⟨r.toNat, r2.toNat, r3.toNat, by omega, by omega, by omega, ?_, T4⟩
        have a1 : (3 : Int) + r = ((r.toNat + 3 : Nat) : Int) := by omega
        have a2 : (1 : Int) + r2 = ((r2.toNat + 1 : Nat) : Int) := by omega
        have a3 : (1 : Int) + r3 = ((r3.toNat + 1 : Nat) : Int) := by omega
        rw [← a1, ← a2, ← a3]
        rfl
      obtain ⟨j, u, v, hj, hu, hv, rfl, T2⟩ := hM
      have huv : (u + 1) * (v + 1) ≤ 6 * 6 := Nat.mul_le_mul (by omega) (by omega)
      have fR := fine_ring hj
      have fW := fine_wheel hj
      have fO := fine_floor hu hv
      -- ring, wheel
      refine Evl.q_cut (M := fun σ2 H4 => σ2 = [some (.ref a), some (.ref t), some (.int i), some (.int ((j + 3 : Nat) : Int)), some (.int ((u + 1 : Nat) : Int)), some (.int ((v + 1 : Nat) : Int))] ∧ Evl.Ex H3 H4) ?_ fun σ2 H4 hM => ?_
      · refine Evl.s_when (b := false) (Evl.et_is (Evl.et_or (b := false) (Evl.et_is (Evl.et_not (Evl.et_B (ev_flat (en_callN (zs := [.int ((j + 3 : Nat) : Int)]) (Evl.ea_cons (Evl.ev_var rfl) Evl.ea_nil) rfl (sR (by omega) (by omega))) (en_call (vs := [.int ((j + 3 : Nat) : Int)]) (Evl.ea_cons (Evl.ev_var rfl) Evl.ea_nil) (sLR (by omega) (by omega))) fR.fine))) (b := false) rfl) fun _ =>
          Evl.et_is (Evl.et_not (Evl.et_B (ev_flat (en_callN (zs := [.int ((j + 3 : Nat) : Int)]) (Evl.ea_cons (Evl.ev_var rfl) Evl.ea_nil) rfl (sW (by omega) (by omega))) (en_call (vs := [.int ((j + 3 : Nat) : Int)]) (Evl.ea_cons (Evl.ev_var rfl) Evl.ea_nil) (sLW (by omega) (by omega))) fW.fine))) rfl) rfl) (fun z => by cases z) fun _ H4 e4 => ⟨rfl, e4⟩
      obtain ⟨rfl, e4⟩ := hM
      -- floor
      refine Evl.q_cut (M := fun σ2 H5 => σ2 = [some (.ref a), some (.ref t), some (.int i), some (.int ((j + 3 : Nat) : Int)), some (.int ((u + 1 : Nat) : Int)), some (.int ((v + 1 : Nat) : Int))] ∧ Evl.Ex H3 H5) ?_ fun σ2 H5 hM => ?_
      · refine Evl.s_when (b := false) (Evl.et_is (Evl.et_not (Evl.et_B (ev_flat (en_callN (zs := [.int ((v + 1 : Nat) : Int), .int ((u + 1 : Nat) : Int)]) (Evl.ea_cons (Evl.ev_var rfl) (Evl.ea_cons (Evl.ev_var rfl) Evl.ea_nil)) rfl (sO (by omega) (by omega) (by omega))) (en_call (vs := [.int ((u + 1 : Nat) : Int), .int ((v + 1 : Nat) : Int)]) (Evl.ea_cons (Evl.ev_var rfl) (Evl.ea_cons (Evl.ev_var rfl) Evl.ea_nil)) (sLO (by omega) (by omega) (by omega))) fO.fine))) rfl) (fun z => by cases z) fun _ H5 e5 => ⟨rfl, e4.trans e5⟩
      obtain ⟨rfl, e5⟩ := hM
      -- filled
      have is3 : ∀ {H6 : Hp}, Evl.Ev (tOp rEq (tVar 3) (tC (.int 3))) ([some (.ref a), some (.ref t), some (.int i), some (.int ((j + 3 : Nat) : Int)), some (.int ((u + 1 : Nat) : Int)), some (.int ((v + 1 : Nat) : Int))] : L2.St) H6 (.bl (decide (j = 0))) := fun {H6} =>
        Evl.ev_is (Evl.ev_op (Evl.ev_var rfl) Evl.ev_c (Evl.rv_eq rfl)) (congrArg V.bl (decide_eq_decide.mpr ⟨fun z => by have := V.int.inj z; omega, fun z => by rw [z] <;> rfl⟩))
      refine Evl.s_when (b := false) (et_ne_same (ev_repr3 (Evl.el_lst (Evl.ea_cons (ev_filled (en_call (vs := [.int ((j + 3 : Nat) : Int)]) (Evl.ea_cons (Evl.ev_var rfl) Evl.ea_nil) (sR (by omega) (by omega))) fR) (Evl.ea_cons (ev_filled (en_call (vs := [.int ((j + 3 : Nat) : Int)]) (Evl.ea_cons (Evl.ev_var rfl) Evl.ea_nil) (sW (by omega) (by omega))) fW)
          (Evl.ea_cons (ev_filled (en_call (vs := [.int ((u + 1 : Nat) : Int), .int ((v + 1 : Nat) : Int)]) (Evl.ea_cons (Evl.ev_var rfl) (Evl.ea_cons (Evl.ev_var rfl) Evl.ea_nil)) (sO (by omega) (by omega) (by omega))) fO) Evl.ea_nil))) (by show 3 ≤ 100000; omega)))
        (ev_repr3 (Evl.el_lst (Evl.ea_cons is3 (Evl.ea_cons is3 (Evl.ea_cons Evl.ev_c Evl.ea_nil))) (by show 3 ≤ 100000; omega)))) (fun z => by cases z) fun _ H6 e6 => ⟨_, _, _, _, rfl, (T2.ex (e5.trans e6)).mono (by omega)⟩
    · obtain ⟨x2, x3, x4, x5, rfl, T1⟩ := hP
      have e3 : (ringT 3) = [[2, 3], [3, 1], [1, 2]] := by decide +kernel
      have e11 : (floorT 1 1) = [[]] := by decide +kernel
      have two : ∀ {σ2 : L2.St} {H6 : Hp} {i1 i2 : Int}, Evl.EvL (tLst (tCons (tC (.int i1)) (tCons (tC (.int i2)) tNil))) σ2 H6 (([i1, i2] : List Int).map V.int) := fun {σ2 H6 i1 i2} => Evl.el_lst (Evl.ea_cons Evl.ev_c (Evl.ea_cons Evl.ev_c Evl.ea_nil)) (by show 2 ≤ 100000; omega)
      have fin : ∀ Hx : Hp, tRet _ { nx := fun _ H' => Q .non H', rt := Q } ([some (.ref a), some (.ref t), x2, x3, x4, x5] : L2.St) Hx := fun Hx => Evl.s_ret (v := .bl true) (Evl.ev_is (Evl.ev_andV (a := true) (b := true) (ev_eqW (en_call (E := E0) (vs := [.int ((3 : Nat) : Int)]) (Evl.ea_cons Evl.ev_c Evl.ea_nil) (sR (by omega) (by omega))) (en_make (E := E0) (by
          rw [e3]
          exact en_lst3 two two two) (ok_ringT (by omega) (by omega)))) fun _ => ev_eqW (en_call (E := E0) (vs := [.int ((1 : Nat) : Int), .int ((1 : Nat) : Int)]) (Evl.ea_cons Evl.ev_c (Evl.ea_cons Evl.ev_c Evl.ea_nil)) (sO (by omega) (by omega) (by omega))) (en_make (E := E0) (by
          rw [e11]
          exact en_lst1 (ns := []) (Evl.el_lst Evl.ea_nil (Nat.zero_le _))) (ok_floorT (by omega) (by omega) (by omega)))) rfl) fun H4 _ => q H4
      refine ⟨.ref t, rfl, t, c, 30, 30, rfl, T1, by omega, by decide, by decide, fun r H3 r0 r1 k1 T2 => ⟨rfl, _, rfl, ?_⟩⟩
      cases hd : decide (V.int r = V.int 0) with
      | false => exact iteF (iteF (fin H3))
      | true =>
        refine iteT ?_
        have l1 : (ringT 1000).length = 1000 := by unfold ringT; rw [List.length_map, List.length_range]
        have l2 : (wheelT 999).length = 1000 := by unfold wheelT; rw [List.length_map, List.length_range]
        have l3 : (floorT 1000 1).length = 1000 := by unfold floorT; rw [List.length_map, List.length_range]
        have l4 : (floorT 25 40).length = 1000 := by unfold floorT; rw [List.length_map, List.length_range]
        have m1 := ev_many (K := K) T (en_call (E := E0) (ta := tCons (tC (.int 1000)) tNil) (σ := [some (.ref a), some (.ref t), x2, x3, x4, x5]) (H := H3) (vs := [.int ((1000 : Nat) : Int)]) (Evl.ea_cons Evl.ev_c Evl.ea_nil) (sR (by omega) (by omega)))
        have m2 := ev_many (K := K) T (en_call (E := E0) (ta := tCons (tC (.int 999)) tNil) (σ := [some (.ref a), some (.ref t), x2, x3, x4, x5]) (H := H3) (vs := [.int ((999 : Nat) : Int)]) (Evl.ea_cons Evl.ev_c Evl.ea_nil) (sW (by omega) (by omega)))
        have m3 := ev_many (K := K) T (en_call (E := E0) (ta := tCons (tC (.int 1000)) (tCons (tC (.int 1)) tNil)) (σ := [some (.ref a), some (.ref t), x2, x3, x4, x5]) (H := H3) (vs := [.int ((1000 : Nat) : Int), .int ((1 : Nat) : Int)]) (Evl.ea_cons Evl.ev_c (Evl.ea_cons Evl.ev_c Evl.ea_nil)) (sO (by omega) (by omega) (by omega)))
        have m4 := ev_many (K := K) T (en_call (E := E0) (ta := tCons (tC (.int 25)) (tCons (tC (.int 40)) tNil)) (σ := [some (.ref a), some (.ref t), x2, x3, x4, x5]) (H := H3) (vs := [.int ((25 : Nat) : Int), .int ((40 : Nat) : Int)]) (Evl.ea_cons Evl.ev_c (Evl.ea_cons Evl.ev_c Evl.ea_nil)) (sO (by omega) (by omega) (by omega)))
        rw [l1] at m1
        rw [l2] at m2
        rw [l3] at m3
        rw [l4] at m4
        exact Evl.et_test (ev_neNew (K := K) (ns := [1000, 1000, 1000, 1000]) (Evl.el_lst (Evl.ea_cons m1 (Evl.ea_cons m2 (Evl.ea_cons m3 (Evl.ea_cons m4 Evl.ea_nil)))) (by show 4 ≤ 100000; omega)) (el_rep4 (Evl.el_lst (Evl.ea_cons Evl.ev_c Evl.ea_nil) (by show 1 ≤ 100000; omega)))) H3 (Evl.Ex.refl H3) _ fun H4 e4 => iteF (fin H4)
end
end Tl
end S_YL
section S_YM
namespace Tl
open PySem PySem.Spec PyProof.Rows L2
theorem swap2_rel {vs zs : List V} {us ws : List Value} (r : Vals zs ws) : Vals (swap2 vs zs) (swap2 us ws) := by
  match zs, ws, r with
  | [], [], .nil => exact .nil
  | [_], [_], .cons _ .nil => exact .nil
  | [_, _], [_, _], .cons a (.cons b .nil) => exact .cons b (.cons a .nil)
  | _ :: _ :: _ :: _, _ :: _ :: _ :: _, .cons _ (.cons _ (.cons _ _)) => exact .nil
set_option maxHeartbeats 4000000 in
theorem all_mk {l : PySem.W.OpenLaw} {w : World} {K : PySem.W.Frag} {h : Heap} {mg : Str → Option Value} {fa fIn fWi fLi fRo fUn fLo fFx fNu fWw fAr fIt fTi fFa fJu fIf fFr fBe fTa fFi fRi fFl fWh fFt fYa fRa fLb fLf fSa fLg fLr fLw fLx fLa CW CF fWI fWE fPB fFI fPI cda cc : Addr} (X : K.In h) (G : h.Ns mainGlobals mg) (hfa : mg "law" = some (.ref fa))
    {odIn anIn : Option Addr} {slIn : Array (Option Value)} {ocIn kVIn dcIn pmIn cdIn ctIn : Value}
    (aIn : PySem.W.nsIn K mainGlobals "is_integer" = some (some (.ref fIn)))
    (lIn : K.lookup fIn = some ⟨ocIn, odIn, .func (PySem.W.fnOf "is_integer" "is_integer" (defArgs sInteger) (defBody sInteger) (defScope sInteger) .none kVIn dcIn pmIn anIn cdIn ctIn), slIn⟩)
    (cIn : PySem.W.codeIn K cdIn "is_integer" = true)
    (kIn : PySem.W.keepIn K (.ref fIn) = true)
    {odWi anWi : Option Addr} {slWi : Array (Option Value)} {ocWi kVWi dcWi pmWi cdWi ctWi : Value}
    (aWi : PySem.W.nsIn K mainGlobals "is_within" = some (some (.ref fWi)))
    (lWi : K.lookup fWi = some ⟨ocWi, odWi, .func (PySem.W.fnOf "is_within" "is_within" (defArgs sWithin) (defBody sWithin) (defScope sWithin) .none kVWi dcWi pmWi anWi cdWi ctWi), slWi⟩)
    (cWi : PySem.W.codeIn K cdWi "is_within" = true)
    (kWi : PySem.W.keepIn K (.ref fWi) = true)
    {odLi anLi : Option Addr} {slLi : Array (Option Value)} {ocLi kVLi dcLi pmLi cdLi ctLi : Value}
    (aLi : PySem.W.nsIn K mainGlobals "is_list" = some (some (.ref fLi)))
    (lLi : K.lookup fLi = some ⟨ocLi, odLi, .func (PySem.W.fnOf "is_list" "is_list" (defArgs sList) (defBody sList) (defScope sList) .none kVLi dcLi pmLi anLi cdLi ctLi), slLi⟩)
    (cLi : PySem.W.codeIn K cdLi "is_list" = true)
    (kLi : PySem.W.keepIn K (.ref fLi) = true)
    {odRo anRo : Option Addr} {slRo : Array (Option Value)} {ocRo kVRo dcRo pmRo cdRo ctRo : Value}
    (aRo : PySem.W.nsIn K mainGlobals "is_row" = some (some (.ref fRo)))
    (lRo : K.lookup fRo = some ⟨ocRo, odRo, .func (PySem.W.fnOf "is_row" "is_row" (defArgs sRow) (defBody sRow) (defScope sRow) .none kVRo dcRo pmRo anRo cdRo ctRo), slRo⟩)
    (cRo : PySem.W.codeIn K cdRo "is_row" = true)
    (kRo : PySem.W.keepIn K (.ref fRo) = true)
    {odUn anUn : Option Addr} {slUn : Array (Option Value)} {ocUn kVUn dcUn pmUn cdUn ctUn : Value}
    (aUn : PySem.W.nsIn K mainGlobals "are_unlike" = some (some (.ref fUn)))
    (lUn : K.lookup fUn = some ⟨ocUn, odUn, .func (PySem.W.fnOf "are_unlike" "are_unlike" (defArgs sUn) (defBody sUn) (defScope sUn) .none kVUn dcUn pmUn anUn cdUn ctUn), slUn⟩)
    (cUn : PySem.W.codeIn K cdUn "are_unlike" = true)
    (kUn : PySem.W.keepIn K (.ref fUn) = true)
    {odLo anLo : Option Addr} {slLo : Array (Option Value)} {ocLo kVLo dcLo pmLo cdLo ctLo : Value}
    (aLo : PySem.W.nsIn K mainGlobals "is_lot" = some (some (.ref fLo)))
    (lLo : K.lookup fLo = some ⟨ocLo, odLo, .func (PySem.W.fnOf "is_lot" "is_lot" (defArgs sLot) (defBody sLot) (defScope sLot) .none kVLo dcLo pmLo anLo cdLo ctLo), slLo⟩)
    (cLo : PySem.W.codeIn K cdLo "is_lot" = true)
    (kLo : PySem.W.keepIn K (.ref fLo) = true)
    {odFx anFx : Option Addr} {slFx : Array (Option Value)} {ocFx kVFx dcFx pmFx cdFx ctFx : Value}
    (aFx : PySem.W.nsIn K mainGlobals "fixed" = some (some (.ref fFx)))
    (lFx : K.lookup fFx = some ⟨ocFx, odFx, .func (PySem.W.fnOf "fixed" "fixed" (defArgs sFixed) (defBody sFixed) (defScope sFixed) .none kVFx dcFx pmFx anFx cdFx ctFx), slFx⟩)
    (cFx : PySem.W.codeIn K cdFx "fixed" = true)
    (kFx : PySem.W.keepIn K (.ref fFx) = true)
    {odNu anNu : Option Addr} {slNu : Array (Option Value)} {ocNu kVNu dcNu pmNu cdNu ctNu : Value}
    (aNu : PySem.W.nsIn K mainGlobals "want_number" = some (some (.ref fNu)))
    (lNu : K.lookup fNu = some ⟨ocNu, odNu, .func (PySem.W.fnOf "want_number" "want_number" (defArgs sNumber) (defBody sNumber) (defScope sNumber) .none kVNu dcNu pmNu anNu cdNu ctNu), slNu⟩)
    (cNu : PySem.W.codeIn K cdNu "want_number" = true)
    (kNu : PySem.W.keepIn K (.ref fNu) = true)
    {odWw anWw : Option Addr} {slWw : Array (Option Value)} {ocWw kVWw dcWw pmWw cdWw ctWw : Value}
    (aWw : PySem.W.nsIn K mainGlobals "want_web" = some (some (.ref fWw)))
    (lWw : K.lookup fWw = some ⟨ocWw, odWw, .func (PySem.W.fnOf "want_web" "want_web" (defArgs sWantWeb) (defBody sWantWeb) (defScope sWantWeb) .none kVWw dcWw pmWw anWw cdWw ctWw), slWw⟩)
    (cWw : PySem.W.codeIn K cdWw "want_web" = true)
    (kWw : PySem.W.keepIn K (.ref fWw) = true)
    {odAr anAr : Option Addr} {slAr : Array (Option Value)} {ocAr kVAr dcAr pmAr cdAr ctAr : Value}
    (aAr : PySem.W.nsIn K mainGlobals "_are_turns" = some (some (.ref fAr)))
    (lAr : K.lookup fAr = some ⟨ocAr, odAr, .func (PySem.W.fnOf "_are_turns" "_are_turns" (defArgs sAreTurns) (defBody sAreTurns) (defScope sAreTurns) .none kVAr dcAr pmAr anAr cdAr ctAr), slAr⟩)
    (cAr : PySem.W.codeIn K cdAr "_are_turns" = true)
    (kAr : PySem.W.keepIn K (.ref fAr) = true)
    {odIt anIt : Option Addr} {slIt : Array (Option Value)} {ocIt kVIt dcIt pmIt cdIt ctIt : Value}
    (aIt : PySem.W.nsIn K mainGlobals "_is_turn" = some (some (.ref fIt)))
    (lIt : K.lookup fIt = some ⟨ocIt, odIt, .func (PySem.W.fnOf "_is_turn" "_is_turn" (defArgs sIsTurn) (defBody sIsTurn) (defScope sIsTurn) .none kVIt dcIt pmIt anIt cdIt ctIt), slIt⟩)
    (cIt : PySem.W.codeIn K cdIt "_is_turn" = true)
    (kIt : PySem.W.keepIn K (.ref fIt) = true)
    {odTi anTi : Option Addr} {slTi : Array (Option Value)} {ocTi kVTi dcTi pmTi cdTi ctTi : Value}
    (aTi : PySem.W.nsIn K mainGlobals "_ties_of" = some (some (.ref fTi)))
    (lTi : K.lookup fTi = some ⟨ocTi, odTi, .func (PySem.W.fnOf "_ties_of" "_ties_of" (defArgs sTies) (defBody sTies) (defScope sTies) .none kVTi dcTi pmTi anTi cdTi ctTi), slTi⟩)
    (cTi : PySem.W.codeIn K cdTi "_ties_of" = true)
    (kTi : PySem.W.keepIn K (.ref fTi) = true)
    {odFa anFa : Option Addr} {slFa : Array (Option Value)} {ocFa kVFa dcFa pmFa cdFa ctFa : Value}
    (aFa : PySem.W.nsIn K mainGlobals "faces_of" = some (some (.ref fFa)))
    (lFa : K.lookup fFa = some ⟨ocFa, odFa, .func (PySem.W.fnOf "faces_of" "faces_of" (defArgs sFaces) (defBody sFaces) (defScope sFaces) .none kVFa dcFa pmFa anFa cdFa ctFa), slFa⟩)
    (cFa : PySem.W.codeIn K cdFa "faces_of" = true)
    (kFa : PySem.W.keepIn K (.ref fFa) = true)
    {odJu anJu : Option Addr} {slJu : Array (Option Value)} {ocJu kVJu dcJu pmJu cdJu ctJu : Value}
    (aJu : PySem.W.nsIn K mainGlobals "judged_flat" = some (some (.ref fJu)))
    (lJu : K.lookup fJu = some ⟨ocJu, odJu, .func (PySem.W.fnOf "judged_flat" "judged_flat" (defArgs sJudged) (defBody sJudged) (defScope sJudged) .none kVJu dcJu pmJu anJu cdJu ctJu), slJu⟩)
    (cJu : PySem.W.codeIn K cdJu "judged_flat" = true)
    (kJu : PySem.W.keepIn K (.ref fJu) = true)
    {odIf anIf : Option Addr} {slIf : Array (Option Value)} {ocIf kVIf dcIf pmIf cdIf ctIf : Value}
    (aIf : PySem.W.nsIn K mainGlobals "is_flat" = some (some (.ref fIf)))
    (lIf : K.lookup fIf = some ⟨ocIf, odIf, .func (PySem.W.fnOf "is_flat" "is_flat" (defArgs sIsFlat) (defBody sIsFlat) (defScope sIsFlat) .none kVIf dcIf pmIf anIf cdIf ctIf), slIf⟩)
    (cIf : PySem.W.codeIn K cdIf "is_flat" = true)
    (kIf : PySem.W.keepIn K (.ref fIf) = true)
    {odFr anFr : Option Addr} {slFr : Array (Option Value)} {ocFr kVFr dcFr pmFr cdFr ctFr : Value}
    (aFr : PySem.W.nsIn K mainGlobals "places_from" = some (some (.ref fFr)))
    (lFr : K.lookup fFr = some ⟨ocFr, odFr, .func (PySem.W.fnOf "places_from" "places_from" (defArgs sFrom) (defBody sFrom) (defScope sFrom) .none kVFr dcFr pmFr anFr cdFr ctFr), slFr⟩)
    (cFr : PySem.W.codeIn K cdFr "places_from" = true)
    (kFr : PySem.W.keepIn K (.ref fFr) = true)
    {odBe anBe : Option Addr} {slBe : Array (Option Value)} {ocBe kVBe dcBe pmBe cdBe ctBe : Value}
    (aBe : PySem.W.nsIn K mainGlobals "places_behind" = some (some (.ref fBe)))
    (lBe : K.lookup fBe = some ⟨ocBe, odBe, .func (PySem.W.fnOf "places_behind" "places_behind" (defArgs sBehind) (defBody sBehind) (defScope sBehind) .none kVBe dcBe pmBe anBe cdBe ctBe), slBe⟩)
    (cBe : PySem.W.codeIn K cdBe "places_behind" = true)
    (kBe : PySem.W.keepIn K (.ref fBe) = true)
    {odTa anTa : Option Addr} {slTa : Array (Option Value)} {ocTa kVTa dcTa pmTa cdTa ctTa : Value}
    (aTa : PySem.W.nsIn K mainGlobals "_taken_round" = some (some (.ref fTa)))
    (lTa : K.lookup fTa = some ⟨ocTa, odTa, .func (PySem.W.fnOf "_taken_round" "_taken_round" (defArgs sTaken) (defBody sTaken) (defScope sTaken) .none kVTa dcTa pmTa anTa cdTa ctTa), slTa⟩)
    (cTa : PySem.W.codeIn K cdTa "_taken_round" = true)
    (kTa : PySem.W.keepIn K (.ref fTa) = true)
    {odFi anFi : Option Addr} {slFi : Array (Option Value)} {ocFi kVFi dcFi pmFi cdFi ctFi : Value}
    (aFi : PySem.W.nsIn K mainGlobals "is_filled" = some (some (.ref fFi)))
    (lFi : K.lookup fFi = some ⟨ocFi, odFi, .func (PySem.W.fnOf "is_filled" "is_filled" (defArgs sFilled) (defBody sFilled) (defScope sFilled) .none kVFi dcFi pmFi anFi cdFi ctFi), slFi⟩)
    (cFi : PySem.W.codeIn K cdFi "is_filled" = true)
    (kFi : PySem.W.keepIn K (.ref fFi) = true)
    {odRi anRi : Option Addr} {slRi : Array (Option Value)} {ocRi kVRi dcRi pmRi cdRi ctRi : Value}
    (aRi : PySem.W.nsIn K mainGlobals "ring" = some (some (.ref fRi)))
    (lRi : K.lookup fRi = some ⟨ocRi, odRi, .func (PySem.W.fnOf "ring" "ring" (defArgs sRing) (defBody sRing) (defScope sRing) .none kVRi dcRi pmRi anRi cdRi ctRi), slRi⟩)
    (cRi : PySem.W.codeIn K cdRi "ring" = true)
    (kRi : PySem.W.keepIn K (.ref fRi) = true)
    {odFl anFl : Option Addr} {slFl : Array (Option Value)} {ocFl kVFl dcFl pmFl cdFl ctFl : Value}
    (aFl : PySem.W.nsIn K mainGlobals "floor" = some (some (.ref fFl)))
    (lFl : K.lookup fFl = some ⟨ocFl, odFl, .func (PySem.W.fnOf "floor" "floor" (defArgs sFloor) (defBody sFloor) (defScope sFloor) .none kVFl dcFl pmFl anFl cdFl ctFl), slFl⟩)
    (cFl : PySem.W.codeIn K cdFl "floor" = true)
    (kFl : PySem.W.keepIn K (.ref fFl) = true)
    {odWh anWh : Option Addr} {slWh : Array (Option Value)} {ocWh kVWh dcWh pmWh cdWh ctWh : Value}
    (aWh : PySem.W.nsIn K mainGlobals "wheel" = some (some (.ref fWh)))
    (lWh : K.lookup fWh = some ⟨ocWh, odWh, .func (PySem.W.fnOf "wheel" "wheel" (defArgs sWheel) (defBody sWheel) (defScope sWheel) .none kVWh dcWh pmWh anWh cdWh ctWh), slWh⟩)
    (cWh : PySem.W.codeIn K cdWh "wheel" = true)
    (kWh : PySem.W.keepIn K (.ref fWh) = true)
    {odFt anFt : Option Addr} {slFt : Array (Option Value)} {ocFt kVFt dcFt pmFt cdFt ctFt : Value}
    (aFt : PySem.W.nsIn K mainGlobals "_floor_turn" = some (some (.ref fFt)))
    (lFt : K.lookup fFt = some ⟨ocFt, odFt, .func (PySem.W.fnOf "_floor_turn" "_floor_turn" (defArgs sFloorT) (defBody sFloorT) (defScope sFloorT) .none kVFt dcFt pmFt anFt cdFt ctFt), slFt⟩)
    (cFt : PySem.W.codeIn K cdFt "_floor_turn" = true)
    (kFt : PySem.W.keepIn K (.ref fFt) = true)
    {odYa anYa : Option Addr} {slYa : Array (Option Value)} {ocYa kVYa dcYa pmYa cdYa ctYa : Value}
    (aYa : PySem.W.nsIn K mainGlobals "_law_yard" = some (some (.ref fYa)))
    (lYa : K.lookup fYa = some ⟨ocYa, odYa, .func (PySem.W.fnOf "_law_yard" "_law_yard" (defArgs sTub) (defBody sTub) (defScope sTub) .none kVYa dcYa pmYa anYa cdYa ctYa), slYa⟩)
    (cYa : PySem.W.codeIn K cdYa "_law_yard" = true)
    (kYa : PySem.W.keepIn K (.ref fYa) = true)
    {odRa anRa : Option Addr} {slRa : Array (Option Value)} {ocRa kVRa dcRa pmRa cdRa ctRa : Value}
    (aRa : PySem.W.nsIn K mainGlobals "_law_rake" = some (some (.ref fRa)))
    (lRa : K.lookup fRa = some ⟨ocRa, odRa, .func (PySem.W.fnOf "_law_rake" "_law_rake" (defArgs sScoop) (defBody sScoop) (defScope sScoop) .none kVRa dcRa pmRa anRa cdRa ctRa), slRa⟩)
    (cRa : PySem.W.codeIn K cdRa "_law_rake" = true)
    (kRa : PySem.W.keepIn K (.ref fRa) = true)
    {odLb anLb : Option Addr} {slLb : Array (Option Value)} {ocLb kVLb dcLb pmLb cdLb ctLb : Value}
    (aLb : PySem.W.nsIn K mainGlobals "_law_behind" = some (some (.ref fLb)))
    (lLb : K.lookup fLb = some ⟨ocLb, odLb, .func (PySem.W.fnOf "_law_behind" "_law_behind" (defArgs sLBehind) (defBody sLBehind) (defScope sLBehind) .none kVLb dcLb pmLb anLb cdLb ctLb), slLb⟩)
    (cLb : PySem.W.codeIn K cdLb "_law_behind" = true)
    (kLb : PySem.W.keepIn K (.ref fLb) = true)
    {odLf anLf : Option Addr} {slLf : Array (Option Value)} {ocLf kVLf dcLf pmLf cdLf ctLf : Value}
    (aLf : PySem.W.nsIn K mainGlobals "_law_faces" = some (some (.ref fLf)))
    (lLf : K.lookup fLf = some ⟨ocLf, odLf, .func (PySem.W.fnOf "_law_faces" "_law_faces" (defArgs sLFaces) (defBody sLFaces) (defScope sLFaces) .none kVLf dcLf pmLf anLf cdLf ctLf), slLf⟩)
    (cLf : PySem.W.codeIn K cdLf "_law_faces" = true)
    (kLf : PySem.W.keepIn K (.ref fLf) = true)
    {odSa anSa : Option Addr} {slSa : Array (Option Value)} {ocSa kVSa dcSa pmSa cdSa ctSa : Value}
    (aSa : PySem.W.nsIn K mainGlobals "_law_same" = some (some (.ref fSa)))
    (lSa : K.lookup fSa = some ⟨ocSa, odSa, .func (PySem.W.fnOf "_law_same" "_law_same" (defArgs sSame) (defBody sSame) (defScope sSame) .none kVSa dcSa pmSa anSa cdSa ctSa), slSa⟩)
    (cSa : PySem.W.codeIn K cdSa "_law_same" = true)
    (kSa : PySem.W.keepIn K (.ref fSa) = true)
    {odLg anLg : Option Addr} {slLg : Array (Option Value)} {ocLg kVLg dcLg pmLg cdLg ctLg : Value}
    (aLg : PySem.W.nsIn K mainGlobals "_law_floor" = some (some (.ref fLg)))
    (lLg : K.lookup fLg = some ⟨ocLg, odLg, .func (PySem.W.fnOf "_law_floor" "_law_floor" (defArgs sLFloor) (defBody sLFloor) (defScope sLFloor) .none kVLg dcLg pmLg anLg cdLg ctLg), slLg⟩)
    (cLg : PySem.W.codeIn K cdLg "_law_floor" = true)
    (kLg : PySem.W.keepIn K (.ref fLg) = true)
    {odLr anLr : Option Addr} {slLr : Array (Option Value)} {ocLr kVLr dcLr pmLr cdLr ctLr : Value}
    (aLr : PySem.W.nsIn K mainGlobals "_law_ring" = some (some (.ref fLr)))
    (lLr : K.lookup fLr = some ⟨ocLr, odLr, .func (PySem.W.fnOf "_law_ring" "_law_ring" (defArgs sLRing) (defBody sLRing) (defScope sLRing) .none kVLr dcLr pmLr anLr cdLr ctLr), slLr⟩)
    (cLr : PySem.W.codeIn K cdLr "_law_ring" = true)
    (kLr : PySem.W.keepIn K (.ref fLr) = true)
    {odLw anLw : Option Addr} {slLw : Array (Option Value)} {ocLw kVLw dcLw pmLw cdLw ctLw : Value}
    (aLw : PySem.W.nsIn K mainGlobals "_law_wheel" = some (some (.ref fLw)))
    (lLw : K.lookup fLw = some ⟨ocLw, odLw, .func (PySem.W.fnOf "_law_wheel" "_law_wheel" (defArgs sLWheel) (defBody sLWheel) (defScope sLWheel) .none kVLw dcLw pmLw anLw cdLw ctLw), slLw⟩)
    (cLw : PySem.W.codeIn K cdLw "_law_wheel" = true)
    (kLw : PySem.W.keepIn K (.ref fLw) = true)
    {odLx anLx : Option Addr} {slLx : Array (Option Value)} {ocLx kVLx dcLx pmLx cdLx ctLx : Value}
    (aLx : PySem.W.nsIn K mainGlobals "_law_flat" = some (some (.ref fLx)))
    (lLx : K.lookup fLx = some ⟨ocLx, odLx, .func (PySem.W.fnOf "_law_flat" "_law_flat" (defArgs sLFlat) (defBody sLFlat) (defScope sLFlat) .none kVLx dcLx pmLx anLx cdLx ctLx), slLx⟩)
    (cLx : PySem.W.codeIn K cdLx "_law_flat" = true)
    (kLx : PySem.W.keepIn K (.ref fLx) = true)
    {odLa anLa : Option Addr} {slLa : Array (Option Value)} {ocLa kVLa dcLa pmLa cdLa ctLa : Value}
    (aLa : PySem.W.nsIn K mainGlobals "law" = some (some (.ref fLa)))
    (lLa : K.lookup fLa = some ⟨ocLa, odLa, .func (PySem.W.fnOf "law" "law" (defArgs sLaw) (defBody sLaw) (defScope sLaw) .none kVLa dcLa pmLa anLa cdLa ctLa), slLa⟩)
    (cLa : PySem.W.codeIn K cdLa "law" = true)
    (kLa : PySem.W.keepIn K (.ref fLa) = true)
    (aCW : PySem.W.nsIn K mainGlobals "Web" = some (some (.ref CW)))
    (aCF : PySem.W.nsIn K mainGlobals "Flat" = some (some (.ref CF)))
    {odWI anWI : Option Addr} {slWI : Array (Option Value)} {ocWI kVWI dcWI pmWI cdWI ctWI : Value}
    (aWI : PySem.W.findIn K (.ref CW) "__init__" = some (some (.ref fWI)))
    (iWI : PySem.W.isFn K (.ref fWI) = true)
    (lWI : K.lookup fWI = some ⟨ocWI, odWI, .func (PySem.W.fnOf "__init__" "Web.__init__" (defArgs sWebI) (defBody sWebI) (defScope sWebI) .none kVWI dcWI pmWI anWI cdWI ctWI), slWI⟩)
    (cWI : PySem.W.codeIn K cdWI "Web.__init__" = true)
    (kWI : PySem.W.keepIn K (.ref fWI) = true)
    {odWE anWE : Option Addr} {slWE : Array (Option Value)} {ocWE kVWE dcWE pmWE cdWE ctWE : Value}
    (aWE : PySem.W.findIn K (.ref CW) "__eq__" = some (some (.ref fWE)))
    (iWE : PySem.W.isFn K (.ref fWE) = true)
    (lWE : K.lookup fWE = some ⟨ocWE, odWE, .func (PySem.W.fnOf "__eq__" "Web.__eq__" (defArgs sWebE) (defBody sWebE) (defScope sWebE) .none kVWE dcWE pmWE anWE cdWE ctWE), slWE⟩)
    (cWE : PySem.W.codeIn K cdWE "Web.__eq__" = true)
    (kWE : PySem.W.keepIn K (.ref fWE) = true)
    {odPB anPB : Option Addr} {slPB : Array (Option Value)} {ocPB kVPB dcPB pmPB cdPB ctPB : Value}
    (aPB : PySem.W.findIn K (.ref CF) "__bool__" = some (some (.ref fPB)))
    (iPB : PySem.W.isFn K (.ref fPB) = true)
    (lPB : K.lookup fPB = some ⟨ocPB, odPB, .func (PySem.W.fnOf "__bool__" "Paper.__bool__" (defArgs sPaperB) (defBody sPaperB) (defScope sPaperB) .none kVPB dcPB pmPB anPB cdPB ctPB), slPB⟩)
    (cPB : PySem.W.codeIn K cdPB "Paper.__bool__" = true)
    (kPB : PySem.W.keepIn K (.ref fPB) = true)
    {odFI anFI : Option Addr} {slFI : Array (Option Value)} {ocFI kVFI dcFI pmFI ctFI : Value}
    (aFI : PySem.W.findIn K (.ref CF) "__init__" = some (some (.ref fFI)))
    (iFI : PySem.W.isFn K (.ref fFI) = true)
    (lFI : K.lookup fFI = some ⟨ocFI, odFI, .func (PySem.W.ksFn "__init__" "Flat.__init__" (defArgs sFlatI) (defBody sFlatI) (defScope sFlatI) .none kVFI dcFI pmFI anFI (.ref cda) ctFI cc), slFI⟩)
    (cFI : PySem.W.codeIn K (.ref cda) "Flat.__init__" = true)
    (kFI : PySem.W.keepIn K (.ref fFI) = true)
    {ccl : Value} {cdd : Option Addr} {vsC : Array Value} {ccs : Array (Option Value)} {file : Str} {tf : Tok} {clc : Value} {cldc : Option Addr} {cslc : Array (Option Value)} {cdD : _}
    (sc : K.lookup cda = some ⟨ccl, cdd, .fields vsC, ccs⟩)
    (sv : vsC[2]? = some (.str file tf))
    (sf : ((l.prog.main.file : Str) == file) = true)
    (se : K.lookup cc = some ⟨clc, cldc, .cell (some (.ref CF)), cslc⟩)
    (sd : PySem.W.clsIn K CF = some cdD)
    (ss : PySem.W.mroIn K CF (.ref CF) = some true)
    (so : PySem.W.nsIn K cStatics "thirdparty.any" = some none)
    {odPI anPI : Option Addr} {slPI : Array (Option Value)} {ocPI kVPI dcPI pmPI cdPI ctPI : Value}
    (sa : PySem.W.ks_superIn K CF CF "__init__" = some (some (.ref fPI)))
    (st : PySem.W.typeIn K (.ref fPI) = some (.type "function"))
    (si : PySem.W.fnIn K fPI = true)
    (sp : (l.prog.main.scope.names.lookup ("super" : Str)).isSome = false)
    (lPI : K.lookup fPI = some ⟨ocPI, odPI, .func (PySem.W.fnOf "__init__" "Paper.__init__" (defArgs sPaperI) (defBody sPaperI) (defScope sPaperI) .none kVPI dcPI pmPI anPI cdPI ctPI), slPI⟩)
    (cPI : PySem.W.codeIn K cdPI "Paper.__init__" = true)
    (pgCW : PySem.W.plainGet K CW Str.empty = true)
    (hdCW : PySem.W.hasDictIn K CW = true)
    (poCW : PySem.W.plainOver K CW = true)
    (saCW : PySem.W.findIn K (.ref CW) "__setattr__" = some (some (.builtin "object.__setattr__")))
    (mkCW : PySem.W.makesIn K CW = true)
    (kcCW : PySem.W.keepIn K (.ref CW) = true)
    (pgCF : PySem.W.plainGet K CF Str.empty = true)
    (hdCF : PySem.W.hasDictIn K CF = true)
    (poCF : PySem.W.plainOver K CF = true)
    (saCF : PySem.W.findIn K (.ref CF) "__setattr__" = some (some (.builtin "object.__setattr__")))
    (mkCF : PySem.W.makesIn K CF = true)
    (kcCF : PySem.W.keepIn K (.ref CF) = true)
    (nCW_turns : PySem.W.findIn K (.ref CW) "turns" = some none)
    (nCW_many : PySem.W.findIn K (.ref CW) "many" = some none)
    (nCW_ties : PySem.W.findIn K (.ref CW) "ties" = some none)
    (nCF_word : PySem.W.findIn K (.ref CF) "word" = some none)
    (nCF_parts : PySem.W.findIn K (.ref CF) "parts" = some none)
    (nCF_places : PySem.W.findIn K (.ref CF) "places" = some none)
    (nCF_ties : PySem.W.findIn K (.ref CF) "ties" = some none)
    (nCF_faces : PySem.W.findIn K (.ref CF) "faces" = some none)
    (tha : PySem.W.findIn K (.ref CW) "__class__" = some (some (.builtin "object.__class__")))
    (thn : PySem.W.specialIn K (.builtin "object.__class__") "__get__" = some (some (.builtin "getset_descriptor.__get__")))
    (tht : PySem.W.takesIn K (.builtin "object.__class__") = some true)
    (thm : PySem.W.mroIn K CW (.type "object") = some true)
    (thk : PySem.W.kitOne K (.ref CW) (.ref CW) = some true)
    {tM : Tok}
    (zM : PySem.W.nsIn K mainGlobals "MOST_PLACES" = some (some (.int 1000 tM)))
    (z_int : PySem.W.nsIn K mainGlobals "int" = some none)
    (z_bool : PySem.W.nsIn K mainGlobals "bool" = some none)
    (z_list : PySem.W.nsIn K mainGlobals "list" = some none)
    (z_tuple : PySem.W.nsIn K mainGlobals "tuple" = some none)
    (z_isinstance : PySem.W.nsIn K mainGlobals "isinstance" = some none)
    (z_all : PySem.W.nsIn K mainGlobals "all" = some none)
    (z_len : PySem.W.nsIn K mainGlobals "len" = some none)
    (z_set : PySem.W.nsIn K mainGlobals "set" = some none)
    (z_abs : PySem.W.nsIn K mainGlobals "abs" = some none)
    (z_range : PySem.W.nsIn K mainGlobals "range" = some none)
    (z_enumerate : PySem.W.nsIn K mainGlobals "enumerate" = some none)
    (z_sorted : PySem.W.nsIn K mainGlobals "sorted" = some none)
    (z_dict : PySem.W.nsIn K mainGlobals "dict" = some none)
    (z_zip : PySem.W.nsIn K mainGlobals "zip" = some none)
    (z_super : PySem.W.nsIn K mainGlobals "super" = some none)
    (z_repr : PySem.W.nsIn K mainGlobals "repr" = some none)
    : ∃ fd : FuncData, (∀ (s : Shared) (v : Value), BindsTo s fd ⟨[v], []⟩ [("script", v)]) ∧ ∀ base : Heap, K.In base → base.Ns mainGlobals mg → FnG l.prog w K mg base 12 fa fd ["script"] (spLaw K) := by
  have e := hfa.symm.trans (PySem.W.mg_of X G aLa)
  cases e
  have FIn := fun_mk (st := sInteger) lIn cIn kIn
  have bIn := FIn.binds (ps := ["value"]) fun _ _ _ _ _ _ us hl => match us, hl with | [_], _ => rfl
  have FWi := fun_mk (st := sWithin) lWi cWi kWi
  have bWi := FWi.binds (ps := ["value", "least", "most"]) fun _ _ _ _ _ _ us hl => match us, hl with | [_, _, _], _ => rfl
  have FLi := fun_mk (st := sList) lLi cLi kLi
  have bLi := FLi.binds (ps := ["value"]) fun _ _ _ _ _ _ us hl => match us, hl with | [_], _ => rfl
  have FRo := fun_mk (st := sRow) lRo cRo kRo
  have bRo := FRo.binds (ps := ["value", "least", "most"]) fun _ _ _ _ _ _ us hl => match us, hl with | [_, _, _], _ => rfl
  have FUn := fun_mk (st := sUn) lUn cUn kUn
  have bUn := FUn.binds (ps := ["value", "least"]) fun _ _ _ _ _ _ us hl => match us, hl with | [_, _], _ => rfl
  have FLo := fun_mk (st := sLot) lLo cLo kLo
  have bLo := FLo.binds (ps := ["value"]) fun _ _ _ _ _ _ us hl => match us, hl with | [_], _ => rfl
  have FFx := fun_mk (st := sFixed) lFx cFx kFx
  have bFx := FFx.binds (ps := ["value"]) fun _ _ _ _ _ _ us hl => match us, hl with | [_], _ => rfl
  have FNu := fun_mk (st := sNumber) lNu cNu kNu
  have bNu := FNu.binds (ps := ["value", "least", "most", "part"]) fun _ _ _ _ _ _ us hl => match us, hl with | [_, _, _, _], _ => rfl
  have FWw := fun_mk (st := sWantWeb) lWw cWw kWw
  have bWw := FWw.binds (ps := ["web"]) fun _ _ _ _ _ _ us hl => match us, hl with | [_], _ => rfl
  have FAr := fun_mk (st := sAreTurns) lAr cAr kAr
  have bAr := FAr.binds (ps := ["turns"]) fun _ _ _ _ _ _ us hl => match us, hl with | [_], _ => rfl
  have FIt := fun_mk (st := sIsTurn) lIt cIt kIt
  have bIt := FIt.binds (ps := ["turn", "place", "many"]) fun _ _ _ _ _ _ us hl => match us, hl with | [_, _, _], _ => rfl
  have FTi := fun_mk (st := sTies) lTi cTi kTi
  have bTi := FTi.binds (ps := ["turns"]) fun _ _ _ _ _ _ us hl => match us, hl with | [_], _ => rfl
  have FFa := fun_mk (st := sFaces) lFa cFa kFa
  have bFa := FFa.binds (ps := ["web"]) fun _ _ _ _ _ _ us hl => match us, hl with | [_], _ => rfl
  have FJu := fun_mk (st := sJudged) lJu cJu kJu
  have bJu := FJu.binds (ps := ["web"]) fun _ _ _ _ _ _ us hl => match us, hl with | [_], _ => rfl
  have FIf := fun_mk (st := sIsFlat) lIf cIf kIf
  have bIf := FIf.binds (ps := ["web"]) fun _ _ _ _ _ _ us hl => match us, hl with | [_], _ => rfl
  have FFr := fun_mk (st := sFrom) lFr cFr kFr
  have bFr := FFr.binds (ps := ["web", "place"]) fun _ _ _ _ _ _ us hl => match us, hl with | [_, _], _ => rfl
  have FBe := fun_mk (st := sBehind) lBe cBe kBe
  have bBe := FBe.binds (ps := ["web"]) fun _ _ _ _ _ _ us hl => match us, hl with | [_], _ => rfl
  have FTa := fun_mk (st := sTaken) lTa cTa kTa
  have bTa := FTa.binds (ps := ["left", "one", "other"]) fun _ _ _ _ _ _ us hl => match us, hl with | [_, _, _], _ => rfl
  have FFi := fun_mk (st := sFilled) lFi cFi kFi
  have bFi := FFi.binds (ps := ["web"]) fun _ _ _ _ _ _ us hl => match us, hl with | [_], _ => rfl
  have FRi := fun_mk (st := sRing) lRi cRi kRi
  have bRi := FRi.binds (ps := ["many"]) fun _ _ _ _ _ _ us hl => match us, hl with | [_], _ => rfl
  have FFl := fun_mk (st := sFloor) lFl cFl kFl
  have bFl := FFl.binds (ps := ["wide", "tall"]) fun _ _ _ _ _ _ us hl => match us, hl with | [_, _], _ => rfl
  have FWh := fun_mk (st := sWheel) lWh cWh kWh
  have bWh := FWh.binds (ps := ["many"]) fun _ _ _ _ _ _ us hl => match us, hl with | [_], _ => rfl
  have FFt := fun_mk (st := sFloorT) lFt cFt kFt
  have bFt := FFt.binds (ps := ["wide", "tall", "place"]) fun _ _ _ _ _ _ us hl => match us, hl with | [_, _, _], _ => rfl
  have FYa := fun_mk (st := sTub) lYa cYa kYa
  have bYa := FYa.binds (ps := ["script"]) fun _ _ _ _ _ _ us hl => match us, hl with | [_], _ => rfl
  have FRa := fun_mk (st := sScoop) lRa cRa kRa
  have bRa := FRa.binds (ps := ["yard", "many"]) fun _ _ _ _ _ _ us hl => match us, hl with | [_, _], _ => rfl
  have FLb := fun_mk (st := sLBehind) lLb cLb kLb
  have bLb := FLb.binds (ps := ["turn", "place"]) fun _ _ _ _ _ _ us hl => match us, hl with | [_, _], _ => rfl
  have FLf := fun_mk (st := sLFaces) lLf cLf kLf
  have bLf := FLf.binds (ps := ["turns"]) fun _ _ _ _ _ _ us hl => match us, hl with | [_], _ => rfl
  have FSa := fun_mk (st := sSame) lSa cSa kSa
  have bSa := FSa.binds (ps := ["web", "turns"]) fun _ _ _ _ _ _ us hl => match us, hl with | [_, _], _ => rfl
  have FLg := fun_mk (st := sLFloor) lLg cLg kLg
  have bLg := FLg.binds (ps := ["wide", "tall"]) fun _ _ _ _ _ _ us hl => match us, hl with | [_, _], _ => rfl
  have FLr := fun_mk (st := sLRing) lLr cLr kLr
  have bLr := FLr.binds (ps := ["many"]) fun _ _ _ _ _ _ us hl => match us, hl with | [_], _ => rfl
  have FLw := fun_mk (st := sLWheel) lLw cLw kLw
  have bLw := FLw.binds (ps := ["many"]) fun _ _ _ _ _ _ us hl => match us, hl with | [_], _ => rfl
  have FLx := fun_mk (st := sLFlat) lLx cLx kLx
  have bLx := FLx.binds (ps := ["web", "turns"]) fun _ _ _ _ _ _ us hl => match us, hl with | [_, _], _ => rfl
  have FLa := fun_mk (st := sLaw) lLa cLa kLa
  have bLa := FLa.binds (ps := ["script"]) fun _ _ _ _ _ _ us hl => match us, hl with | [_], _ => rfl
  have FWI := fun_mk (st := sWebI) lWI cWI kWI
  have bWI := FWI.binds (ps := ["self", "turns"]) fun _ _ _ _ _ _ us hl => match us, hl with | [_, _], _ => rfl
  have FWE := fun_mk (st := sWebE) lWE cWE kWE
  have bWE := FWE.binds (ps := ["self", "other"]) fun _ _ _ _ _ _ us hl => match us, hl with | [_, _], _ => rfl
  have FPB := fun_mk (st := sPaperB) lPB cPB kPB
  have bPB := FPB.binds (ps := ["self"]) fun _ _ _ _ _ _ us hl => match us, hl with | [_], _ => rfl
  have bFI : Binds K (PySem.W.ksFn "__init__" "Flat.__init__" (defArgs sFlatI) (defBody sFlatI) (defScope sFlatI) .none kVFI dcFI pmFI anFI (.ref cda) ctFI cc) ["self", "places", "ties", "faces"] [] := fun s us _ hl => .of_eq (match us, hl with | [_, _, _, _], _ => rfl)
  have kRi := kbn_of FRi (ps := ["many"]) 0 ["many"] (fun us ws => just1 us ws) (fun _ r => r) fun _ _ _ _ _ _ us ws h1 h2 => match us, ws, h1, h2 with | [], [_], _, _ => rfl
  have kWh := kbn_of FWh (ps := ["many"]) 0 ["many"] (fun us ws => just1 us ws) (fun _ r => r) fun _ _ _ _ _ _ us ws h1 h2 => match us, ws, h1, h2 with | [], [_], _, _ => rfl
  have kFl := kbn_of FFl (ps := ["wide", "tall"]) 0 ["tall", "wide"] (fun us ws => swap2 us ws) (fun _ r => swap2_rel r) fun _ _ _ _ _ _ us ws h1 h2 => match us, ws, h1, h2 with | [], [_, _], _, _ => rfl
  refine ⟨PySem.W.fnOf "law" "law" (defArgs sLaw) (defBody sLaw) (defScope sLaw) .none kVLa dcLa pmLa anLa cdLa ctLa, fun s v => .of_eq rfl, fun base _ _ => ?_⟩
  have n : ∀ {x : Str}, PySem.W.nsIn K mainGlobals x = some none → mg x = none := fun h => PySem.W.mg_none_of X G h
  have g : ∀ {x : Str} {v : Value}, PySem.W.nsIn K mainGlobals x = some (some v) → mg x = some v := fun h => PySem.W.mg_of X G h
  have T : TWeb K mg CW := ⟨⟨pgCW, hdCW, poCW, saCW⟩, nCW_turns, nCW_many, nCW_ties, g aCW⟩
  have I : TIns K CW := ⟨tha, thn, tht, thm, thk⟩
  have M : Mk K CW fWI := ⟨mkCW, aWI, iWI, kcCW⟩
  have TF : TFlat K CF := ⟨⟨⟨pgCF, hdCF, poCF, saCF⟩, nCF_word, nCF_parts⟩, nCF_places, nCF_ties, nCF_faces⟩
  have MF : Mk K CF fFI := ⟨mkCF, aFI, iFI, kcCF⟩
  have BF : SuFacts l.prog K fFI fPI CF CF cc cda (PySem.W.ksFn "__init__" "Flat.__init__" (defArgs sFlatI) (defBody sFlatI) (defScope sFlatI) .none kVFI dcFI pmFI anFI (.ref cda) ctFI cc) "self" :=
    ⟨⟨_, _, _, lFI⟩, ⟨_, rfl, rfl⟩, ⟨_, _, _, _, _, _, sc, sv, sf⟩, ⟨_, _, _, se⟩, ⟨_, sd⟩, ss, so, sa, st, si, sp, fun z => by rw [sd] at z; cases z⟩
  have GIn := ok_integer (P := l.prog) (w := w) (mg := mg) (base := base) (k := 0) FIn (n z_isinstance) (n z_int) (n z_bool)
  have GWi := ok_within (P := l.prog) (w := w) (mg := mg) (base := base) (k := 1) FWi FIn (GIn.mono (by decide)) bIn (g aIn)
  have GLi := ok_list (P := l.prog) (w := w) (mg := mg) (base := base) (k := 0) FLi (n z_isinstance) (n z_list) (n z_tuple)
  have GRo := ok_row (P := l.prog) (w := w) (mg := mg) (base := base) (k := 2) FRo FWi (GWi.mono (by decide)) bWi (g aWi) FLi (GLi.mono (by decide)) bLi (g aLi) (n z_all)
  have GUn := ok_unlike (P := l.prog) (w := w) (mg := mg) (base := base) (k := 3) FUn FRo (GRo.mono (by decide)) bRo (g aRo) (n z_len) (n z_set)
  have GLo := ok_lot (P := l.prog) (w := w) (mg := mg) (base := base) (k := 4) FLo FUn (GUn.mono (by decide)) bUn (g aUn)
  have GIt := ok_isTurn (P := l.prog) (w := w) (mg := mg) (base := base) (k := 5) FIt FLo (GLo.mono (by decide)) bLo (g aLo) (n z_all)
  have GAr := ok_are (P := l.prog) (w := w) (mg := mg) (base := base) (k := 6) FAr FWi (GWi.mono (by decide)) bWi (g aWi) FLi (GLi.mono (by decide)) bLi (g aLi) FIt (GIt.mono (by decide)) bIt (g aIt) (g zM) (n z_all) (n z_len) (n z_enumerate)
  have GTi := ok_ties (P := l.prog) (w := w) (mg := mg) (base := base) (k := 6) FTi (n z_tuple) (n z_sorted) (n z_enumerate)
  have GWI := ok_webI (P := l.prog) (w := w) (mg := mg) (base := base) (k := 7) FWI T FAr (GAr.mono (by decide)) bAr (g aAr) FTi (GTi.mono (by decide)) bTi (g aTi) (n z_tuple) (n z_len)
  have GWE := ok_webE (P := l.prog) (w := w) (mg := mg) (base := base) (k := 10) FWE T I (n z_isinstance)
  have GNu := ok_number (P := l.prog) (w := w) (mg := mg) (base := base) (k := 8) FNu FWi (GWi.mono (by decide)) bWi (g aWi)
  have GWw := ok_wantWeb (P := l.prog) (w := w) (mg := mg) (base := base) (k := 0) FWw T I (n z_isinstance)
  have GRi := ok_ring (P := l.prog) (w := w) (mg := mg) (base := base) (k := 8) FRi T FNu (GNu.mono (by decide)) bNu (g aNu) M (GWI.mono (by decide)) bWI (g zM) (n z_range)
  have GWh := ok_wheel (P := l.prog) (w := w) (mg := mg) (base := base) (k := 8) FWh T FNu (GNu.mono (by decide)) bNu (g aNu) M (GWI.mono (by decide)) bWI (g zM) (n z_range) (n z_list)
  have GFt := ok_floorT' (P := l.prog) (w := w) (mg := mg) (base := base) (k := 8) FFt
  have GFl := ok_floor (P := l.prog) (w := w) (mg := mg) (base := base) (k := 8) FFl T FNu (GNu.mono (by decide)) bNu (g aNu) M (GWI.mono (by decide)) bWI FFt (GFt.mono (by decide)) bFt (g aFt) (g zM) (n z_range)
  have GF0 := ok_fix0 (P := l.prog) (w := w) (mg := mg) (base := base) (k := 1) FFx FLi (GLi.mono (by decide)) bLi (g aLi)
  have GF1 := ok_fix1 (P := l.prog) (w := w) (mg := mg) (base := base) (k := 2) FFx FLi (GLi.mono (by decide)) bLi (g aLi) (GF0.mono (by decide)) bFx (g aFx) (n z_tuple)
  have GPI := ok_paperI (P := l.prog) (w := w) (mg := mg) (base := base) (k := 5) lPI cPI FFx (GF1.mono (by decide)) bFx (g aFx)
  have GFI := ok_flatI (P := l.prog) (w := w) (mg := mg) (base := base) (k := 6) BF cFI (n z_super) TF GPI
  have GPB := ok_paperB (P := l.prog) (w := w) (mg := mg) (base := base) (k := 6) FPB
  have GBe := ok_behind (P := l.prog) (w := w) (mg := mg) (base := base) (k := 0) FBe T (n z_dict) (n z_zip)
  have GTa := ok_taken (P := l.prog) (w := w) (mg := mg) (base := base) (k := 0) FTa (n z_tuple)
  have GFa := ok_faces (P := l.prog) (w := w) (mg := mg) (base := base) (k := 1) FFa T FWw (GWw.mono (by decide)) bWw (g aWw) FBe (GBe.mono (by decide)) bBe (g aBe) FTa (GTa.mono (by decide)) bTa (g aTa) (n z_tuple) (n z_enumerate) (n z_sorted)
  have GFr := ok_from (P := l.prog) (w := w) (mg := mg) (base := base) (k := 7) FFr T (n z_tuple) (n z_sorted)
  have GJu := ok_judged (P := l.prog) (w := w) (mg := mg) (base := base) (k := 7) FJu T FWw (GWw.mono (by decide)) bWw (g aWw) FFr (GFr.mono (by decide)) bFr (g aFr) FFa (GFa.mono (by decide)) bFa (g aFa) MF (GFI.mono (by decide)) bFI (g aCF) (n z_len)
  have GIf := ok_isFlat (P := l.prog) (w := w) (mg := mg) (base := base) (k := 7) FIf FJu (GJu.mono (by decide)) bJu (g aJu) (GPB.mono (by decide)) bPB aPB iPB (n z_bool)
  have GFi := ok_filled (P := l.prog) (w := w) (mg := mg) (base := base) (k := 10) FFi T FWw (GWw.mono (by decide)) bWw (g aWw) FFa (GFa.mono (by decide)) bFa (g aFa) FIf (GIf.mono (by decide)) bIf (g aIf) (n z_len) (n z_all)
  have GYa := ok_tub (P := l.prog) (w := w) (mg := mg) (base := base) (k := 10) FYa (n z_int)
  have GRa := ok_scoop (P := l.prog) (w := w) (mg := mg) (base := base) (k := 10) FRa (n z_int) (n z_len) (n z_abs)
  have GLb := ok_lbehind (P := l.prog) (w := w) (mg := mg) (base := base) (k := 0) FLb (n z_int) (n z_len)
  have GLf := ok_lfaces (P := l.prog) (w := w) (mg := mg) (base := base) (k := 1) FLf FLb (GLb.mono (by decide)) bLb (g aLb) (n z_enumerate) (n z_sorted)
  have GSa := ok_same (P := l.prog) (w := w) (mg := mg) (base := base) (k := 9) FSa T (n z_repr) (n z_tuple) (n z_len)
  have GLx := ok_lflat (P := l.prog) (w := w) (mg := mg) (base := base) (k := 10) FLx T FSa (GSa.mono (by decide)) bSa (g aSa) FLf (GLf.mono (by decide)) bLf (g aLf) FFa (GFa.mono (by decide)) bFa (g aFa) (n z_tuple) (n z_len)
  have GLr := ok_lring (P := l.prog) (w := w) (mg := mg) (base := base) (k := 10) FLr (n z_range)
  have GLw := ok_lwheel (P := l.prog) (w := w) (mg := mg) (base := base) (k := 10) FLw (n z_range) (n z_list)
  have GLg := ok_lfloor (P := l.prog) (w := w) (mg := mg) (base := base) (k := 10) FLg (n z_range) (n z_int)
  exact ok_law (k := 10) FLa T FYa (GYa.mono (by decide)) bYa (g aYa) FRa (GRa.mono (by decide)) bRa (g aRa) FRi (GRi.mono (by decide)) bRi kRi (g aRi) FWh (GWh.mono (by decide)) bWh kWh (g aWh) FFl (GFl.mono (by decide)) bFl kFl (g aFl)
    FLr (GLr.mono (by decide)) bLr (g aLr) FLw (GLw.mono (by decide)) bLw (g aLw) FLg (GLg.mono (by decide)) bLg (g aLg) FLx (GLx.mono (by decide)) bLx (g aLx) FFi (GFi.mono (by decide)) bFi (g aFi) M (GWI.mono (by decide)) bWI (GWE.mono (by decide)) bWE aWE iWE (n z_range) (n z_repr)
end Tl
end S_YM
open PySem PySem.W PyProof.Rows
set_option maxRecDepth 100000 in
set_option maxHeartbeats 0 in
theorem PySem.Challenge.cw_threelanes_k13_rings_floors_and_wheels_holds : PySem.Challenge.rw_threelanes_k13_rings_floors_and_wheels.Holds := by
  w_on; o_law; k_head; (case hw => w_witness2)
  k_fill
  refine Tl.walk_g (l := PySem.Challenge.rw_threelanes_k13_rings_floors_and_wheels) (n := 63) (k := 12) (x := "script") (sp := fun w => Tl.spLaw _) rfl (by decide) rfl ⟨rfl, by decide, by decide⟩ (fun w h Y => PySem.W.kIn_of Y) ?F (fun _ _ a ns hl _ hS => ⟨a, ns, rfl, hS, hl, fun _ => rfl⟩)
  case F =>
    intro w mg fa h KX G hmg
    refine' Tl.all_mk KX G hmg ?aIn ?lIn ?cIn ?kIn ?aWi ?lWi ?cWi ?kWi ?aLi ?lLi ?cLi ?kLi ?aRo ?lRo ?cRo ?kRo ?aUn ?lUn ?cUn ?kUn ?aLo ?lLo ?cLo ?kLo ?aFx ?lFx ?cFx ?kFx ?aNu ?lNu ?cNu ?kNu ?aWw ?lWw ?cWw ?kWw ?aAr ?lAr ?cAr ?kAr ?aIt ?lIt ?cIt ?kIt ?aTi ?lTi ?cTi ?kTi ?aFa ?lFa ?cFa ?kFa ?aJu ?lJu ?cJu ?kJu ?aIf ?lIf ?cIf ?kIf ?aFr ?lFr ?cFr ?kFr ?aBe ?lBe ?cBe ?kBe ?aTa ?lTa ?cTa ?kTa ?aFi ?lFi ?cFi ?kFi ?aRi ?lRi ?cRi ?kRi ?aFl ?lFl ?cFl ?kFl ?aWh ?lWh ?cWh ?kWh ?aFt ?lFt ?cFt ?kFt ?aYa ?lYa ?cYa ?kYa ?aRa ?lRa ?cRa ?kRa ?aLb ?lLb ?cLb ?kLb ?aLf ?lLf ?cLf ?kLf ?aSa ?lSa ?cSa ?kSa ?aLg ?lLg ?cLg ?kLg ?aLr ?lLr ?cLr ?kLr ?aLw ?lLw ?cLw ?kLw ?aLx ?lLx ?cLx ?kLx ?aLa ?lLa ?cLa ?kLa ?aCW ?aCF ?aWI ?iWI ?lWI ?cWI ?kWI ?aWE ?iWE ?lWE ?cWE ?kWE ?aPB ?iPB ?lPB ?cPB ?kPB ?aFI ?iFI ?lFI ?cFI ?kFI ?sc ?sv ?sf ?se ?sd ?ss ?so ?sa ?st ?si ?sp ?lPI ?cPI ?pgCW ?hdCW ?poCW ?saCW ?mkCW ?kcCW ?pgCF ?hdCF ?poCF ?saCF ?mkCF ?kcCF ?nCW_turns ?nCW_many ?nCW_ties ?nCF_word ?nCF_parts ?nCF_places ?nCF_ties ?nCF_faces ?tha ?thn ?tht ?thm ?thk ?zM ?z_int ?z_bool ?z_list ?z_tuple ?z_isinstance ?z_all ?z_len ?z_set ?z_abs ?z_range ?z_enumerate ?z_sorted ?z_dict ?z_zip ?z_super ?z_repr
    (case aIn => k_is)
    (case lIn => k_is)
    (case cIn => k_is)
    (case kIn => k_is)
    (case aWi => k_is)
    (case lWi => k_is)
    (case cWi => k_is)
    (case kWi => k_is)
    (case aLi => k_is)
    (case lLi => k_is)
    (case cLi => k_is)
    (case kLi => k_is)
    (case aRo => k_is)
    (case lRo => k_is)
    (case cRo => k_is)
    (case kRo => k_is)
    (case aUn => k_is)
    (case lUn => k_is)
    (case cUn => k_is)
    (case kUn => k_is)
    (case aLo => k_is)
    (case lLo => k_is)
    (case cLo => k_is)
    (case kLo => k_is)
    (case aFx => k_is)
    (case lFx => k_is)
    (case cFx => k_is)
    (case kFx => k_is)
    (case aNu => k_is)
    (case lNu => k_is)
    (case cNu => k_is)
    (case kNu => k_is)
    (case aWw => k_is)
    (case lWw => k_is)
    (case cWw => k_is)
    (case kWw => k_is)
    (case aAr => k_is)
    (case lAr => k_is)
    (case cAr => k_is)
    (case kAr => k_is)
    (case aIt => k_is)
    (case lIt => k_is)
    (case cIt => k_is)
    (case kIt => k_is)
    (case aTi => k_is)
    (case lTi => k_is)
    (case cTi => k_is)
    (case kTi => k_is)
    (case aFa => k_is)
    (case lFa => k_is)
    (case cFa => k_is)
    (case kFa => k_is)
    (case aJu => k_is)
    (case lJu => k_is)
    (case cJu => k_is)
    (case kJu => k_is)
    (case aIf => k_is)
    (case lIf => k_is)
    (case cIf => k_is)
    (case kIf => k_is)
    (case aFr => k_is)
    (case lFr => k_is)
    (case cFr => k_is)
    (case kFr => k_is)
    (case aBe => k_is)
    (case lBe => k_is)
    (case cBe => k_is)
    (case kBe => k_is)
    (case aTa => k_is)
    (case lTa => k_is)
    (case cTa => k_is)
    (case kTa => k_is)
    (case aFi => k_is)
    (case lFi => k_is)
    (case cFi => k_is)
    (case kFi => k_is)
    (case aRi => k_is)
    (case lRi => k_is)
    (case cRi => k_is)
    (case kRi => k_is)
    (case aFl => k_is)
    (case lFl => k_is)
    (case cFl => k_is)
    (case kFl => k_is)
    (case aWh => k_is)
    (case lWh => k_is)
    (case cWh => k_is)
    (case kWh => k_is)
    (case aFt => k_is)
    (case lFt => k_is)
    (case cFt => k_is)
    (case kFt => k_is)
    (case aYa => k_is)
    (case lYa => k_is)
    (case cYa => k_is)
    (case kYa => k_is)
    (case aRa => k_is)
    (case lRa => k_is)
    (case cRa => k_is)
    (case kRa => k_is)
    (case aLb => k_is)
    (case lLb => k_is)
    (case cLb => k_is)
    (case kLb => k_is)
    (case aLf => k_is)
    (case lLf => k_is)
    (case cLf => k_is)
    (case kLf => k_is)
    (case aSa => k_is)
    (case lSa => k_is)
    (case cSa => k_is)
    (case kSa => k_is)
    (case aLg => k_is)
    (case lLg => k_is)
    (case cLg => k_is)
    (case kLg => k_is)
    (case aLr => k_is)
    (case lLr => k_is)
    (case cLr => k_is)
    (case kLr => k_is)
    (case aLw => k_is)
    (case lLw => k_is)
    (case cLw => k_is)
    (case kLw => k_is)
    (case aLx => k_is)
    (case lLx => k_is)
    (case cLx => k_is)
    (case kLx => k_is)
    (case aLa => k_is)
    (case lLa => k_is)
    (case cLa => k_is)
    (case kLa => k_is)
    (case aCW => k_is)
    (case aCF => k_is)
    (case aWI => k_is)
    (case iWI => k_is)
    (case lWI => k_is)
    (case cWI => k_is)
    (case kWI => k_is)
    (case aWE => k_is)
    (case iWE => k_is)
    (case lWE => k_is)
    (case cWE => k_is)
    (case kWE => k_is)
    (case aPB => k_is)
    (case iPB => k_is)
    (case lPB => k_is)
    (case cPB => k_is)
    (case kPB => k_is)
    (case aFI => k_is)
    (case iFI => k_is)
    (case lFI => k_is)
    (case cFI => k_is)
    (case kFI => k_is)
    (case sc => k_is)
    (case sv => rfl)
    (case sf => decide +kernel)
    (case se => k_is)
    (case sd => k_is)
    (case ss => k_is)
    (case so => k_is)
    (case sa => ks_is)
    (case st => k_is)
    (case si => k_is)
    (case sp => decide +kernel)
    (case lPI => k_is)
    (case cPI => k_is)
    (case pgCW => k_is)
    (case hdCW => k_is)
    (case poCW => k_is)
    (case saCW => k_is)
    (case mkCW => k_is)
    (case kcCW => k_is)
    (case pgCF => k_is)
    (case hdCF => k_is)
    (case poCF => k_is)
    (case saCF => k_is)
    (case mkCF => k_is)
    (case kcCF => k_is)
    (case nCW_turns => k_is)
    (case nCW_many => k_is)
    (case nCW_ties => k_is)
    (case nCF_word => k_is)
    (case nCF_parts => k_is)
    (case nCF_places => k_is)
    (case nCF_ties => k_is)
    (case nCF_faces => k_is)
    (case tha => k_is)
    (case thn => k_is)
    (case tht => k_is)
    (case thm => k_is)
    (case thk => kit_is)
    (case zM => k_is)
    (case z_int => k_is)
    (case z_bool => k_is)
    (case z_list => k_is)
    (case z_tuple => k_is)
    (case z_isinstance => k_is)
    (case z_all => k_is)
    (case z_len => k_is)
    (case z_set => k_is)
    (case z_abs => k_is)
    (case z_range => k_is)
    (case z_enumerate => k_is)
    (case z_sorted => k_is)
    (case z_dict => k_is)
    (case z_zip => k_is)
    (case z_super => k_is)
    (case z_repr => k_is)
