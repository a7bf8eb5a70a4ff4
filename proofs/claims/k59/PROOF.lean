import PyProof.Rows.All
import Wide.All
import OpenK.AllK
import Wide.FinOn
import HandS.ForMost
import HandS.Evl
import HandS.IsInst
import HandS.TupLe
import HandS.Conv
import HandS.SetFor
import HandS.Zip
import HandS.Defaults
import KE.KEqSeq
import PyProof.ReprRoads
import HandS.Star
import HandS.More
import KE.KSuper
import HandS.Zip0
import KE.KDictZip
import HandS.SortInts
import HandS.TupAny
import HandS.Iter
import KE.GoesEnum
import HandS.Walk
import HandS.DictComp
import HandS.Exc
import HandS.Lambda
import HandS.TryOnly
import HandS.Call
import KE.KExcIs
import HandS.ForSpec
import HandS.ExcOwn
import HandS.EndTab
import HandS.SortKw
import KE.KMinKey
import PyProof.DefStmt
import PyProof.StrOps2
import PyProof.FitsStr
import PyProof.SliceStr2
import HandS.Style
import HandS.Text
import KE.DatumOrd
import HandS.TupMul
import KE.GoesEnumKw
import KE.KItemsList
import HandS.ListItems
import KE.KCallOwn
import HandS.Strs
import HandS.StrMore
import HandS.ExcInit
import HandS.SetKeys
import HandS.ExcIs
import PySem.Challenge.RW_threelanes_k59_colourings_refused
set_option Elab.async false
set_option linter.all false
set_option maxRecDepth 100000
section S_Ru
namespace Tl
open PySem PySem.Spec PyProof.Rows L2
/-! ### len(set(x)) of a list or a tuple of ints, unlike or not -/
theorem met_len (ns : List Int) : ∀ i, i ≤ ns.length → ((firstMet (fun i => ns.getD i 0) i).length = i ↔ (ns.take i).Nodup) ∧ ∀ k, k ∈ firstMet (fun i => ns.getD i 0) i ↔ k ∈ ns.take i
  | 0, _ => by
    rw [firstMet_zero]
    simp
  | i + 1, h => by
    have hi : i < ns.length := h
    obtain ⟨a1, a2⟩ := met_len ns i (Nat.le_of_lt hi)
    have ex : ns.getD i 0 = ns[i] := by simp [List.getD_eq_getElem?_getD, hi]
    have et : ns.take (i + 1) = ns.take i ++ [ns[i]] := by rw [List.take_add_one, List.getElem?_eq_getElem hi] <;> rfl
    have eb : (firstMet (fun i => ns.getD i 0) i).any (· == ns[i]) = true ↔ ns[i] ∈ ns.take i := by
      rw [List.any_eq_true]
      constructor
      · intro ⟨x, hx, he⟩
        rw [← beq_iff_eq.mp he]
        exact (a2 x).mp hx
      · intro hx
        exact ⟨_, (a2 _).mpr hx, beq_self_eq_true _⟩
    have le := firstMet_length_le (fun i => ns.getD i 0) i
    rw [firstMet_succ, et]
    show ((step_dedup _ (ns.getD i 0)).length = i + 1 ↔ _) ∧ _
    rw [ex]
    unfold step_dedup
    have nd : (ns.take i ++ [ns[i]]).Nodup ↔ (ns.take i).Nodup ∧ ns[i] ∉ ns.take i := by
      rw [List.nodup_append]
      simp
      exact fun _ => ⟨fun y z => y _ z rfl, fun y a ha e => y (e ▸ ha)⟩
    by_cases hm : ns[i] ∈ ns.take i
    · rw [if_pos (eb.mpr hm)]
      refine ⟨⟨fun e => by omega, fun e => absurd hm (nd.mp e).2⟩, fun k => ?_⟩
      rw [a2 k, List.mem_append, List.mem_singleton]
      exact ⟨.inl, fun z => z.elim id fun e => e ▸ hm⟩
    · rw [if_neg (fun z => hm (eb.mp z))]
      refine ⟨?_, fun k => ?_⟩
      · rw [List.length_append, List.length_singleton, nd]
        exact ⟨fun e => ⟨a1.mp (by omega), hm⟩, fun e => by rw [a1.mpr e.1]⟩
      · rw [List.mem_append, List.mem_append, a2 k]
def tLenSetN (K : PySem.W.Frag) (ta : TE) : TE := fun σ H Q => ta σ H fun x H1 => ∃ (l : Addr) (ns : List Int), x = .ref l ∧ SqL K H1 l (ns.map V.int) ∧ ns.length ≤ 4000 ∧ ∀ c : Nat, (c = ns.length ↔ ns.Nodup) → Q (.int (c : Int)) H1
theorem pe_lenSetN {X : Cx} {a : Expr} {ta : TE} {p p2 q pos : Pos} (hg : Gl X "len") (hm : X.mg "len" = none) (hg2 : Gl X "set") (hm2 : X.mg "set" = none) (ha : PE X a ta) (hc : X.calm = true := by rfl)
    (na : starEach [a] X.env = (false, eval a X.env) :: starEach [] X.env := by rfl) : PE X (.Call (.Name "len" p) [.Call (.Name "set" p2) [a] [] q] [] pos) (tLenSetN X.K ta) := by
  constructor
  intro pins s σ H Q I h
  refine Call_ (ld_blt I hg hm boot_len (callWith_builtin1 (args_cons (Call_ (ld_blt I hg2 hm2 boot_set (callWith_type1 (args_cons (thn (ha.run pins s σ H _ I h) fun v s1 hv => args_nil ?_) na) na rfl))) rfl) rfl rfl))
  obtain ⟨x, H1, I1, r1, l, ns, rfl, hq, hl, q1⟩ := hv
  cases r1
  obtain ⟨its, r, pl, hz⟩ := I1.list hq
  have hn : its.toArray.size = ns.length := by rw [List.size_toArray, ← r.length, List.length_map]
  refine call_set_list (I1.ok.hd hc) pl.isList (by simpa using RZ.intsAre_vals r) (by rw [hn]; unfold scanBound; omega) fun h' tk hS hk => args_nil ?_
  obtain ⟨o, es, ep, t, ho, hex, hd, _, _, hb, hf, hsz⟩ := hS
  have I2 : Inv X pins σ H1 { s1 with heap := h', toks := tk } := I1.kept fun b o e => hk b o (Heap.lt_size e) e
  refine call_len_set ho hex hd hf (by unfold scanBound at hb; omega) ⟨.int es.size, H1, I2.tok _, ⟨_, rfl⟩, q1 es.size ?_⟩
  rw [hsz, hn]
  have e := (met_len ns ns.length (Nat.le_refl _)).1
  rwa [List.take_length] at e
/-- the same of a tuple -/
def tLenSetU (K : PySem.W.Frag) (ta : TE) : TE := fun σ H Q => ta σ H fun x H1 => ∃ (l : Addr) (ns : List Int), x = .ref l ∧ SqT K H1 l (ns.map V.int) ∧ ns.length ≤ 4000 ∧ ∀ c : Nat, (c = ns.length ↔ ns.Nodup) → Q (.int (c : Int)) H1
theorem nodup_same {as bs : List Int} (ha : as.Nodup) (hm : ∀ k, k ∈ bs ↔ k ∈ as) : as.length = bs.length ↔ bs.Nodup := by
  have sub : ∀ (as bs : List Int), as.Nodup → (∀ k, k ∈ as → k ∈ bs) → as.length ≤ bs.length := by
    intro as
    induction as with
    | nil => intro bs _ _; exact Nat.zero_le _
    | cons a r ih =>
      intro bs hn hs
      rw [List.nodup_cons] at hn
      have h1 : a ∈ bs := hs a List.mem_cons_self
      have h2 := ih (bs.erase a) hn.2 fun k hk => by
        have hne : k ≠ a := fun e => hn.1 (e ▸ hk)
        exact (List.mem_erase_of_ne hne).mpr (hs k (List.mem_cons_of_mem _ hk))
      rw [List.length_erase_of_mem h1] at h2
      have h3 : 0 < bs.length := List.length_pos_of_mem h1
      rw [List.length_cons]
      omega
  have strict : ∀ (bs as : List Int), as.Nodup → (∀ k, k ∈ as → k ∈ bs) → ¬ bs.Nodup → as.length < bs.length := by
    intro bs
    induction bs with
    | nil => intro as _ _ h; exact absurd List.nodup_nil h
    | cons b r ih =>
      intro as hn hs hb
      rw [List.length_cons]
      by_cases hbr : b ∈ r
      · have := sub as r hn fun k hk => by
          rcases List.mem_cons.mp (hs k hk) with e | e
          · rw [e]; exact hbr
          · exact e
        omega
      · have hr : ¬ r.Nodup := fun z => hb (List.nodup_cons.mpr ⟨hbr, z⟩)
        have h1 := ih (as.erase b) (hn.erase b) (fun k hk => by
          have h2 := hn.mem_erase_iff.mp hk
          rcases List.mem_cons.mp (hs k h2.2) with e | e
          · exact absurd e h2.1
          · exact e) hr
        by_cases ha : b ∈ as
        · rw [List.length_erase_of_mem ha] at h1
          omega
        · rw [List.erase_of_not_mem ha] at h1
          omega
  constructor
  · intro e
    apply Classical.byContradiction
    intro h
    have := strict bs as ha (fun k hk => (hm k).mpr hk) h
    omega
  · intro hb
    have h1 := sub as bs ha fun k hk => (hm k).mpr hk
    have h2 := sub bs as hb fun k hk => (hm k).mp hk
    omega
theorem pe_lenSetU {X : Cx} {a : Expr} {ta : TE} {p p2 q pos : Pos} (hg : Gl X "len") (hm : X.mg "len" = none) (hg2 : Gl X "set") (hm2 : X.mg "set" = none) (ha : PE X a ta) (hc : X.calm = true := by rfl)
    (na : starEach [a] X.env = (false, eval a X.env) :: starEach [] X.env := by rfl) : PE X (.Call (.Name "len" p) [.Call (.Name "set" p2) [a] [] q] [] pos) (tLenSetU X.K ta) := by
  constructor
  intro pins s σ H Q I h
  refine Call_ (ld_blt I hg hm boot_len (callWith_builtin1 (args_cons (Call_ (ld_blt I hg2 hm2 boot_set (callWith_type1 (args_cons (thn (ha.run pins s σ H _ I h) fun v s1 hv => args_nil ?_) na) na rfl))) rfl) rfl rfl))
  obtain ⟨x, H1, I1, r1, l, ns, rfl, hq, hl, q1⟩ := hv
  cases r1
  obtain ⟨its, r, pl, hz⟩ := I1.tuple hq
  refine call_set_tupI ns (I1.ok.hd hc) pl (by simpa using RZ.intsAre_vals r) (by unfold scanBound; omega) fun h' tk c hS hcl hk => args_nil ?_
  obtain ⟨o, es, ep, t, ho, hex, hd, _, hnd, hS2, hb, hf, hsz, _⟩ := hS
  have I2 : Inv X pins σ H1 { s1 with heap := h', toks := tk } := I1.kept hk
  refine call_len_set ho hex hd hf (by unfold scanBound at hb; omega) ⟨.int es.size, H1, I2.tok _, ⟨_, rfl⟩, q1 es.size ?_⟩
  have e := nodup_same (bs := ns) hnd fun k => by
    rw [← hS2 k]
    simp
  rwa [List.length_map, Array.length_toList] at e
/-! ### repr of data, where no repr is under way -/
def rRepr (K : PySem.W.Frag) : List V → Hp → VK → Prop := fun xs H Q => ∃ (a : Addr) (d : PyData), xs = [.ref a] ∧ Dp K H (.ref a) d ∧ d.showable = true ∧ d.hasDict = false ∧ d.depth ≤ 20 ∧ d.shown.length ≤ sizeLine ∧ Q (.str d.shown) H
theorem call_reprD {X : Cx} (hg : X.A.guards = some []) (hu : X.A.units + 64 < cLine) : CallR X (.builtin "repr") (rRepr X.K) := by
  intro pins s σ H xs us Q I r h
  obtain ⟨a, d, rfl, hd, hs, hn, hp, hz, q⟩ := h
  obtain ⟨u, rfl, ru⟩ := vals1 r
  cases ru
  obtain ⟨as, rd⟩ := Dp.reads I d _ _ hd rfl
  exact repr_of_reads' rd hs (PyData.noDict_hsm hn) hg (by omega) (fun _ _ e => e) (fun h' u tk hk => ⟨.str d.shown, H, I.kept hk, ⟨_, rfl⟩, q⟩) hz
/-! ### a call by keywords alone -/
theorem kbn_of {K : PySem.W.Frag} {x qual : Str} {st : Stmt} {f : Addr} {fd : FuncData} {ps : List Str} (F : Fun K x qual st f fd) (n : Nat) (ks : List Str) (g : {α : Type} → List α → List α → List α)
    (rel : ∀ {vs zs : List V} {us ws : List Value}, Vals vs us → Vals zs ws → Vals (g vs zs) (g us ws))
    (h : ∀ (kV doc pm : Value) (an : Option Addr) (cdv ct : Value) (us ws : List Value), us.length = n → ws.length = ks.length → bindArgs (PySem.W.fnOf x qual (defArgs st) (defBody st) (defScope st) .none kV doc pm an cdv ct) ⟨us, ks.zip ws⟩ = pure (ps.zip (g us ws))) :
    KBn K fd ps n ks (fun us ws => g us ws) (fun vs zs => g vs zs) := by
  obtain ⟨_, _, kV, doc, pm, an, cdv, ct, _, rfl, _, _⟩ := F.ex
  exact ⟨fun s us ws _ l1 l2 => .of_eq (h kV doc pm an cdv ct us ws l1 l2), rel⟩
theorem pe_callN0 {X : Cx} {CX : CXT} {k : Nat} {f : Addr} {fd : FuncData} {ps ks : List Str} {sp : Sp} {E : XK} {x : Str} {p pos : Pos} {kws : List Keyword} {tk : TA} {g : List Value → List Value → List Value} {gV : List V → List V → List V}
    (F : FnOk X.prog X.w X.K X.mg X.base CX k f fd ps sp) (hr : Room k X.A) (hg : Gl X x) (hm : X.mg x = some (.ref f)) (hk : PySem.W.keepIn X.K (.ref f) = true) (hb : KBn X.K fd ps 0 ks g gV) (hx : Passes CX X E)
    (hkw : PK X kws tk) (hall : (backToKw pos (keywordEach kws X.env)).all (·.1.isSome) = true := by rfl) (hks : (backToKw pos (keywordEach kws X.env)).filterMap (·.1) = ks := by rfl) (hdb : (x == ("__debug__" : Str)) = false := by decide)
    (hpl : ((backTo pos (starEach [] X.env)).any (·.1) || (backToKw pos (keywordEach kws X.env)).any (·.1.isNone)) = false := by rfl) :
    PE X (.Call (.Name x p) [] kws pos) (tCallN 0 ks.length sp gV E tNil tk) := by
  constructor
  intro pins s σ H Q I h
  refine wpAny_Call_Name_kw (ld_glob I hg hm (PySem.W.callWith_KW0 (h₀ := X.base) I.ok.mod.kin hk hall (thn (hkw.run pos pins s σ H _ I h) fun ws s2 hv => ?_) hpl) hdb)
  obtain ⟨zs, H2, I2, rz, l1, l2, q2⟩ := hv
  refine ⟨I2.kIn, ?_⟩
  rw [hks]
  exact run_fnN (us := []) (vs := []) F hr hb hx I2 .nil rz rfl l2 q2
/-! ### defs that are called where no repr is under way -/
structure FnG (P : Program) (w : World) (K : PySem.W.Frag) (mg : Str → Option Value) (base : Heap) (k : Nat) (f : Addr) (fd : FuncData) (ps : List Str) (sp : Sp) : Prop where
  len : ∀ {vs H Q E}, sp vs H Q E → vs.length = ps.length
  go : ∀ {A : Around} {outer : List Env} {s : Shared} {H : Hp} {args : Args} {us : List Value} {vs : List V} {Q : VK} {E : XK}, A.guards = some [] → Room k A → Env0 P w K mg base A outer s H → BindsTo s fd args (ps.zip us) → Vals vs us →
    sp vs H Q E → codeAny (model P w) A (.call (.ref f) args) (CR CX0 outer P w H s Q E) s
theorem fn_g {P : Program} {w : World} {K : PySem.W.Frag} {mg : Str → Option Value} {base : Heap} {x qual : Str} {st : Stmt} {f : Addr} {fd : FuncData} {N ps : List Str} {k : Nat} {sp : Sp} (F : Fun K x qual st f fd) (S : FnScope N ps (defScope st))
    (len : ∀ {vs H Q E}, sp vs H Q E → vs.length = ps.length)
    (hbody : ∀ (cdv : Value) (A : Around) (outer : List Env) (s : Shared) (H : Hp) (vs : List V) (Q : VK) (E : XK), A.guards = some [] → Room k (A.deeper (envOfC qual (defScope st) s.heap.objs.size f cdv)) → sp vs H Q E →
      ∃ t, PSs (cxOf CX0 P w K mg base N qual (defScope st) f cdv A outer s H E).nox (defBody st) t ∧ t { nx := fun _ H' => Q .non H', rt := Q } (start N vs) H) : FnG P w K mg base (k + 1) f fd ps sp := by
  obtain ⟨oc, od, kV, doc, pm, an, cdv, ct, osl, rfl, lk, hcd⟩ := F.ex
  refine ⟨len, fun {A outer s H args us vs Q E} hgd hr e0 hb r hsp => ?_⟩
  have kin : K.In s.heap := e0.mod.kin.keeps fun b o e => (e0.bs b o e).1
  have nl : s.heap.NoLimit := e0.mod.nolimit.keeps fun b o e => (e0.bs b o e).1
  refine codeAny_call_function hr.depth (kin _ _ lk) rfl S.co S.gen rfl (PySem.W.codeRec_of kin hcd) (hb _ _ _ _ (wpAny_newFunctionEnv_cells S.kind ?_ fun env he s1 x => ?_))
  · intro y hy
    have hp : y.1 ∈ ps := (List.of_mem_zip (a := y.1) (b := y.2) hy).1
    exact (S.par y.1 hp).imp id fun q => ⟨q, PySem.W.cellsFrom_some _ _ _ (.inl q)⟩
  · cases he
    obtain ⟨t, ht, hq⟩ := hbody cdv A outer s H vs Q E hgd (hr.deeper _) hsp
    have I := inv_start (CX := CX0) (P := P) (w := w) (base := base) (E := E) (qual := qual) (f := f) (cd := cdv) S hr.hd e0 (len hsp) r x
    refine ⟨nl.keeps x.toInCall.keep, codeAny_func (wpAny_mono (ht.nox.run [] s1 (start N vs) H _ I hq) (fun fl s' hs => ?_) fun _ _ hs => hs)⟩
    cases fl with
    | ret u =>
      obtain ⟨v, σ', H', J, rv, q⟩ := hs
      exact ⟨v, H', J.os, J.bare, J.base, J.hok, rv, q⟩
    | next =>
      obtain ⟨σ', H', J, q⟩ := hs
      exact ⟨.non, H', J.os, J.bare, J.base, J.hok, rfl, q⟩
    | brk => exact hs.elim fun _ h => h.elim fun _ h => h.2.elim
    | cont => exact hs.elim fun _ h => h.elim fun _ h => h.2.elim
/-- the call of the law itself: at its own room no repr is under way -/
theorem law_g {P : Program} {w : World} {K : PySem.W.Frag} {mg mb : Str → Option Value} {k : Nat} {fa a : Addr} {fd : FuncData} {x : Str} {sp : Sp} {s₁ : Shared} {vs : List Value} {ns : List Int}
    (kin : K.In s₁.heap) (hns : s₁.heap.Ns mainGlobals mg) (hb : s₁.heap.Ns builtinsNs mb) (hbb : ∀ x : Str, x ≠ "__name__" → mb x = bootBuiltins x) (hlim : s₁.heap.NoLimit) (hg : s₁.gens = #[])
    (ha : s₁.heap.get? a = some { cls := .type "list", data := .seq vs.toArray }) (hi : IntsAre vs ns) (hl : ns.length ≤ sizeLine) (hr : Room k callerA)
    (F : ∀ base : Heap, K.In base → base.Ns mainGlobals mg → FnG P w K mg base k fa fd [x] sp) (hbind : ∀ (s : Shared) (u : Value), BindsTo s fd ⟨[u], []⟩ [(x, u)])
    (hsp : ∀ H : Hp, Only H → SqL K H a (ns.map V.int) → sp [.ref a] H (fun v _ => v = .bl true) fun _ _ _ => False) :
    codeAny (model P w) callerA (.call (.ref fa) ⟨[.ref a], []⟩) (fun r s' => r = .ok (.ret (.bool true)) ∧ OldK s₁.heap s'.heap ∧ s'.os = s₁.os ∧ AllBare s'.gens) s₁ := by
  have rv := vals_ints hi
  have run : ∀ H : Hp, Only H → SqL K H a (ns.map V.int) → HOk P w H s₁.heap → (∀ b u, H b = some u → b = a ∧ K.lookup a = none) →
      codeAny (model P w) callerA (.call (.ref fa) ⟨[.ref a], []⟩) (fun r s' => r = .ok (.ret (.bool true)) ∧ OldK s₁.heap s'.heap ∧ s'.os = s₁.os ∧ AllBare s'.gens) s₁ := by
    intro H hO hS hok hA
    have none_of : ∀ b : Addr, (b = a → K.lookup a ≠ none) → H b = none := fun b hb => by
      cases q : H b with
      | none => rfl
      | some u =>
        obtain ⟨e1, e2⟩ := hA b u q
        exact absurd e2 (hb e1)
    have ns_of : ∀ {b : Addr} {m : Str → Option Value}, s₁.heap.Ns b m → (hidT s₁.heap H).Ns b m := fun {b m} hm => by
      obtain ⟨o, es, ep, e, d, r⟩ := hm
      refine ⟨o, es, ep, hidT_get e ?_, d, r⟩
      cases q : H b with
      | none => rfl
      | some u =>
        obtain ⟨e1, _⟩ := hA b u q
        rw [e1, ha] at e
        cases e
        exact absurd d (by intro z; cases z)
    have kb : K.In (hidT s₁.heap H) := fun b o e => hidT_get (kin b o e) (none_of b fun e1 z => by
      rw [e1, z] at e
      cases e)
    have hM : Mod K mg (hidT s₁.heap H) := ⟨kb, ns_of hns, ⟨mb, ns_of hb, hbb⟩, hlim.elim fun mc h => ⟨mc, ns_of h.1, h.2⟩⟩
    have e0 : Env0 P w K mg (hidT s₁.heap H) callerA [] s₁ H := ⟨rfl, hM, fun _ _ e => of_hidT e, by rw [hidT_size] <;> exact Nat.le_refl _, trivial, fun _ hb => (nomatch hb), hok, .of_eq hg⟩
    refine codeAny_mono ((F _ kb (ns_of hns)).go rfl hr e0 (us := [.ref a]) (hbind s₁ (.ref a)) (vs := [.ref a]) (.cons rfl .nil) (hsp H hO hS)) fun r s' h => ?_
    match r, h with
    | .ok (.ret u), h =>
      obtain ⟨v, H', os, bare, un, hok', r', q⟩ := h
      cases (show v = .bl true from q)
      cases (show u = Value.bool true from r')
      refine ⟨rfl, OldK.of_keep fun b o e => ?_, os, bare⟩
      rcases hO b with z | ⟨ob, xs, z⟩
      · exact un.keep b o e z (fun y => (nomatch y)) (fun y => (nomatch y))
      · obtain ⟨e1, _⟩ := hok b _ z
        obtain ⟨e2, _⟩ := hok' b _ (un.frzs b ob _ z)
        rw [e] at e1
        cases e1
        exact e2
    | .error e, h => exact False.elim h
    | .ok .next, h => exact False.elim h
    | .ok .brk, h => exact False.elim h
    | .ok .cont, h => exact False.elim h
  cases hk : K.lookup a with
  | some o =>
    have e := kin a o hk
    rw [ha] at e
    cases e
    refine run (fun _ => none) (fun _ => .inl rfl) (.inr ⟨_, vs.toArray, _, hk, rfl, rfl, rfl, ?_, by simpa using rv⟩) (fun b u z => (nomatch z)) (fun b u z => (nomatch z))
    rw [List.size_toArray, hi.length]
    exact hl
  | none =>
    have at_a : ∀ b u, (if b = a then some (HO.frz { cls := .type "list", data := .seq vs.toArray } (.lst (ns.map V.int))) else none) = some u → b = a ∧ u = HO.frz { cls := .type "list", data := .seq vs.toArray } (.lst (ns.map V.int)) := fun b u z => by
      by_cases hb : b = a
      · rw [if_pos hb] at z
        exact ⟨hb, (Option.some.inj z).symm⟩
      · rw [if_neg hb] at z
        cases z
    refine run (fun b => if b = a then some (.frz { cls := .type "list", data := .seq vs.toArray } (.lst (ns.map V.int))) else none) (fun b => ?_) (.inl (.inr ⟨_, if_pos rfl⟩)) (fun b u z => ?_) fun b u z => ⟨(at_a b u z).1, hk⟩
    · by_cases hb : b = a
      · exact .inr ⟨_, _, if_pos hb⟩
      · exact .inl (if_neg hb)
    · obtain ⟨e1, e2⟩ := at_a b u z
      subst e1
      subst e2
      exact ⟨ha, by rw [List.length_map]; exact hl, vs, _, rv, ha⟩
theorem walk_g {l : PySem.W.OpenLaw} {n k : Nat} {q : Program} {loose : List Str} {XP : (Str → Option Value) → Heap → Prop} {YP : World → Heap → Prop} {d : DefRec} {K : Params → PySem.W.Frag} {sp : World → Sp} {x : Str}
    (hn : l.most = some n) (hn2 : n ≤ sizeLine) (hdf : d.params.defaults = []) (hr : Room k callerA) (hY : ∀ (w : World) (h : Heap), YP w h → (K w.params).In h)
    (F : ∀ (w : World) (mg : Str → Option Value) (fa : Addr) (h : Heap), (K w.params).In h → h.Ns mainGlobals mg → mg d.name = some (.ref fa) →
      ∃ fd : FuncData, (∀ (s : Shared) (u : Value), BindsTo s fd ⟨[u], []⟩ [(x, u)]) ∧ ∀ base : Heap, (K w.params).In base → base.Ns mainGlobals mg → FnG l.prog w (K w.params) mg base k fa fd [x] (sp w))
    (hsp : ∀ (w : World) (H : Hp) (a : Addr) (ns : List Int), ns.length ≤ n → Only H → SqL (K w.params) H a (ns.map V.int) → sp w [.ref a] H (fun v _ => v = .bl true) fun _ _ _ => False) :
    PySem.W.WalkO q loose XP YP l.row.toRowW d [] (fun f vs => PySem.call f vs) := by
  refine Att.attach_call hn hdf fun w s₀ s₁ mg mb fa o pm cd doc a vs ns G Y ho hd hcd hmg hobj hints hlen hg => ?_
  obtain ⟨fd, h1, h2⟩ := F w mg fa _ (hY w _ Y) G.T.g hmg
  exact law_g (hY w _ Y) G.T.g G.T.b G.T.builtins G.T.nolimit hg hobj hints (Nat.le_trans hlen hn2) hr h2 h1 fun H hO hS => hsp w H a ns hlen hO hS
end Tl
end S_Ru
section S_Su
namespace Tl
open PySem PySem.Spec PyProof.Rows L2
/-! ### a method of a class that begins with super().__init__(..) -/
/-- names of such a def: locals first, no cell, the class's own cell free -/
structure SuScope (N P : List Str) (sc : Scope) : Prop where
  kind : sc.kind = .function
  co : sc.isCoroutine = false
  gen : sc.isGenerator = false
  nd : N.Nodup
  pre : N.take P.length = P
  par : ∀ x ∈ P, sc.names.lookup x = some .local
  nocell : ∀ y ∈ sc.names, y.2 ≠ .cell
  free : ∀ y ∈ sc.names, y.2 = .free → y.1 = "__class__"
  cls : sc.names.lookup ("__class__" : Str) = some .free
  sup : sc.names.lookup ("super" : Str) = some .globalImplicit
/-- the context of such a def's body -/
def suCx (P : Program) (w : World) (K : PySem.W.Frag) (mg : Str → Option Value) (base : Heap) (N : List Str) (qual : Str) (scope : Scope) (f : Addr) (cd : Value) (cc : Addr) (A : Around) (outer : List Env) (s : Shared) (H : Hp) (E : XK) : Cx where
  prog := P
  w := w
  K := K
  mg := mg
  base := base
  A := A.deeper (PySem.W.ksEnv qual scope s.heap.objs.size f cd cc)
  N := N
  s_0 := s
  H_0 := H
  env := PySem.W.ksEnv qual scope s.heap.objs.size f cd cc
  outer := outer
  stack := PySem.W.ksEnv qual scope s.heap.objs.size f cd cc :: outer
  ex := []
  calm := true
  fn := fun _ => false
  pn := []
  xe := fun _ _ => False
theorem lookup_rev {ps : List Str} {us : List Value} (nd : ps.Nodup) {i : Nat} {y : Str} {u : Value} (h1 : ps[i]? = some y) (h2 : us[i]? = some u) : (ps.zip us).reverse.lookup y = some u := by
  have hm : (y, u) ∈ (ps.zip us).reverse := by
    rw [List.mem_reverse]
    refine List.mem_of_getElem? (i := i) ?_
    rw [List.getElem?_zip_eq_some]
    exact ⟨h1, h2⟩
  have key : ∀ (l : List (Str × Value)), (l.map (·.1)).Nodup → (y, u) ∈ l → l.lookup y = some u := by
    intro l
    induction l with
    | nil => intro _ h; cases h
    | cons p r ih =>
      intro hn h
      rw [List.map_cons, List.nodup_cons] at hn
      rcases List.mem_cons.mp h with e | e
      · rw [← e, List.lookup_cons, beq_self_eq_true]
      · have hne : y ≠ p.1 := fun z => hn.1 (z ▸ List.mem_map_of_mem (f := (·.1)) e)
        rw [List.lookup_cons, beq_eq_false_iff_ne.mpr hne]
        exact ih hn.2 e
  refine key _ ?_ hm
  rw [List.map_reverse]
  refine List.pairwise_reverse.mpr (List.Pairwise.imp (fun h => Ne.symm h) ?_)
  refine (nd.sublist ?_)
  clear hm key h1 h2 nd
  induction ps generalizing us with
  | nil => exact List.Sublist.refl _
  | cons p r ih =>
    cases us with
    | nil => exact List.nil_sublist _
    | cons v t => exact (ih (us := t)).cons₂ p
theorem su_start {P : Program} {w : World} {K : PySem.W.Frag} {mg : Str → Option Value} {base : Heap} {N ps : List Str} {qual : Str} {scope : Scope} {f cc D : Addr} {cd cl : Value} {cld : Option Addr} {csl : Array (Option Value)} {A : Around} {outer : List Env} {s : Shared} {h₁ : Heap} {tk : Nat} {H : Hp} {E : XK} {us : List Value} {vs : List V}
    (S : SuScope N ps scope) (hcell : K.lookup cc = some ⟨cl, cld, .cell (some (.ref D)), csl⟩) (hd : A.handled = none) (e0 : Env0 P w K mg base A outer s H) (hl : vs.length = ps.length) (r : Vals vs us)
    (hns : h₁.Ns s.heap.objs.size fun x => (ps.zip us).reverse.lookup x) (kp : ∀ b o, s.heap.get? b = some o → h₁.get? b = some o) :
    Inv (suCx P w K mg base N qual scope f cd cc A outer s H E) [] (L2.start N vs) H { s with heap := h₁, toks := tk } := by
  have hpl : ps.length ≤ N.length := by
    have := congrArg List.length S.pre
    rw [List.length_take] at this
    omega
  have hcc : base.get? cc = some ⟨cl, cld, .cell (some (.ref D)), csl⟩ := e0.mod.kin _ _ hcell
  have one : ∀ {y : Str} {c : Addr}, ([("__class__", cc)] : List (Str × Addr)).lookup y = some c → y = "__class__" ∧ c = cc := fun {y c} h => by
    rw [List.lookup_cons] at h
    split at h
    · rename_i e
      exact ⟨beq_iff_eq.mp e, (Option.some.inj h).symm⟩
    · cases h
  have noA : ∀ b : Addr, b ∉ (suCx P w K mg base N qual scope f cd cc A outer s H E).ex := fun b z => (nomatch (show b ∈ ([] : List Addr) from z))
  refine ⟨⟨e0.mod, S.kind, rfl, rfl, Nat.le_refl _, fun y z c h1 h2 => ?_, fun y hy => ?_, fun y c h => ?_, fun _ => hd, Around.frames_deeper e0.frames, .inr ⟨rfl, rfl⟩, fun b z => absurd z (noA b), e0.bs, e0.bsz, fun b _ _ => noA b, fun b z => absurd z (noA b), e0.funs, e0.frf⟩,
    rfl, e0.bare, Un.kept kp, ⟨_, hns, fun i y v h1 h2 h3 => ?_⟩, fun y c h => ?_, e0.hok.fresh (Nat.le_refl _), fun y c h => ?_, fun p hp => (nomatch (show p ∈ ([] : List (Addr × Obj)) from hp)), e0.hok.kept kp, ?_⟩
  · exact (one h1).1.trans (one h2).1.symm
  · have hy : scope.names.lookup y = some .cell ∨ scope.names.lookup y = some .free := hy
    rcases hy with hy | hy
    · exact absurd rfl (S.nocell _ (PySem.mem_of_lookup hy))
    · have e := S.free _ (PySem.mem_of_lookup hy) rfl
      have e : y = "__class__" := e
      subst e
      exact ⟨cc, rfl⟩
  · cases (show false = true from h)
  · have hi : i < vs.length := by
      apply Classical.byContradiction
      intro hi
      unfold L2.start at h2
      rw [List.getElem?_append_right (by simpa using hi), List.getElem?_replicate] at h2
      split at h2 <;> cases h2
    have ha : vs[i]? = some v := by
      unfold L2.start at h2
      rw [List.getElem?_append_left (by simpa using hi), List.getElem?_map] at h2
      cases e : vs[i]? with
      | none => rw [e] at h2; cases h2
      | some a => rw [e] at h2; cases h2; rfl
    obtain ⟨u, hu, rv⟩ := r.get ha
    have hp : ps[i]? = some y := by
      rw [← S.pre, List.getElem?_take_of_lt (by omega)]
      exact h1
    have ndP : ps.Nodup := by
      rw [← S.pre]
      exact S.nd.sublist (List.take_sublist _ _)
    exact ⟨u, rv, .inl ⟨S.par y (List.mem_of_getElem? hp), lookup_rev ndP hp hu⟩⟩
  · obtain ⟨_, e2⟩ := one h
    subst e2
    exact ⟨_, _, kp _ _ (e0.bs _ _ hcc).1, rfl⟩
  · obtain ⟨_, e2⟩ := one h
    subst e2
    exact (e0.bs _ _ hcc).2
  · unfold L2.start
    show _ = N.length
    rw [List.length_append, List.length_map, List.length_replicate]
    omega
/-- what is told of the class D's def: its own cell, its code's file, the class and the next def above it -/
structure SuFacts (P : Program) (K : PySem.W.Frag) (f f2 D C cc cda : Addr) (fd : FuncData) (self : Str) : Prop where
  look : ∃ (oc : Value) (od : Option Addr) (osl : Array (Option Value)), K.lookup f = some ⟨oc, od, .func fd, osl⟩
  head : ∃ ar, (fd.params.posonlyargs ++ fd.params.args).head? = some ar ∧ ar.arg = self
  code : ∃ (ccl : Value) (cdd : Option Addr) (vs : Array Value) (ccs : Array (Option Value)) (file : Str) (tf : Tok), K.lookup cda = some ⟨ccl, cdd, .fields vs, ccs⟩ ∧ vs[2]? = some (.str file tf) ∧ ((P.main.file : Str) == file) = true
  cell : ∃ (cl : Value) (cld : Option Addr) (csl : Array (Option Value)), K.lookup cc = some ⟨cl, cld, .cell (some (.ref D)), csl⟩
  clsD : ∃ cd, PySem.W.clsIn K D = some cd
  sub : PySem.W.mroIn K C (.ref D) = some true
  opq : PySem.W.nsIn K cStatics "thirdparty.any" = some none
  above : PySem.W.ks_superIn K C D "__init__" = some (some (.ref f2))
  ty : PySem.W.typeIn K (.ref f2) = some (.type "function")
  fi : PySem.W.fnIn K f2 = true
  top : (P.main.scope.names.lookup ("super" : Str)).isSome = false
  notC : PySem.W.clsIn K C ≠ none
section
variable {P : Program} {w : World} {K : PySem.W.Frag} {mg : Str → Option Value} {base : Heap}
/-- its promise: first what stands in the arguments, then the def above, then the rest of the body -/
theorem fn_super {f f2 D C cc cda : Addr} {name qual : Str} {params : Arguments} {scope : Scope} {dV kV doc pm ct : Value} {an : Option Addr} {N ps : List Str} {self : Str} {k : Nat} {sp sp2 : Sp} {e1 : Expr} {es : List Expr} {rest : List Stmt} {p0 p1 apos pos spos : Pos}
    (B : SuFacts P K f f2 D C cc cda (PySem.W.ksFn name qual params (.Expr (.Call (.Attribute (.Call (.Name "super" p0) [] [] p1) "__init__" apos) (e1 :: es) [] pos) spos :: rest) scope dV kV doc pm an (.ref cda) ct cc) self)
    (hcd : PySem.W.codeIn K (.ref cda) qual = true) (S : SuScope N ps scope) (h0 : ps[0]? = some self) (ms : mg "super" = none)
    (F2 : FnR P w K mg base CX0 k f2 sp2) (len : ∀ {vs H Q E}, sp vs H Q E → vs.length = ps.length)
    (hbody : ∀ (A : Around) (outer : List Env) (s : Shared) (H : Hp) (vs : List V) (Q : VK) (E : XK), Room k (A.deeper (PySem.W.ksEnv qual scope s.heap.objs.size f (.ref cda) cc)) → sp vs H Q E →
      ∃ ta t x dx fs, PA (suCx P w K mg base N qual scope f (.ref cda) cc A outer s H E) (e1 :: es) ta ∧ PSs (suCx P w K mg base N qual scope f (.ref cda) cc A outer s H E) rest t ∧ vs[0]? = some (.ref x) ∧ H x = some (.ins C dx fs) ∧
        ∀ q, H q = none → ta (L2.start N vs) (upd H q (.met f2 x)) fun us H1 => H1 q = some (.met f2 x) ∧ sp2 (.ref x :: us) H1 (fun _ H2 => t { nx := fun _ H' => Q .non H', rt := Q } (L2.start N vs) H2) E0)
    {pl : Sem Bool} (hev : ∀ env : Env, eval (.Call (.Attribute (.Call (.Name "super" p0) [] [] p1) "__init__" apos) (e1 :: es) [] pos) env = (do
      let ov ← attributeBase (.Call (.Name "super" p0) [] [] p1) "__init__" env (eval (.Call (.Name "super" p0) [] [] p1) env)
      standAt apos.atName
      let (f, first) ← holding [ov] (getMethod ov "__init__" pl)
      callWith pos f first (backTo pos (starEach (e1 :: es) env)) []))
    (hsw : ∀ env : Env, swapsWith (.Call (.Attribute (.Call (.Name "super" p0) [] [] p1) "__init__" apos) (e1 :: es) [] pos) none spos.line env = pure false)
    (hst : ∀ env : Env, starEach (e1 :: es) env = (false, eval e1 env) :: starEach es env) (hpl : ∀ env : Env, ((backTo pos (starEach (e1 :: es) env)).any (·.1) || (backToKw pos (keywordEach [] env)).any (·.1.isNone)) = false) :
    FnOk P w K mg base CX0 (k + 1) f (PySem.W.ksFn name qual params (.Expr (.Call (.Attribute (.Call (.Name "super" p0) [] [] p1) "__init__" apos) (e1 :: es) [] pos) spos :: rest) scope dV kV doc pm an (.ref cda) ct cc) ps sp := by
  obtain ⟨⟨oc, od, osl, lk⟩, ⟨ar, har, hself⟩, ⟨ccl, cdd, cvs, ccs, file, tf, lkc, hvs, hfile⟩, ⟨cl, cld, csl, lkcell⟩, ⟨cdD, hclsD⟩, hsub, hopq, habove, hty, hfi, htop, hnotC⟩ := B
  refine ⟨fun _ _ _ _ h => len h, fun A outer s H args us vs Q E hr e0 hb r hsp => ?_⟩
  have kin : K.In s.heap := e0.mod.kin.keeps fun b o e => (e0.bs b o e).1
  have nl : s.heap.NoLimit := e0.mod.nolimit.keeps fun b o e => (e0.bs b o e).1
  have hl := len hsp
  refine ks_codeAny_call_defAt (fd := PySem.W.ksFn name qual params _ scope dV kV doc pm an (.ref cda) ct cc) (binds := ps.zip us) hr.depth (kin _ _ lk) rfl nl (PySem.W.codeRec_of kin hcd) rfl hb (fun y hy => S.nocell y hy) (fun y hy => S.par y.1 (List.of_mem_zip (a := y.1) (b := y.2) hy).1) (fun h₁ hns kp => ?_) S.co S.gen S.kind
  obtain ⟨ta, t, x, dx, fs, ha, ht, hx0, hx, hq⟩ := hbody A outer s H vs Q E (hr.deeper _) hsp
  have I : Inv (suCx P w K mg base N qual scope f (.ref cda) cc A outer s H E) [] (L2.start N vs) H { s with heap := h₁, toks := s.toks + (ps.zip us).length } := su_start S lkcell hr.hd e0 hl r hns kp
  have kin1 : K.In h₁ := I.kIn
  obtain ⟨oD, hD1, hD2⟩ : ∃ oD, h₁.get? D = some oD ∧ oD.data = .cls cdD := by
    unfold PySem.W.clsIn at hclsD
    split at hclsD
    · rename_i ho
      cases hclsD
      exact ⟨_, kin1 _ _ ho, rfl⟩
    · cases hclsD
  obtain ⟨mA, O, _⟩ := ins_get I.hok hx
  obtain ⟨u0, hu0, ru0⟩ := r.get hx0
  cases (show u0 = Value.ref x from ru0)
  have hsv : (ps.zip us).reverse.lookup ar.arg = some (.ref x) := by
    rw [hself]
    refine lookup_rev ?_ h0 hu0
    rw [← S.pre]
    exact S.nd.sublist (List.take_sublist _ _)
  have hsl : scope.names.lookup ar.arg = some .local := by
    rw [hself]
    exact S.par _ (List.mem_of_getElem? h0)
  have hxC : x ≠ C := by
    intro e
    cases hcl : PySem.W.clsIn K C with
    | none => exact hnotC hcl
    | some cdC =>
      unfold PySem.W.clsIn at hcl
      split at hcl
      · rename_i ho
        have e2 := kin1 _ _ ho
        rw [← e, O.obj] at e2
        cases e2
      · cases hcl
  obtain ⟨mb, hnb, hbb⟩ := I.ok.mod.blt
  refine ks_wpAt_execs_cons (ks_wpAt_Expr_any (ks_wpAt_MethodCall (pl := pl) (ks_wpAt_super_base (env := PySem.W.ksEnv qual scope s.heap.objs.size f (.ref cda) cc) S.sup S.cls (by decide) rfl (kin1 _ _ lk) rfl har rfl (kin1 _ _ lkc) rfl hvs hfile htop ?_) (hev _)) I.quiet (hsw _))
  refine PySem.W.ks_loadName_global S.kind S.sup (PySem.Calls.loadGlobal_builtin (env := PySem.W.ksEnv qual scope s.heap.objs.size f (.ref cda) cc) (I.ok.mod.glob.keeps I.bk) ms (hnb.keeps I.bk) ((hbb _ (by decide +kernel)).trans (by decide +kernel)) ⟨rfl, ?_⟩)
  refine wpAny_loadName_free S.kind S.cls rfl ⟨_, kin1 _ _ lkcell, rfl⟩ ?_
  refine wpAny_loadName_local S.kind hsl hns hsv ?_
  refine ks_wpAny_isType_cls hD1 hD2 ⟨rfl, ?_⟩
  refine ks_wpAny_call_super hD1 hD2 O.obj rfl (fun c e => by cases e) (PySem.W.looks_mroIn kin1 hsub) (fun h2 e2 k2 => ?_)
  have I2 := I.kept (t' := s.toks + (ps.zip us).length) k2
  have kin2 : K.In h2 := I2.kIn
  obtain ⟨of, hof, hofc⟩ : ∃ of, h2.get? f2 = some of ∧ of.cls = .type "function" := by
    have ht' : (K.lookup f2).map (·.cls) = some (.type "function") := hty
    cases z : K.lookup f2 with
    | none => rw [z] at ht'; cases ht'
    | some of => rw [z] at ht'; exact ⟨of, kin2 _ _ z, Option.some.inj ht'⟩
  cases hcl : PySem.W.clsIn K C with
  | none => exact absurd hcl hnotC
  | some cdC =>
    unfold PySem.W.ks_superIn at habove
    rw [hcl] at habove
    refine ks_wpAny_getMethod_super e2 (PySem.W.looks_opaque kin2 hopq) (l₀ := cdC.mro) (fun A Q E s k q => wpAny_bind ((PySem.W.looks_clsIn kin2 hcl) A _ E s k (wpAny_pure q))) rfl kin2 habove hof hofc hxC (by decide) ?_
    have hfree : H h2.objs.size = none := I2.hok.fresh (Nat.le_refl _)
    have I3 := I2.laid (a := h2.objs.size) (o := .met f2 x) (h' := h2.push { cls := .type "method", data := .fields #[.ref f2, .ref x] }) (t' := s.toks + (ps.zip us).length + 1) (fun b u e => Heap.get?_push_of_some _ e) (Nat.le_refl _) (Heap.get?_push_size _ rfl)
    have hx3 := hq _ hfree
    refine callwith_met (X := suCx P w K mg base N qual scope f (.ref cda) cc A outer s H E) (a := x) (hpl _) hfi ?_
    rw [hst]
    refine Calls.evalArgs_plain ?_
    have hrun := ha.run pos [] _ (L2.start N vs) _ _ I3 hx3
    rw [hst] at hrun
    refine wpAny_mono hrun (fun us4 s4 h4 => ?_) fun _ _ z => z.elim
    obtain ⟨vs4, H4, I4, rv4, hm4, hsp4⟩ := h4
    have hr4 : Room k (suCx P w K mg base N qual scope f (.ref cda) cc A outer s H E).A := hr.deeper _
    refine ⟨met_P I4 hm4, wpAny_call (PySem.W.method_call (met_P I4 hm4).1 (codeAny_mono (run_fnR (X := suCx P w K mg base N qual scope f (.ref cda) cc A outer s H E) (vs := V.ref x :: vs4) (us := Value.ref x :: us4) F2 hr4 pass0 I4 (.cons rfl rv4) hsp4) fun r5 s5 h5 => ?_))⟩
    match r5, h5 with
    | .ok (.ret u), h5 =>
      obtain ⟨v5, H5, I5, _, q5⟩ := h5
      refine wpAt_of_wpAny (wpAny_mono (ht.run [] s5 _ H5 _ I5 q5) (fun fl s' hs => ?_) fun _ _ z => z.elim)
      cases fl with
      | ret u =>
        obtain ⟨v, σ', H', J, rv, q⟩ := hs
        exact ⟨v, H', J.os, J.bare, J.base, J.hok, rv, q⟩
      | next =>
        obtain ⟨σ', H', J, q⟩ := hs
        exact ⟨.non, H', J.os, J.bare, J.base, J.hok, rfl, q⟩
      | brk => exact hs.elim fun _ h => h.elim fun _ h => h.2.elim
      | cont => exact hs.elim fun _ h => h.elim fun _ h => h.2.elim
    | .error e, h5 => exact False.elim h5
    | .ok .next, h5 => exact False.elim h5
    | .ok .brk, h5 => exact False.elim h5
    | .ok .cont, h5 => exact False.elim h5
end
end Tl
end S_Su
section S_Bo
namespace Tl
open PySem PySem.Spec PyProof.Rows L2
theorem plain_bool_new : plainId "bool.__new__" = true := by decide +kernel
section
variable {P : Program} {w : World} {A : Around} {E : Value → Shared → Prop} {s : Shared}
theorem code_bool_new {v : Value} {Q₁ : Value → Shared → Prop} (h : wpAny (model P w) A.in1 (truthy v) (fun b s' => Q₁ (.bool b) s') E s) :
    codeAny (model P w) A (.call (.builtin "bool.__new__") ⟨[.type "bool", v], []⟩) (wants Q₁ E) s := by
  refine codeAny_of_tree ?_
  show wpAny _ A.in1 (do checkBuiltinCall "bool.__new__" ⟨[.type "bool", v], []⟩; again (.builtin "bool.__new__" ⟨[.type "bool", v], []⟩)) _ _ s
  refine wpAny_bind (wpAny_of_eq (F.newCall_bool_1 v) (wpAny_pure ⟨plainId_quiet plain_bool_new _, codeAny_builtin F.entry_bool_new ?_⟩))
  rw [Around.under_plainId plain_bool_new _]
  unfold Builtin.«bool.__new__»
  have f1 := F.conv_sub_bool
  obtain ⟨hp, g, d, tk, os⟩ := s
  wp_walk
  show wpAny (model P w) A.in1 (truthy v) _ _ _
  exact wpAny_mono h (fun b s' hb => wpAny_pure hb) fun _ _ e => e
/-- bool(v), by what truth gives -/
theorem call_bool_by {v : Value} {Q : Value → Shared → Prop} (h : wpAny (model P w) A.in1.in1 (truthy v) (fun b s' => Q (.bool b) s') E s) : wpAny (model P w) A (call (.type "bool") [v]) Q E s := by
  refine callType_codes (Q₁ := fun obj s₁ => (∃ b, obj = .bool b) ∧ Q obj s₁) F.called_bool (F.typeCall_bool_1 v) F.entry_object_init (code_bool_new (wpAny_mono h (fun b s' hb => ⟨⟨b, rfl⟩, hb⟩) fun _ _ e => e)) fun obj s₁ hq => ?_
  obtain ⟨⟨b, rfl⟩, hq⟩ := hq
  exact ⟨PySem.typeIs_bool _ _, F.args_object_init_2 _ v, object_init_meets F.called_bool.init.lookup F.called_bool.made F.newNe_bool P w A.in1 _ s₁ ⟨PySem.typeIs_bool _ _, rfl, hq⟩⟩
end
/-- bool(o) of an instance whose class has its own __bool__ at f -/
theorem call_boolO {X : Cx} {CX : CXT} {k : Nat} {C f : Addr} {fd : FuncData} {ps : List Str} {sp : Sp} {E : XK} (F : FnOk X.prog X.w X.K X.mg X.base CX k f fd ps sp) (hr : Room (k + 2) X.A) (hb : Binds X.K fd ps []) (hx : Passes CX X E)
    (hs : PySem.W.findIn X.K (.ref C) "__bool__" = some (some (.ref f))) (hf : PySem.W.isFn X.K (.ref f) = true) :
    CallR X (.type "bool") (fun xs H Q => ∃ a dx fs, xs = [.ref a] ∧ H a = some (.ins C dx fs) ∧ sp [.ref a] H (fun v H1 => ∃ b, v = .bl b ∧ Q (.bl b) H1) E) := by
  intro pins s σ H xs us Q I r h
  obtain ⟨a, dx, fs, rfl, ha, hsp⟩ := h
  obtain rfl := Vals.ref1 r
  obtain ⟨mA, O, _⟩ := ins_get I.hok ha
  obtain ⟨od, J, _⟩ := O.look
  obtain ⟨m, hF⟩ := I.fr
  refine call_bool_by (PySem.W.truthy_K hF I.ok.mod.kin J hs hf ?_)
  have hl := F.len _ _ _ _ hsp
  have r2 : Vals [V.ref a] [Value.ref a] := .cons rfl .nil
  refine wpAny_call (codeAny_mono (F.run X.A.in1.in1 X.stack s H ⟨[.ref a], []⟩ [.ref a] [.ref a] _ E hr.in1.in1 I.env0.in1.in1 (by
    have := hb s [.ref a] I.kIn (by simpa using hl)
    simpa using this) r2 hsp) fun r s' hq => ?_)
  match r, hq with
  | .error e, hq => exact hx pins σ H s e s' I hq
  | .ok (.ret u), hq =>
    obtain ⟨z, H', I', rz, b, ez, q⟩ := I.after hq
    subst ez
    cases rz
    exact ⟨.bl b, H', I', rfl, q⟩
  | .ok .next, hq => exact False.elim hq
  | .ok .brk, hq => exact False.elim hq
  | .ok .cont, hq => exact False.elim hq
end Tl
end S_Bo
section S_Zp
namespace Tl
open PySem PySem.Spec PyProof.Rows L2
/-! ### dict(zip(t, u)) of two tuples -/
/-- what one asks of an iterator at i: it gives v, from S to S'; it ends in S -/
abbrev Gives1 (P : Program) (w : World) (i : Addr) (v : Value) (S S' : Heap → Prop) : Prop := ∀ (A : Around) (E : Value → Shared → Prop) (s : Shared) (Q : Value → Shared → Prop), S s.heap →
  (∀ h', S' h' → Heap.SameBut i s.heap h' → Q v { s with heap := h' }) → wpAny (model P w) A (Builtin.SmallTypes.nextOf (.ref i)) Q E s
abbrev Ends1 (P : Program) (w : World) (i : Addr) (S : Heap → Prop) : Prop := ∀ (A : Around) (E : Value → Shared → Prop) (s : Shared) (Q : Value → Shared → Prop), A.handled = none → S s.heap →
  (∀ h' e, Heap.ExtBut i s.heap h' → (∃ o, h'.get? e = some o ∧ o.cls = .type "StopIteration") → E (.ref e) { s with heap := h' }) → wpAny (model P w) A (Builtin.SmallTypes.nextOf (.ref i)) Q E s
/-- it stays where one object alone changes -/
abbrev Off (b : Addr) (S : Heap → Prop) : Prop := ∀ h h', Heap.SameBut b h h' → S h → S h'
section
variable {P : Program} {w : World} {A : Around} {E : Value → Shared → Prop} {s : Shared}
theorem held_item {z TI TO T i1 i2 : Addr} {f : Bool} {oT : Obj} {x y : Value} {S1 S1' S2 S2' : Heap → Prop} {Q : Value → Shared → Prop} (hz : IsZipHeld s.heap z TI TO T f) (hT : s.heap.get? T = some oT) (hTI : IsPair s.heap TI (.ref i1) (.ref i2)) (z1 : i1 ≠ z) (z2 : i2 ≠ z)
    (n1 : Gives1 P w i1 x S1 S1') (n2 : Gives1 P w i2 y S2 S2') (s1 : S1 s.heap) (s2 : S2 s.heap) (o1 : Off z S1) (o2 : Off z S2) (o21 : Off i1 S2) (o12 : Off i2 S1')
    (hQ : ∀ h', IsZipHeld h' z TI TO T true → S1' h' → S2' h' → h'.objs.size = s.heap.objs.size → (∀ c o, c ≠ z → c ≠ i1 → c ≠ i2 → s.heap.get? c = some o → h'.get? c = some o) →
      Q (.ref h'.objs.size) { s with heap := h'.push { cls := .type "tuple", data := .seq #[x, y] } }) :
    wpAny (model P w) A (Builtin.«zip.__next__» ⟨[.ref z], []⟩) (fun fin s' => ∃ v, fin = .done (.ret v) ∧ Q v s') E s := by
  show wpAny _ _ (field (.ref z) 2 >>= _) _ _ _
  refine wpAny_bind (wpAny_field hz rfl (x := .bool false) rfl (show wpAny _ _ (field (.ref z) 3 >>= _) _ _ _ from wpAny_bind (wpAny_field hz rfl (x := .ref TI) rfl (wpAny_bind (wpAny_seqItems hTI rfl ?_)))))
  show wpAny _ _ (Builtin.SmallTypes.ownedTupleIsFree (.ref z) >>= _) _ _ _
  refine wpAny_bind (wpAny_tupleHeld_zip hz hT fun ha hza sa => ?_)
  simp only [Bool.false_eq_true, if_false]
  refine wpAny_bind ?_
  rw [← Array.forIn_toList]
  simp only [List.forIn_cons, List.forIn_nil]
  refine wpAny_bind (wpAny_bind (wpAny_holding (show wpAny _ _ (Builtin.SmallTypes.nextOf (.ref i1) >>= _) _ _ _ from wpAny_bind (n1 _ _ { s with heap := ha } _ (o1 _ _ sa s1) fun hb sb1 sb => wpAny_pure (wpAny_pure ?_)))))
  refine wpAny_bind (wpAny_bind (wpAny_holding (show wpAny _ _ (Builtin.SmallTypes.nextOf (.ref i2) >>= _) _ _ _ from wpAny_bind (n2 _ _ { s with heap := hb } _ (o21 _ _ sb (o2 _ _ sa s2)) fun hc sc2 sc => wpAny_pure (wpAny_pure (wpAny_pure ?_))))))
  refine (show wpAny _ _ (newTuple [x, y] >>= _) _ _ _ from wpAny_bind (wpAny_newTuple (wpAny_pure ⟨_, rfl, ?_⟩)))
  exact hQ hc (sc.extBut _ _ z2.symm (sb.extBut _ _ z1.symm hza)) (o12 _ _ sc sb1) sc2 (by rw [sc.1, sb.1, sa.1]) fun c o c1 c2 c3 e => sc.extBut _ _ c3 (sb.extBut _ _ c2 (sa.extBut _ _ c1 e))
/-- the first one ends -/
theorem held_end {z TI TO T i1 i2 : Addr} {f : Bool} {oT : Obj} {S1 : Heap → Prop} {Q : Fin → Shared → Prop} (hh : A.handled = none) (hz : IsZipHeld s.heap z TI TO T f) (hT : s.heap.get? T = some oT) (hTI : IsPair s.heap TI (.ref i1) (.ref i2))
    (n1 : Ends1 P w i1 S1) (s1 : S1 s.heap) (o1 : Off z S1) (hE : ∀ h' e, (∀ c o, c ≠ z → c ≠ i1 → s.heap.get? c = some o → h'.get? c = some o) → (∃ o, h'.get? e = some o ∧ o.cls = .type "StopIteration") → E (.ref e) { s with heap := h' }) :
    wpAny (model P w) A (Builtin.«zip.__next__» ⟨[.ref z], []⟩) Q E s := by
  show wpAny _ _ (field (.ref z) 2 >>= _) _ _ _
  refine wpAny_bind (wpAny_field hz rfl (x := .bool false) rfl (show wpAny _ _ (field (.ref z) 3 >>= _) _ _ _ from wpAny_bind (wpAny_field hz rfl (x := .ref TI) rfl (wpAny_bind (wpAny_seqItems hTI rfl ?_)))))
  show wpAny _ _ (Builtin.SmallTypes.ownedTupleIsFree (.ref z) >>= _) _ _ _
  refine wpAny_bind (wpAny_tupleHeld_zip hz hT fun ha hza sa => ?_)
  simp only [Bool.false_eq_true, if_false]
  refine wpAny_bind ?_
  rw [← Array.forIn_toList]
  simp only [List.forIn_cons, List.forIn_nil]
  refine wpAny_bind (wpAny_bind (wpAny_holding (show wpAny _ _ (Builtin.SmallTypes.nextOf (.ref i1) >>= _) _ _ _ from wpAny_bind (n1 _ _ { s with heap := ha } _ hh (o1 _ _ sa s1) fun hb e sb he => ?_))))
  exact hE hb e (fun c o c1 c2 q => sb _ _ c2 (sa.extBut _ _ c1 q)) he
theorem next_by {z : Addr} {Q : Option Value → Shared → Prop} (hTy : s.TypeIs (.ref z) "zip") (h : wpAny (model P w) A.in1 (Builtin.«zip.__next__» ⟨[.ref z], []⟩) (fun fin s' => ∃ v, fin = .done (.ret v) ∧ Q (some v) s') (fun e s' => (∃ a o, e = .ref a ∧ s'.heap.get? a = some o ∧ o.cls = .type "StopIteration") ∧ Q none s') s) :
    wpAny (model P w) A (pyNext (.ref z)) Q E s := by
  unfold pyNext
  refine wpAny_bind (wpAny_attempt (wpAny_callSpecial?_slot (name := Str.ofString "__next__") hTy F.slot_zip_next (wpAny_call_entry F.slot_zip_next hTy F.entry_zip_next (wpAny_mono h (fun fin s' hf => ?_) fun e s' he => ?_) (F.args_zip_next_1 _))))
  · obtain ⟨v, rfl, hq⟩ := hf
    exact ⟨v, rfl, wpAny_pure hq⟩
  · obtain ⟨⟨a, o, rfl, ho, hc⟩, hq⟩ := he
    exact wpAny_bind (wpAny_isInstance (T := "StopIteration") (b := true) ⟨o, ho, hc⟩ isSubtype_stop (wpAny_pure hq))
end
/-- such an iterator of a tuple -/
abbrev TI1 (i l : Addr) (xs : Array Value) (k : Nat) (h : Heap) : Prop := h.IsTupleIter i l k ∧ h.IsTuple l xs
theorem ti_gives {P : Program} {w : World} {i l : Addr} {xs : Array Value} {k : Nat} {v : Value} (hne : l ≠ i) (hv : xs[k]? = some v) : Gives1 P w i v (TI1 i l xs k) (TI1 i l xs (k + 1)) := fun A E s Q hs hq =>
  RZ.nextOf_tuple_item hs.1 hs.2 hv fun h' a b => hq h' ⟨a, hs.2.extBut b.extBut hne⟩ b
theorem ti_ends {P : Program} {w : World} {i l : Addr} {xs : Array Value} {k : Nat} (hv : xs[k]? = none) : Ends1 P w i (TI1 i l xs k) := fun A E s Q hh hs hq => RZ.nextOf_tuple_end hh hs.1 hs.2 hv hq
theorem ti_off {b i l : Addr} {xs : Array Value} {k : Nat} (h1 : i ≠ b) (h2 : l ≠ b) : Off b (TI1 i l xs k) := fun h h' sb hs => ⟨hs.1.extBut sb.extBut h1, hs.2.extBut sb.extBut h2⟩
theorem ti_at {i l : Addr} {xs : Array Value} {k : Nat} {h h' : Heap} (hs : TI1 i l xs k h) (h1 : ∀ o, h.get? i = some o → h'.get? i = some o) (h2 : ∀ o, h.get? l = some o → h'.get? l = some o) : TI1 i l xs k h' := ⟨hs.1.at h1, hs.2.at h2⟩
/-- what stands where the zip of two tuples was made -/
def ZOk (z TI TO i1 i2 l1 l2 : Addr) (xs ys : Array Value) (h : Heap) : Prop := IsZip h z TI TO .none ∧ IsPair h TI (.ref i1) (.ref i2) ∧ (∃ a b, IsPair h TO a b) ∧ TI1 i1 l1 xs 0 h ∧ TI1 i2 l2 ys 0 h
/-- what stands at turn k, while a dict is filled at d -/
def ZSt (z TI TO i1 i2 l1 l2 : Addr) (xs ys : Array Value) (d : Addr) (k : Nat) (h : Heap) : Prop := IsPair h TI (.ref i1) (.ref i2) ∧ TI1 i1 l1 xs k h ∧ TI1 i2 l2 ys k h ∧
  ((IsZip h z TI TO .none ∧ ∃ a b, IsPair h TO a b) ∨ ∃ T f oT, IsZipHeld h z TI TO T f ∧ h.get? T = some oT ∧ T ≠ z ∧ T ≠ i1 ∧ T ≠ i2 ∧ T ≠ d)
theorem pair_arg_zip {P : Program} {w : World} {z TI TO i1 i2 l1 l2 : Addr} (D : ZipApart z TI TO i1 i2 l1 l2) {xs ys : Array Value} (hsz : ys.size = xs.size) :
    PairArg P w "zip" z [z, TI, TO, i1, i2, l1, l2] [z, TO, i1, i2] xs.size (fun i k v => xs[i]? = some k ∧ ys[i]? = some v) (ZOk z TI TO i1 i2 l1 l2 xs ys) := by
  refine { type := fun s ok => ⟨_, ok.1, rfl⟩, notDict := by decide, keep := fun h h' ok hk => ?_, there := fun h ok b hb => ?_, sub := fun b hb => ?_, noKeys := fun A s Q E hA ok h => getAttrOr_miss_zip ok.1 rfl rfl rfl zip_no_keys (by decide +kernel) hA h, iter := fun A s d Q E hA ok hd hdf h => ?_ }
  · obtain ⟨a1, a2, ⟨x, y, a3⟩, a4, a5⟩ := ok
    exact ⟨hk _ _ a1, hk _ _ a2, ⟨x, y, hk _ _ a3⟩, ti_at a4 (fun o => hk _ o) (fun o => hk _ o), ti_at a5 (fun o => hk _ o) fun o => hk _ o⟩
  · obtain ⟨a1, a2, ⟨x, y, a3⟩, ⟨⟨o1, b1, _⟩, ⟨o2, b2, _⟩⟩, ⟨⟨o3, b3, _⟩, ⟨o4, b4, _⟩⟩⟩ := ok
    simp only [List.mem_cons, List.not_mem_nil, or_false] at hb
    rcases hb with e | e | e | e | e | e | e <;> subst e <;> first | exact ⟨_, a1⟩ | exact ⟨_, a2⟩ | exact ⟨_, a3⟩ | exact ⟨_, b1⟩ | exact ⟨_, b2⟩ | exact ⟨_, b3⟩ | exact ⟨_, b4⟩
  · simp only [List.mem_cons, List.not_mem_nil, or_false] at hb ⊢
    rcases hb with e | e | e | e <;> simp [e]
  · obtain ⟨a1, a2, a3, a4, a5⟩ := ok
    simp only [List.mem_cons, List.not_mem_nil, or_false, not_or] at hdf
    obtain ⟨dz, dTI, dTO, di1, di2, dl1, dl2⟩ := hdf
    refine wpAny_pyIter_zip a1 (h z [z, TO, i1, i2] (ZSt z TI TO i1 i2 l1 l2 xs ys d) s.heap s.toks ?_ ⟨a2, a4, a5, .inl ⟨a1, a3⟩⟩ (fun _ _ e => e) fun b hb => .inl hb)
    refine { off := fun hm => ?_, frame := fun i g g' st hk => ?_, item := fun i s1 Q1 E1 hi st hds hQ => ?_, done := fun s1 Q1 E1 st hQ => ?_ }
    · simp only [List.mem_cons, List.not_mem_nil, or_false] at hm
      rcases hm with e | e | e | e
      · exact dz e
      · exact dTO e
      · exact di1 e
      · exact di2 e
    · obtain ⟨b1, b2, b3, b4⟩ := st
      refine ⟨hk _ _ (Ne.symm dTI) b1, ti_at b2 (fun o => hk _ o (Ne.symm di1)) (fun o => hk _ o (Ne.symm dl1)), ti_at b3 (fun o => hk _ o (Ne.symm di2)) (fun o => hk _ o (Ne.symm dl2)), ?_⟩
      rcases b4 with ⟨c1, x, y, c2⟩ | ⟨T, f, oT, c1, c2, c3, c4, c5, c6⟩
      · exact .inl ⟨hk _ _ (Ne.symm dz) c1, x, y, hk _ _ (Ne.symm dTO) c2⟩
      · exact .inr ⟨T, f, oT, hk _ _ (Ne.symm dz) c1, hk _ _ c6 c2, c3, c4, c5, c6⟩
    · obtain ⟨b1, b2, b3, b4⟩ := st
      have ex := Array.getElem?_eq_getElem (xs := xs) hi
      have ey := Array.getElem?_eq_getElem (xs := ys) (i := i) (by omega)
      have lt : ∀ {c : Addr} {o : Obj}, s1.heap.get? c = some o → s1.heap.objs.size ≠ c := fun e => Nat.ne_of_gt (Heap.lt_size e)
      have m1 : s1.heap.objs.size ≠ i1 := b2.1.elim fun _ e => lt e.1
      have m2 : s1.heap.objs.size ≠ i2 := b3.1.elim fun _ e => lt e.1
      rcases b4 with ⟨c1, x, y, c2⟩ | ⟨T, f, oT, c1, c2, c3, c4, c5, c6⟩
      · refine RZ.pyNext_zipT_item D c1 b1 c2 b2.1 b3.1 b2.2 b3.2 ex ey fun g' e1 e2 e3 e4 e5 _ hk => ?_
        refine hQ s1.heap.objs.size _ _ g' s1.toks ⟨ex, ey⟩ (.inl ⟨_, e5, rfl, _, rfl⟩) ⟨hk _ _ D.TIz D.TITO D.TIi1 D.TIi2 b1, ⟨e3, b2.2.at fun o => hk _ o D.l1z D.l1TO D.l1i1 D.l1i2⟩, ⟨e4, b3.2.at fun o => hk _ o D.l2z D.l2TO D.l2i1 D.l2i2⟩, .inr ⟨s1.heap.objs.size, false, _, e1, e5, lt c1, m1, m2, Nat.ne_of_gt hds⟩⟩ fun c o hc e => ?_
        simp only [List.mem_cons, List.not_mem_nil, or_false, not_or] at hc
        exact hk c o hc.1 hc.2.1 hc.2.2.1 hc.2.2.2 e
      · refine next_by ⟨_, c1, rfl⟩ (wpAny_mono (held_item c1 c2 b1 D.i1z D.i2z (ti_gives D.l1i1 ex) (ti_gives D.l2i2 ey) b2 b3 (ti_off D.i1z D.l1z) (ti_off D.i2z D.l2z) (ti_off D.i12.symm D.l2i1) (ti_off D.i12 D.l1i2) fun g' e1 e2 e3 e4 hk => ?_) (fun _ _ q => q) fun _ _ q => q)
        have up : ∀ (c : Addr) (o : Obj), g'.get? c = some o → (g'.push { cls := .type "tuple", data := .seq #[xs[i], ys[i]] }).get? c = some o := fun c o e => Heap.get?_push_of_some _ e
        refine hQ g'.objs.size _ _ _ s1.toks ⟨ex, ey⟩ (.inl ⟨_, Heap.get?_push_size _ rfl, rfl, _, rfl⟩) ⟨up _ _ (hk _ _ D.TIz D.TIi1 D.TIi2 b1), ti_at e2 (up _) (up _), ti_at e3 (up _) (up _), .inr ⟨T, true, oT, up _ _ e1, up _ _ (hk _ _ c3 c4 c5 c2), c3, c4, c5, c6⟩⟩ fun c o hc e => ?_
        simp only [List.mem_cons, List.not_mem_nil, or_false, not_or] at hc
        exact up _ _ (hk c o hc.1 hc.2.2.1 hc.2.2.2 e)
    · obtain ⟨b1, b2, b3, b4⟩ := st
      have ex : xs[xs.size]? = none := Array.getElem?_eq_none (Nat.le_refl _)
      rcases b4 with ⟨c1, x, y, c2⟩ | ⟨T, f, oT, c1, c2, c3, c4, c5, c6⟩
      · refine RZ.pyNext_zipT_end hA D c1 b1 c2 b2.1 b3.1 b2.2 b3.2 (.inl ex) fun g' hk => hQ g' s1.toks fun c o hc e => ?_
        simp only [List.mem_cons, List.not_mem_nil, or_false, not_or] at hc
        exact hk c o hc.1 hc.2.1 hc.2.2.1 hc.2.2.2 e
      · refine next_by ⟨_, c1, rfl⟩ (wpAny_mono (held_end (S1 := TI1 i1 l1 xs xs.size) (Q := fun _ _ => False) hA c1 c2 b1 (ti_ends ex) b2 (ti_off D.i1z D.l1z) fun g' e hk he => ?_) (fun _ _ q => q.elim) fun _ _ q => q)
        obtain ⟨o, ho, hc⟩ := he
        refine ⟨⟨e, o, rfl, ho, hc⟩, hQ g' s1.toks fun c o hc e => ?_⟩
        simp only [List.mem_cons, List.not_mem_nil, or_false, not_or] at hc
        exact hk c o hc.1 hc.2.2.1 e
end Tl
end S_Zp
section S_Ya
namespace Tl
open PySem PySem.Spec PyProof.Rows L2
/-! ### sorted(t) of a tuple of ints -/
section
variable {prog : Program} {w : World} {A : Around} {E : Value → Shared → Prop} {s : Shared}
abbrev heapL (h : Heap) (zs : List Value) : Heap := (h.push (seqObj "list" #[] 0)).update h.objs.size (Obj.mapSeq (· ++ zs.toArray))
theorem collect_tup {l : Addr} {zs : List Value} {Q : List Value → Shared → Prop} (hl : s.heap.IsTuple l zs.toArray) (hz : zs.length ≤ sizeLine)
    (h : Q zs { s with heap := heapL s.heap zs }) : wpAny (model prog w) A (collect (.ref l)) Q E s := by
  obtain ⟨ob, hob, hcl, m, hdt⟩ := id hl
  unfold collect
  refine wpAny_bind (wpAny_runValue (codeAny_builtin entry_proto_collect' ?_))
  show wpAny _ _ (do again (.builtin "list.__iadd__" ⟨[← newList [], .ref l], []⟩)) _ _ s
  refine wpAny_bind (wpAny_newList (wpAny_pure ⟨Code.quiet_builtin _ (by decide +kernel), codeAny_builtin entry_list_iadd' ?_⟩))
  show wpAny _ _ (Builtin.List.listExtendWith (.ref s.heap.objs.size) (.ref l) (.ref s.heap.objs.size)) _ _ { s with heap := s.heap.push (seqObj "list" #[] 0) }
  unfold Builtin.List.listExtendWith
  have hob' : (s.heap.push (seqObj "list" #[] 0)).get? l = some ob := Heap.get?_push_of_some _ hob
  refine wpAny_bind (wpAny_typeOf (T := "tuple") ⟨ob, hob', hcl⟩ ?_)
  have h1 : (Value.type "tuple" == Value.type "list") = false := by rfl
  have h2 : (Value.type "tuple" == Value.type "tuple") = true := by rfl
  rw [if_pos (by rw [h1, h2]; simp)]
  refine wpAny_bind (listItems_at hob' hdt ?_)
  refine wpAny_bind (listItems_at (xs := #[]) (n := 0) (Heap.get?_push_size _ rfl) rfl ?_)
  rw [if_neg (by simp)]
  refine wpAny_bind (listUpdate_at (xs := #[]) (n := 0) (Heap.get?_push_size _ rfl) rfl ?_ (Nat.zero_le _) (by
    show (#[] ++ zs.toArray).size ≤ sizeLine + 1
    simp only [Array.size_append, List.size_toArray, List.length_nil]
    omega))
  refine wpAny_pure ?_
  refine (show wpAny (model prog w) A (load s.heap.objs.size >>= _) Q E { s with heap := heapL s.heap zs } from wpAny_bind (wpAny_load (get?_update_seq (Heap.get?_push_size _ rfl) _) ?_))
  show wpAny _ _ (pure ((#[] : Array Value) ++ zs.toArray).toList) Q E _
  have e : ((#[] : Array Value) ++ zs.toArray).toList = zs := by simp
  rw [e]
  exact wpAny_pure h
theorem sorted_tup {l : Addr} {zs : List Value} {lt : Value → Value → Bool} {Q : Value → Shared → Prop} (O : SrtO.Swo lt) (hl : s.heap.IsTuple l zs.toArray) (hz : zs.length ≤ sizeLine)
    (hS : 2 ≤ zs.length → ∀ (g : Heap) (a : Addr), g.get? a = some (seqObj "list" zs.toArray 0) → (∀ b o, s.heap.get? b = some o → b ≠ a ∧ g.get? b = some o) → SrtO.SortableO prog w A.in1.in1 { s with heap := g } a zs lt)
    (h : ∀ out : List Value, SrtO.Srtd lt out → SrtO.Stb lt out zs → Q (.ref (s.heap.objs.size + 1)) { s with heap := sortedAll s.heap zs out.toArray }) :
    wpAny (model prog w) A (call (.builtin "sorted") [.ref l]) Q E s := by
  refine Calls.call_function_entry kind_sorted plain_sorted entry_sorted (args_sorted1 _) ?_
  unfold Builtin.«sorted»
  refine wpAny_bind (m := checkCount "sorted" 1 1 _) (wpAny_pure (wpAny_bind (collect_tup hl hz (wpAny_bind (wpAny_newList ?_ hz)))))
  have sz : (heapL s.heap zs).objs.size = s.heap.objs.size + 1 := by
    show ((s.heap.push (seqObj "list" #[] 0)).update s.heap.objs.size (Obj.mapSeq (· ++ zs.toArray))).objs.size = _
    rw [Heap.size_update, size_push']
  have at1 : ((heapL s.heap zs).push (seqObj "list" zs.toArray 0)).get? (s.heap.objs.size + 1) = some (seqObj "list" zs.toArray 0) := by
    rw [← sz]
    exact Heap.get?_push_size _ rfl
  have up : ∀ b o, s.heap.get? b = some o → b ≠ s.heap.objs.size + 1 ∧ ((heapL s.heap zs).push (seqObj "list" zs.toArray 0)).get? b = some o := fun b o q => by
    have lt : b < s.heap.objs.size := Heap.lt_size q
    refine ⟨Nat.ne_of_lt (Nat.lt_succ_of_lt lt), Heap.get?_push_of_some _ ?_⟩
    show ((s.heap.push (seqObj "list" #[] 0)).update s.heap.objs.size (Obj.mapSeq (· ++ zs.toArray))).get? b = some o
    rw [Heap.get?_update_ne _ _ _ _ (Nat.ne_of_lt lt)]
    exact Heap.get?_push_of_some _ q
  show wpAny _ _ _ _ _ { s with heap := (heapL s.heap zs).push (seqObj "list" zs.toArray 0) }
  rw [sz]
  refine wpAny_bind (wpAny_holding (wpAny_call_entry slot_list_sort ⟨_, at1, rfl⟩ entry_list_sort (SrtO.list_sort_ord O at1 hz (fun h2 => hS h2 _ _ at1 up) fun out a b => ⟨_, rfl, ?_⟩) (args_list_sort _)))
  exact wpAny_pure ⟨_, rfl, h out a b⟩
end
def rSortedU (K : PySem.W.Frag) : List V → Hp → VK → Prop := fun vs H Q => ∃ (a : Addr) (ns : List Int), vs = [V.ref a] ∧ (SqL K H a (ns.map V.int) ∨ SqT K H a (ns.map V.int)) ∧
  ∀ (ms : List Int) (p : Addr), ms.Perm ns → ms.Pairwise (· ≤ ·) → H p = none → Q (.ref p) (upd H p (.lst (ms.map V.int)))
/-- sorted(xs) of a list or a tuple of ints -/
theorem cr_sortedU {X : Cx} : CallR X (.builtin "sorted") (rSortedU X.K) := by
  intro pins s σ H vs us Q I r h
  obtain ⟨a, ns, rfl, hs | hs, q⟩ := h
  · exact cr_sortedI pins s σ H _ us Q I r ⟨a, ns, rfl, hs, q⟩
  · obtain ⟨its, rv, hl, hz⟩ := I.tuple hs
    rw [Vals.ref1 r]
    have hi := rv.ints
    refine sorted_tup SrtO.swo_int hl (by rw [← rv.length]; exact hz) (fun h2 g b _ _ => SrtO.ints_sortable hi h2) fun out h1 h2 => ?_
    obtain ⟨k1, k2, k3⟩ := SrtO.ints_out hi h1 h2
    obtain ⟨ep, hep⟩ := PyProof.Rows.sortedAll_at s.heap its out.toArray
    have hn : ((out.map SrtO.iv).map V.int).length ≤ sizeLine := by
      rw [List.length_map] at hz ⊢
      rw [k2.length_eq]
      exact hz
    exact ⟨.ref _, upd H (s.heap.objs.size + 1) (.lst ((out.map SrtO.iv).map V.int)), I.laid (t' := s.toks) (fun _ _ => PyProof.Rows.sortedAll_old) (Nat.le_succ _) ⟨hn, out, ep, vals_of_ints k1, hep⟩, rfl, q _ _ k2 k3 (I.hok.fresh (Nat.le_succ _))⟩
/-! ### enumerate(t) of a tuple -/
set_option maxHeartbeats 1000000 in
theorem enum_new1 {v : Value} {o : Obj} {G : Heap → Prop} (B : Begins v o G) :
    Meets (Builtin.«enumerate.__new__» ⟨[.type "enumerate", v], []⟩) (fun _ R z => G z.heap ∧
      R (.ok (.ret (.ref (z.heap.push o).objs.size))) { z with heap := (z.heap.push o).push { cls := .type "enumerate", data := .fields #[.none, .bool false, .ref z.heap.objs.size, rawInt 0, .none, .none] } }) :=
  .of_wp fun pr wo Ar R z h => by
    obtain ⟨hh, ge, dd, tt, oo⟩ := z
    obtain ⟨g1, h⟩ := h
    have sb := sub_enumerate
    have it1 : ∀ {A' : Around} {E : Value → Shared → Prop} {Q : Value → Shared → Prop}, Q (.ref hh.objs.size) ⟨hh.push o, ge, dd, tt, oo⟩ → wpAny (model pr wo) A' (pyIter v) Q E ⟨hh, ge, dd, tt, oo⟩ :=
      fun q => B.iter pr wo _ _ ⟨hh, ge, dd, tt, oo⟩ _ g1 q
    wp_walk using it1
    refine wpAny_stack_any fun st => wpAny_pure ?_
    split
    · rename_i c _ _ _ _ _
      cases (c == Value.type "enumerate") <;> (wp_walk using it1; exact ⟨_, rfl, h⟩)
    · wp_walk using it1
      exact ⟨_, rfl, h⟩
section
variable {prog : Program} {w : World} {A : Around} {E : Value → Shared → Prop} {s : Shared}
theorem enum_of {v : Value} {o : Obj} {G : Heap → Prop} {Q : Value → Shared → Prop} (B : Begins v o G) (g1 : G s.heap)
    (h : ∀ g, IsEnum g (s.heap.objs.size + 1) s.heap.objs.size 0 .none → g.get? s.heap.objs.size = some o → g.objs.size = s.heap.objs.size + 2 →
      (∀ b u, s.heap.get? b = some u → g.get? b = some u) → Q (.ref (s.heap.objs.size + 1)) { s with heap := g }) :
    wpAny (model prog w) A (call (.type "enumerate") [v]) Q E s := by
  refine callType_new F.called_enumerate (by decide) (F.typeCall_enumerate_1 _) (F.newCall_enumerate_1 _) (fun obj => F.args_object_init_2 obj _) F.entry_enumerate_new (enum_new1 B) ⟨g1, ?_⟩
  have z1 : (s.heap.push o).objs.size = s.heap.objs.size + 1 := Heap.size_push ..
  show _ ∧ _
  rw [z1]
  have he : IsEnum ((s.heap.push o).push { cls := .type "enumerate", data := .fields #[.none, .bool false, .ref s.heap.objs.size, rawInt 0, .none, .none] }) (s.heap.objs.size + 1) s.heap.objs.size 0 .none := z1 ▸ Heap.get?_push_size _ rfl
  exact ⟨⟨_, he, rfl⟩, h _ he (Heap.get?_push_of_some _ (Heap.get?_push_size _ B.free)) (by rw [Heap.size_push, z1]) fun b u x => Heap.get?_push_of_some _ (Heap.get?_push_of_some _ x)⟩
end
/-- the tuple at a as it stands at each turn, each item in a new pair -/
def IteT (K : PySem.W.Frag) (a : Addr) : It :=
  ⟨fun i H => ∃ (xs : List V) (x : V), SqT K H a xs ∧ xs[i]? = some x, fun i H v H' => ∃ T x, v = .ref T ∧ H T = none ∧ H' = upd H T (.tup [.int (i : Nat), x]) ∧ ∀ xs, SqT K H a xs → xs[i]? = some x, fun i H => ∃ xs : List V, SqT K H a xs ∧ xs.length ≤ i⟩
theorem tup_ne {h : Heap} {a b l : Addr} {k : Nat} {xs : Array Value} (p : h.IsTuple a xs) (q : h.IsTupleIter b l k) : a ≠ b := fun z => by
  obtain ⟨o, ho, hc, _⟩ := p
  obtain ⟨u, hu, hd, _⟩ := q
  rw [z, hu] at ho
  cases ho
  rw [hd] at hc
  exact absurd (Value.type.inj hc) (by decide)
theorem tup_ne2 {h : Heap} {a e it : Addr} {i : Int} {old : Value} {xs : Array Value} (p : h.IsTuple a xs) (q : IsEnum h e it i old) : a ≠ e := fun z => by
  obtain ⟨o, ho, hc, _⟩ := p
  rw [z, q] at ho
  cases ho
  exact absurd (Value.type.inj hc) (by decide)
abbrev EnT (a e it : Addr) (i : Nat) (h : Heap) : Prop := (∃ old, IsEnum h e it ((i : Nat) : Int) old) ∧ h.IsTupleIter it a i ∧ e ≠ it
theorem turn_enumT {P : Program} {w : World} {K : PySem.W.Frag} {elts : List Expr} {kk : Nat} {tpos : Pos} (a e it : Addr) : Turn P w K (.Tuple elts kk tpos) (IteT K a) [e, it] e (EnT a e it) where
  mem := List.mem_cons_self
  obj := fun i h st b hb => by
    obtain ⟨⟨old, he⟩, ⟨o, ho, hc, hd⟩, _⟩ := st
    rcases List.mem_cons.mp hb with z | z
    · rw [z]; exact ⟨_, he, fun v q => nomatch q⟩
    · rw [List.mem_singleton.mp z]; exact ⟨o, ho, fun v q => by rw [hd] at q; cases q⟩
  keep := fun i h h' st k => ⟨st.1.imp fun old he => k e (by simp) _ he, st.2.1.at fun o q => k it (by simp) o q, st.2.2⟩
  item := by
    intro X hP hw hK hc i pins s σ H E I hf st hg
    subst hP hw hK
    obtain ⟨⟨old, he⟩, hit, hne⟩ := st
    obtain ⟨xs, x, hq, hx⟩ := hg
    obtain ⟨its, rv, p, hz⟩ := I.tuple hq
    obtain ⟨u, hu, ru⟩ := rv.get hx
    have hai : a ≠ it := tup_ne p hit
    have hae : a ≠ e := tup_ne2 p he
    have le : e < s.heap.objs.size := Heap.lt_size he
    have li : it < s.heap.objs.size := by obtain ⟨_, q, _⟩ := hit; exact Heap.lt_size q
    have isz : i < its.toArray.size := by simpa using (List.getElem?_eq_some_iff.mp hu).1
    refine wpAny_pyNext_enum_itemC (Draws.tuple (show X.A.in1.handled = none from I.ok.hd hc) it a hai its.toArray) he ⟨hit, p⟩ isz hne (by simp [hne, Ne.symm hae]) fun y g tk hy ho hst hT hsz hk => ?_
    have ey : y = u := by
      rw [show its.toArray[i]? = its[i]? by simp, hu] at hy
      exact (Option.some.inj hy).symm
    subst ey
    refine ⟨_, rfl, wpAny_letOwnedTupleGo_enum (s := { s with heap := g, toks := tk + 1 }) ho fun g2 he' sb => ?_⟩
    have at2 : g2.get? s.heap.objs.size = some { cls := .type "tuple", data := .seq #[.int i tk, y] } := (sb.2 _ (Nat.ne_of_gt le)).trans hT
    have new : ObjOk X.prog X.w (upd H s.heap.objs.size (.tup [.int (i : Nat), x])) g2 s.heap.objs.size (.tup [.int (i : Nat), x]) :=
      ⟨by show 2 ≤ sizeLine; decide, [.int i tk, y], .cons ⟨_, rfl⟩ (.cons ru .nil), ⟨_, at2, rfl, _, rfl⟩⟩
    have old2 : ∀ b ob, b ∉ [e, it] → s.heap.get? b = some ob → g2.get? b = some ob := fun b ob hb q =>
      (sb.2 b fun z => hb (by simp [z])).trans (hk b ob (fun z => hb (by simp [z])) (fun z => hb (by simp [z])) q)
    have I1 : Inv X pins σ (upd H s.heap.objs.size (.tup [.int (i : Nat), x])) { s with heap := g2, toks := tk + 1 } := I.turnedNew (ch := [e, it]) old2 hf (Nat.le_refl _) new
    refine ⟨.ref s.heap.objs.size, _, I1, rfl, ⟨_, x, rfl, I.hok.fresh (Nat.le_refl _), rfl, fun ys hy => by rw [I.tuple_inj hy hq]; exact hx⟩, ⟨⟨y, ?_⟩, hst.1.at fun o q => (sb.2 it (Ne.symm hne)).trans q, hne⟩, fun b hb => ?_⟩
    · show IsEnum g2 e it ((i + 1 : Nat) : Int) y
      rw [show ((i + 1 : Nat) : Int) = (i : Int) + 1 by omega]
      exact he'
    · have lb : b < s.heap.objs.size := by
        rcases List.mem_cons.mp hb with z | z
        · rw [z]; exact le
        · rw [List.mem_singleton.mp z]; exact li
      rw [upd_ne (Nat.ne_of_lt lb)]
      exact (hf b hb).1
  done := by
    intro X hP hw hK hc i pins s σ H E I hf st hg
    subst hP hw hK
    obtain ⟨⟨old, he⟩, hit, hne⟩ := st
    obtain ⟨xs, hq, hx⟩ := hg
    obtain ⟨its, rv, p, hz⟩ := I.tuple hq
    obtain ⟨f0, f1, f2, f3, f4, f5⟩ := hf it (by simp)
    have hn := rv.length
    have hai : a ≠ it := tup_ne p hit
    have D : Draws X.prog X.w X.A.in1 it [it, a] i (fun _ _ => False) (fun j h => h.IsTupleIter it a j ∧ h.IsTuple a its.toArray ∧ j = i) :=
      { live := fun _ _ st => let ⟨o, ho, _⟩ := st.1; ⟨o, ho⟩
        frame := fun _ _ _ st hk => ⟨st.1.at fun o e => hk it (by simp) o e, st.2.1.at fun o e => hk a (by simp) o e, st.2.2⟩
        item := fun j s Q E hj st _ => absurd st.2.2 (Nat.ne_of_lt hj)
        done := fun s Q E st hE => RZ.nextOf_tuple_end (show X.A.in1.handled = none from I.ok.hd hc) st.1 st.2.1 (by simp; omega) hE }
    exact wpAny_pyNext_enum_endD D he ⟨hit, p, rfl⟩ fun g eb => ⟨rfl, I.turned (t' := s.toks) (fun b o hb q => eb b o hb q) f0 f1 f3 f4 f5⟩
  self := fun A i s Q E st h => let ⟨⟨_, he⟩, _⟩ := st; wpAny_pyIter_enum he h
def iEnumT (K : PySem.W.Frag) (ta : TA) : TI := fun σ H R => ta σ H fun vs H1 => ∃ a xs, vs = [.ref a] ∧ SqT K H1 a xs ∧ R (IteT K a) H1
theorem pi_enumT {X : Cx} {e : Expr} {ta : TA} {p pos tpos : Pos} {elts : List Expr} {kk : Nat} (hg : Gl X "enumerate") (hm : X.mg "enumerate" = none) (ha : PA X [e] ta) (hs : starEach [e] X.env = [(false, eval e X.env)] := by rfl) :
    PI X (.Tuple elts kk tpos) (.Call (.Name "enumerate" p) [e] [] pos) (iEnumT X.K ta) := by
  refine ⟨fun pins s σ H R I h => ?_⟩
  refine Call_ (ld_blt I hg hm boot_enumerate (PyProof.Rows.callWith_type1 (thn (ha.run pos pins s σ H _ I h) fun us s1 hv => ?_) hs rfl))
  obtain ⟨vs, H1, I1, r1, a, xs, rfl, hq, q⟩ := hv
  obtain rfl := Vals.ref1 r1
  obtain ⟨its, rv, p', hz⟩ := I1.tuple hq
  refine enum_of (begins_tuple a its.toArray) p' fun g he hit hsz hk => wpAny_pyIter_enum he ?_
  refine ⟨s1.heap.objs.size + 1, [s1.heap.objs.size + 1, s1.heap.objs.size], _, _, H1, rfl, I1.kept (t' := s1.toks) hk, turn_enumT a (s1.heap.objs.size + 1) s1.heap.objs.size, ⟨⟨.none, he⟩, ⟨_, hit, rfl, rfl⟩, Nat.succ_ne_self _⟩, fun b hb => ?_, q⟩
  have le : s1.heap.objs.size ≤ b := by
    rcases List.mem_cons.mp hb with z | z
    · rw [z]; exact Nat.le_add_right _ _
    · rw [List.mem_singleton.mp z]; exact Nat.le_refl _
  exact I1.fpOk le (I1.hok.fresh le)
end Tl
end S_Ya
section S_Yw
namespace Tl
open PySem PySem.Spec PyProof.Rows L2
open Evl
/-! ### walks that only lay new objects -/
/-- C holds what came between A and B -/
abbrev Since (A B C : Hp) : Prop := ∀ a o, A a = none → B a = some o → C a = some o
/-- what a for walks: n turns, told by Y, as long as what stood at H stays, and what is new -/
def EvI (wi : TI) (σ : L2.St) (H : Hp) (n : Nat) (Y : Nat → Hp → V → Hp → Prop) : Prop := ∀ H1, Ex H H1 → ∀ R : It → Hp → Prop,
  (∀ (J : It) (G : Hp → Prop) H2, Ex H1 H2 → Walk J n G Y → (∀ A, Ex H A → Since H1 H2 A → G A) → R J H2) → wi σ H1 R
/-- a value of which R holds, in each heap that has what stood at H and what is new -/
def EvN (te : TE) (σ : L2.St) (H : Hp) (R : V → Hp → Prop) : Prop := ∀ H1, Ex H H1 → ∀ Q : VK, (∀ v H2, Ex H1 H2 → (∀ H3, Ex H H3 → Since H1 H2 H3 → R v H3) → Q v H2) → te σ H1 Q
/-- a new list: what it holds is told by L -/
def EvNL (te : TE) (σ : L2.St) (H : Hp) (L : List V → Hp → Prop) : Prop := ∀ H1, Ex H H1 → ∀ Q : VK,
  (∀ p xs H2, H1 p = none → Ex H1 H2 → H2 p = some (.lst xs) → (∀ H3, Ex H H3 → (∀ a o, a ≠ p → H1 a = none → H2 a = some o → H3 a = some o) → L xs H3) → Q (.ref p) H2) → te σ H1 Q
/-- the target's stores -/
def Aims (g : TG) (n : Nat) (Y : Nat → Hp → V → Hp → Prop) (s : Nat → L2.St → L2.St) : Prop := ∀ i σ H x H', i < n → Y i H x H' → Ex H H' ∧ ∀ Q : L2.St → Hp → Prop, Q (s i σ) H' → g x σ H' Q
theorem aims_at {xs : List V} {j : Nat} : Aims (gName j) xs.length (YAt xs) (fun i σ => σ.set j (some (xs.getD i .non))) := fun i σ H x H' hi y => by
  obtain ⟨rfl, hx⟩ := y
  obtain rfl : xs.getD i .non = x := by rw [List.getD_eq_getElem?_getD, hx]; rfl
  exact ⟨Ex.refl _, fun Q q => q⟩
theorem aims_fn {f : Nat → V} {n j : Nat} : Aims (gName j) n (YFn f) (fun i σ => σ.set j (some (f i))) := fun i σ H x H' hi y => by
  obtain ⟨rfl, rfl⟩ := y
  exact ⟨Ex.refl _, fun Q q => q⟩
/-- a pair of the turn's number and the item -/
theorem aims_enum {K : PySem.W.Frag} {xs : List V} {j1 j2 : Nat} : Aims (gTup K 2 (gCons (gName j1) (gCons (gName j2) gNil))) xs.length (YPair (fun i => some (.int (i : Nat))) (fun i => xs[i]?))
    (fun i σ => (σ.set j1 (some (.int (i : Nat)))).set j2 (some (xs.getD i .non))) := fun i σ H v H' hi y => by
  obtain ⟨T, x, y, rfl, hT, rfl, h1, h2⟩ := y
  cases h1
  have h3 : xs[i]? = some y := h2
  obtain rfl : xs.getD i .non = y := by rw [List.getD_eq_getElem?_getD, h3]; rfl
  exact ⟨Ex.new hT, fun Q q => ⟨T, _, rfl, st_of upd_same, rfl, _, _, rfl, _, _, rfl, rfl, q⟩⟩
section
variable {K : PySem.W.Frag} {σ : L2.St} {H : Hp}
theorem ei_list {a : Addr} {xs : List V} {tl : TE} (h : Ev tl σ H (.ref a)) (hx : SqL K H a xs) : EvI (iList K tl) σ H xs.length (YAt xs) := fun H1 e R k =>
  h H1 e _ fun H2 e2 => ⟨a, rfl, ⟨xs, ex_l (e.trans e2) hx⟩, k _ _ H2 e2 walk_list fun A ab _ => ex_l ab hx⟩
theorem ei_listN {xs : List V} {tl : TE} (h : EvL tl σ H xs) : EvI (iList K tl) σ H xs.length (YAt xs) := fun H1 e R k =>
  h H1 e _ fun a H2 ha e2 hx => ⟨a, rfl, ⟨xs, sq_of hx⟩, k _ _ H2 e2 walk_list fun A _ ab => sq_of (ab _ _ ha hx)⟩
theorem ei_tup {a : Addr} {xs : List V} {tl : TE} (h : Ev tl σ H (.ref a)) (hx : SqT K H a xs) : EvI (iTup K tl) σ H xs.length (YAt xs) := fun H1 e R k =>
  h H1 e _ fun H2 e2 => ⟨a, rfl, ⟨xs, ex_t (e.trans e2) hx⟩, k _ _ H2 e2 walk_tup fun A ab _ => ex_t ab hx⟩
theorem walk_enumT {a : Addr} {xs : List V} : Walk (IteT K a) xs.length (fun H => SqT K H a xs) (YPair (fun i => some (.int (i : Nat))) (fun i => xs[i]?)) := by
  refine ⟨fun i _ hi q => ⟨xs, xs[i], q, by simp [hi]⟩, fun _ q => ⟨xs, q, Nat.le_refl _⟩, fun i H v H' _ q y => ?_⟩
  obtain ⟨T, x, h1, h2, h3, h4⟩ := y
  exact ⟨T, .int (i : Nat), x, h1, h2, h3, rfl, h4 xs q⟩
theorem ei_enum {a : Addr} {xs : List V} {ta : TA} (h : EvA ta σ H [.ref a]) (hx : SqL K H a xs) : EvI (iEnum K ta) σ H xs.length (YPair (fun i => some (.int (i : Nat))) (fun i => xs[i]?)) := fun H1 e R k =>
  h H1 e _ fun H2 e2 => ⟨a, xs, rfl, ex_l (e.trans e2) hx, k _ _ H2 e2 walk_enum fun A ab _ => ex_l ab hx⟩
theorem ei_enumT {a : Addr} {xs : List V} {ta : TA} (h : EvA ta σ H [.ref a]) (hx : SqT K H a xs) : EvI (iEnumT K ta) σ H xs.length (YPair (fun i => some (.int (i : Nat))) (fun i => xs[i]?)) := fun H1 e R k =>
  h H1 e _ fun H2 e2 => ⟨a, xs, rfl, ex_t (e.trans e2) hx, k _ _ H2 e2 walk_enumT fun A ab _ => ex_t ab hx⟩
theorem ei_rng1 {ta : TA} {j : Int} (h : EvA ta σ H [.int j]) (h0 : 0 ≤ j) (h1 : j ≤ 100000) : EvI (iRng1 ta) σ H j.toNat (YFn fun i => .int (0 + i)) := fun H1 e R k =>
  h H1 e _ fun H2 e2 => ⟨j, rfl, by omega, by omega, k _ _ H2 e2 walk_range fun _ _ _ => trivial⟩
theorem ei_rng2 {ta : TA} {i j : Int} (h : EvA ta σ H [.int i, .int j]) (h0 : -100000 ≤ i ∧ i ≤ 100000) (h1 : -100000 ≤ j ∧ j ≤ 100000) : EvI (iRng2 ta) σ H (j - i).toNat (YFn fun k => .int (i + k)) := fun H1 e R k =>
  h H1 e _ fun H2 e2 => ⟨i, j, rfl, ⟨by omega, by omega, by omega, by omega⟩, k _ _ H2 e2 walk_range fun _ _ _ => trivial⟩
theorem en_v {te : TE} {v : V} (h : Ev te σ H v) : EvN te σ H (fun u _ => u = v) := fun H1 e Q q => h H1 e Q fun H2 e2 => q v H2 e2 fun _ _ _ => rfl
theorem en_l {te : TE} {xs : List V} (h : EvL te σ H xs) : EvN te σ H (fun u H' => ∃ a, u = .ref a ∧ H' a = some (.lst xs)) := fun H1 e Q q => h H1 e Q fun p H2 hp e2 h2 => q _ H2 e2 fun H3 _ s => ⟨p, rfl, s _ _ hp h2⟩
theorem en_u {te : TE} {xs : List V} (h : ∀ H1, Ex H H1 → ∀ Q : VK, (∀ p H2, H1 p = none → Ex H1 H2 → H2 p = some (.tup xs) → Q (.ref p) H2) → te σ H1 Q) : EvN te σ H (fun u H' => ∃ a, u = .ref a ∧ H' a = some (.tup xs)) := fun H1 e Q q => h H1 e Q fun p H2 hp e2 h2 => q _ H2 e2 fun H3 _ s => ⟨p, rfl, s _ _ hp h2⟩
theorem en_nl {te : TE} {L : List V → Hp → Prop} (h : EvNL te σ H L) : EvN te σ H (fun u H' => ∃ a xs, u = .ref a ∧ H' a = some (.lst xs) ∧ L xs H') := fun H1 e Q q => h H1 e Q fun p xs H2 hp e2 h2 hL => q _ H2 e2 fun H3 e3 s => ⟨p, xs, rfl, s _ _ hp h2, hL H3 e3 fun a o _ ha hb => s a o ha hb⟩
/-- what the comprehension's list holds: what R tells, turn by turn -/
def Holds (R : Nat → V → Hp → Prop) (n : Nat) (xs : List V) (H : Hp) : Prop := xs.length = n ∧ ∀ i v, xs[i]? = some v → R i v H
theorem snoc_at {xs : List V} {v u : V} {i : Nat} (h : (xs ++ [v])[i]? = some u) : (i < xs.length ∧ xs[i]? = some u) ∨ (i = xs.length ∧ v = u) := by
  rcases Nat.lt_or_ge i xs.length with hi | hi
  · rw [List.getElem?_append_left hi] at h
    exact .inl ⟨hi, h⟩
  · rw [List.getElem?_append_right hi] at h
    have e : i - xs.length = 0 := by
      have := (List.getElem?_eq_some_iff.mp h).1
      simp at this
      omega
    rw [e] at h
    cases h
    exact .inr ⟨by omega, rfl⟩
theorem en_lc {wi : TI} {g : TG} {te : TE} {vs : List Nat} {n : Nat} {Y : Nat → Hp → V → Hp → Prop} {s : Nat → L2.St → L2.St} (hw : EvI wi σ H n Y) (aim : Aims g n Y s) (hs : ∀ i, wipe (s i (wipe σ vs)) vs = wipe σ vs) (hn : n ≤ 90000)
    (R : Nat → V → Hp → Prop) (he : ∀ i, i < n → EvN te (s i (wipe σ vs)) H (R i)) : EvNL (tLc wi g tYes te vs) σ H (Holds R n) := fun H1 e Q q =>
  hw H1 e _ fun J G H2 e2 w sG D hD => lc_it w (fun i H' => Ex H2 H' ∧ ∃ acc, H' D = some (.lst acc) ∧ acc.length = i ∧ ∀ k v, acc[k]? = some v → ∀ H3, Ex H H3 → (∀ a o, a ≠ D → H1 a = none → H' a = some o → H3 a = some o) → R k v H3)
    ⟨Ex.new hD, [], upd_same, rfl, fun i v h => by simp at h⟩ (fun i H' _ p => sG H' ((e.trans e2).trans p.1) fun a o _ ha => p.1 _ _ ha)
    (fun i x A B hi p y => by
      obtain ⟨p1, acc, p3, p4, p5⟩ := p
      obtain ⟨ab, k⟩ := aim i (wipe σ vs) A x B hi y
      refine k _ ⟨hs i, ?_⟩
      show te (s i (wipe σ vs)) B _
      have hHB : Ex H B := ((e.trans e2).trans p1).trans ab
      refine he i hi B hHB _ fun v C eC hv => ⟨acc, eC _ _ (ab _ _ p3), sz_lt (by omega), ?_, acc ++ [v], upd_same, by rw [List.length_append, p4] <;> rfl, fun k u hk H3 h3 keep => ?_⟩
      · exact ((p1.trans ab).trans eC).mut hD
      · have at4 : ∀ a o, a ≠ D → H1 a = none → C a = some o → H3 a = some o := fun a o hne hn hc => keep a o hne hn (by rw [upd_ne hne]; exact hc)
        rcases snoc_at hk with ⟨hlt, hk⟩ | ⟨rfl, rfl⟩
        · exact p5 k u hk H3 h3 fun a o hne hn ha => at4 a o hne hn (eC _ _ (ab _ _ ha))
        · rw [p4]
          refine hv H3 h3 fun a o hb hc => at4 a o (fun z => ?_) (fresh_back ((e2.trans p1).trans ab) hb) hc
          rw [z, ab _ _ p3] at hb
          cases hb)
    (fun H' p => by
      obtain ⟨p1, acc, p3, p4, p5⟩ := p
      exact q D acc H' (fresh_back e2 hD) (e2.trans p1) p3 fun H3 h3 keep => ⟨p4, fun i v hv => p5 i v hv H3 h3 keep⟩)
/-- two walks, one in another: what the list holds is told by the row of b's -/
def Row2 {β : Type} (Rb : β → V → Hp → Prop) (bs : List β) (xs : List V) (H : Hp) : Prop := xs.length = bs.length ∧ ∀ (k : Nat) (b : β) (v : V), bs[k]? = some b → xs[k]? = some v → Rb b v H
def els {β : Type} (m : Nat → Nat) (f : Nat → Nat → Bool) (b : Nat → Nat → β) (i : Nat) : List β := ((List.range (m i)).filter (f i)).map (b i)
def rows {β : Type} (m : Nat → Nat) (f : Nat → Nat → Bool) (b : Nat → Nat → β) (n : Nat) : List β := (List.range n).flatMap (els m f b)
theorem rows_succ {β : Type} {m : Nat → Nat} {f : Nat → Nat → Bool} {b : Nat → Nat → β} {n : Nat} : rows m f b (n + 1) = rows m f b n ++ els m f b n := by
  unfold rows
  rw [List.range_succ, List.flatMap_append]
  simp
def part {β : Type} (f : Nat → Bool) (b : Nat → β) (j : Nat) : List β := ((List.range j).filter f).map b
theorem part_succ {β : Type} {f : Nat → Bool} {b : Nat → β} {j : Nat} : part f b (j + 1) = part f b j ++ (if f j = true then [b j] else []) := by
  unfold part
  rw [List.range_succ, List.filter_append, List.map_append]
  congr 1
  cases h : f j <;> simp [h]
theorem part_le {β : Type} {f : Nat → Bool} {b : Nat → β} {j k : Nat} (h : j ≤ k) : (part f b j).length ≤ (part f b k).length := by
  induction k with
  | zero => rw [Nat.le_zero.mp h] <;> exact Nat.le_refl _
  | succ k ih =>
    rcases Nat.lt_or_ge k j with h2 | h2
    · rw [show j = k + 1 by omega] <;> exact Nat.le_refl _
    · rw [part_succ, List.length_append]
      exact Nat.le_trans (ih h2) (Nat.le_add_right _ _)
theorem rows_le {β : Type} {m : Nat → Nat} {f : Nat → Nat → Bool} {b : Nat → Nat → β} {j k : Nat} (h : j ≤ k) : (rows m f b j).length ≤ (rows m f b k).length := by
  induction k with
  | zero => rw [Nat.le_zero.mp h] <;> exact Nat.le_refl _
  | succ k ih =>
    rcases Nat.lt_or_ge k j with h2 | h2
    · rw [show j = k + 1 by omega] <;> exact Nat.le_refl _
    · rw [rows_succ, List.length_append]
      exact Nat.le_trans (ih h2) (Nat.le_add_right _ _)
theorem en_lc2 {β : Type} {wi wi1 : TI} {g g1 : TG} {tt1 : TT} {te : TE} {vs vs1 : List Nat} {n : Nat} {m : Nat → Nat} {Y : Nat → Hp → V → Hp → Prop} {Y1 : Nat → Nat → Hp → V → Hp → Prop} {s : Nat → L2.St → L2.St} {s1 : Nat → Nat → L2.St → L2.St}
    (hw : EvI wi σ H n Y) (aim : Aims g n Y s) (hs : ∀ i, wipe (s i (wipe σ vs)) vs = wipe σ vs)
    (hw1 : ∀ i, i < n → EvI wi1 (s i (wipe σ vs)) H (m i) (Y1 i)) (aim1 : ∀ i, Aims g1 (m i) (Y1 i) (s1 i)) (hs1 : ∀ i j, wipe (s1 i j (wipe (s i (wipe σ vs)) vs1)) vs1 = wipe (s i (wipe σ vs)) vs1)
    (f : Nat → Nat → Bool) (b : Nat → Nat → β) (Rb : β → V → Hp → Prop) (ht : ∀ i j, i < n → j < m i → EvT tt1 (s1 i j (wipe (s i (wipe σ vs)) vs1)) H (f i j))
    (he : ∀ i j, i < n → j < m i → f i j = true → EvN te (s1 i j (wipe (s i (wipe σ vs)) vs1)) H (Rb (b i j))) (hz : (rows m f b n).length ≤ 90000) :
    EvNL (tLc2 wi g tYes wi1 g1 tt1 te vs vs1) σ H (Row2 Rb (rows m f b n)) := fun H1 e Q q => by
  refine hw H1 e _ fun J G H2 e2 w sG D hD => ?_
  -- what stands while ds are made
  let St : List β → Hp → Prop := fun ds H' => Ex H2 H' ∧ ∃ acc, H' D = some (.lst acc) ∧ acc.length = ds.length ∧ ∀ (k : Nat) (d : β) (v : V), ds[k]? = some d → acc[k]? = some v → ∀ H3, Ex H H3 → (∀ a o, a ≠ D → H1 a = none → H' a = some o → H3 a = some o) → Rb d v H3
  have grow : ∀ {ds : List β} {A B : Hp}, St ds A → Ex A B → St ds B := fun {ds A B} p ab => by
    obtain ⟨p1, acc, p3, p4, p5⟩ := p
    exact ⟨p1.trans ab, acc, ab _ _ p3, p4, fun k d v h1 h2 H3 h3 keep => p5 k d v h1 h2 H3 h3 fun a o hne hn ha => keep a o hne hn (ab _ _ ha)⟩
  refine ⟨fun i k H' => k = n - i ∧ i ≤ n ∧ St (rows m f b i) H', ⟨n, by simp, Nat.zero_le _, Ex.new hD, [], upd_same, rfl, fun k d v h => by simp [rows] at h⟩, ?_⟩
  rintro i k A ⟨rfl, hin, p⟩
  have gA : G A := sG A ((e.trans e2).trans p.1) fun a o _ ha => p.1 _ _ ha
  by_cases hi : i < n
  · refine .inr ⟨w.goes i A hi gA, St (rows m f b (i + 1)), fun H' p' => ⟨n - (i + 1), by omega, rfl, hi, p'⟩, fun x B yl => ?_⟩
    have y := w.yields i A x B hi gA yl
    obtain ⟨ab, k⟩ := aim i (wipe σ vs) A x B hi y
    refine k _ ⟨hs i, ?_⟩
    have pB := grow p ab
    refine hw1 i hi B (((e.trans e2).trans p.1).trans ab) _ fun J1 G1 C bC w1 sG1 => ?_
    refine ⟨fun j k H' => k = m i - j ∧ j ≤ m i ∧ St (rows m f b i ++ part (f i) (b i) j) H' ∧ Since B C H', ⟨m i, by simp, Nat.zero_le _, ?_, fun _ _ _ h => h⟩, ?_⟩
    · simpa [part] using grow pB bC
    · rintro j k H' ⟨rfl, hj, pj, sj⟩
      have gj : G1 H' := sG1 H' ((e.trans e2).trans pj.1) sj
      by_cases hlt : j < m i
      · refine .inr ⟨w1.goes j H' hlt gj, fun H4 => St (rows m f b i ++ part (f i) (b i) (j + 1)) H4 ∧ Since B C H4, fun H4 p4 => ⟨m i - (j + 1), by omega, rfl, hlt, p4⟩, fun x1 B1 y1 => ?_⟩
        obtain ⟨ab1, k1⟩ := aim1 i j (wipe (s i (wipe σ vs)) vs1) H' x1 B1 hlt (w1.yields j H' x1 B1 hlt gj y1)
        refine k1 _ ⟨hs1 i j, ?_⟩
        have pB1 := grow pj ab1
        refine ht i j hi hlt B1 ((e.trans e2).trans pB1.1) _ fun H6 e6 => ?_
        have p6 := grow pB1 e6
        have s6 : Since B C H6 := fun a o ha hc => e6 _ _ (ab1 _ _ (sj a o ha hc))
        rw [part_succ]
        cases hf : f i j with
        | false =>
          show St _ H6 ∧ Since B C H6
          rw [if_neg (by decide), List.append_nil]
          exact ⟨p6, s6⟩
        | true =>
          refine he i j hi hlt hf H6 ((e.trans e2).trans p6.1) _ fun v C6 eC hv => ?_
          obtain ⟨q1, acc, q3, q4, q5⟩ := p6
          have small : acc.length < 90000 := by
            rw [q4, List.length_append]
            have a1 : (rows m f b (i + 1)).length ≤ 90000 := Nat.le_trans (rows_le hi) hz
            rw [rows_succ, List.length_append] at a1
            have a2 : (part (f i) (b i) (j + 1)).length ≤ (els m f b i).length := part_le (f := f i) (b := b i) (show j + 1 ≤ m i from hlt)
            rw [part_succ, hf, List.length_append] at a2
            simp at a2
            omega
          refine ⟨acc, eC _ _ q3, sz_lt (by omega), ⟨(q1.trans eC).mut hD, acc ++ [v], upd_same, ?_, ?_⟩, ?_⟩
          · rw [if_pos rfl, ← List.append_assoc, List.length_append, List.length_append, q4, List.length_append]
            rfl
          · intro k d u hd hu H3 h3 keep
            have at4 : ∀ a o, a ≠ D → H1 a = none → C6 a = some o → H3 a = some o := fun a o hne hn hc => keep a o hne hn (by rw [upd_ne hne]; exact hc)
            rw [if_pos rfl, ← List.append_assoc] at hd
            rcases snoc_at hu with ⟨hlt2, hu2⟩ | ⟨rfl, rfl⟩
            · rw [q4] at hlt2
              rw [List.getElem?_append_left hlt2] at hd
              exact q5 k d u hd hu2 H3 h3 fun a o hne hn ha => at4 a o hne hn (eC _ _ ha)
            · rw [q4, List.getElem?_append_right (Nat.le_refl _), Nat.sub_self] at hd
              cases hd
              refine hv H3 h3 fun a o hb hc => at4 a o (fun z => ?_) (fresh_back (e2.trans q1) hb) hc
              rw [z, q3] at hb
              cases hb
          · intro a o ha hc
            rw [upd_ne (fun z => ?_)]
            · exact eC _ _ (s6 a o ha hc)
            · obtain ⟨acc0, r3, _⟩ := pB.2
              rw [z, r3] at ha
              cases ha
      · have ej : j = m i := by omega
        subst ej
        refine .inl ⟨w1.stops H' gj, ?_⟩
        show St (rows m f b (i + 1)) H'
        rw [rows_succ]
        exact pj
  · have ei : i = n := by omega
    subst ei
    refine .inl ⟨w.stops A gA, ?_⟩
    obtain ⟨p1, acc, p3, p4, p5⟩ := p
    exact q D acc A (fresh_back e2 hD) (e2.trans p1) p3 fun H3 h3 keep => ⟨p4, fun k d v h1 h2 => p5 k d v h1 h2 H3 h3 keep⟩
/-- the dict of the first keys, each with True -/
def dOf (kf : Nat → Int) : Nat → List (L2.Key × V)
  | 0 => []
  | i + 1 => putK (dOf kf i) (.inl (kf i)) (.bl true)
theorem dOf_len (kf : Nat → Int) : ∀ n, (dOf kf n).length ≤ n
  | 0 => Nat.le_refl _
  | n + 1 => Nat.le_trans (length_putK _ _ _) (Nat.succ_le_succ (dOf_len kf n))
theorem dOf_at (kf : Nat → Int) (x : Int) : ∀ n, (valV (dOf kf n) (.inl x)).isSome = true ↔ ∃ i, i < n ∧ kf i = x
  | 0 => ⟨fun h => (by cases h), fun ⟨i, h, _⟩ => absurd h (Nat.not_lt_zero i)⟩
  | n + 1 => by
    show (valV (putK (dOf kf n) (.inl (kf n)) (.bl true)) (.inl x)).isSome = true ↔ _
    rw [valV_put]
    by_cases e : (Sum.inl x : L2.Key) = .inl (kf n)
    · rw [if_pos e]
      exact ⟨fun _ => ⟨n, Nat.lt_succ_self n, (Sum.inl.inj e).symm⟩, fun _ => rfl⟩
    · rw [if_neg e, dOf_at kf x n]
      constructor
      · rintro ⟨i, h1, h2⟩
        exact ⟨i, Nat.lt_succ_of_lt h1, h2⟩
      · rintro ⟨i, h1, h2⟩
        refine ⟨i, Nat.lt_of_le_of_ne (Nat.le_of_lt_succ h1) fun z => ?_, h2⟩
        rw [z] at h2
        exact e (by rw [h2])
theorem en_dc {wi : TI} {g : TG} {tk tv : TE} {vs : List Nat} {n : Nat} {Y : Nat → Hp → V → Hp → Prop} {s : Nat → L2.St → L2.St} {kf : Nat → Int} (hw : EvI wi σ H n Y) (aim : Aims g n Y s) (hs : ∀ i, wipe (s i (wipe σ vs)) vs = wipe σ vs) (hn : n ≤ 90000)
    (hk : ∀ i, i < n → Ev tk (s i (wipe σ vs)) H (.int (kf i))) (hv : ∀ i, i < n → Ev tv (s i (wipe σ vs)) H (.bl true)) : EvN (tDc wi g tYes tk tv vs) σ H (fun u H' => ∃ d, u = .ref d ∧ H' d = some (.dK (dOf kf n))) := fun H1 e Q q =>
  hw H1 e _ fun J G H2 e2 w sG D hD => by
    refine ⟨fun i m H' => m = n - i ∧ i ≤ n ∧ Ex H2 H' ∧ H' D = some (.dK (dOf kf i)), ⟨n, by simp, Nat.zero_le _, Ex.new hD, upd_same⟩, ?_⟩
    rintro i m A ⟨rfl, hin, p1, p2⟩
    have gA : G A := sG A ((e.trans e2).trans p1) fun a o _ ha => p1 _ _ ha
    by_cases hi : i < n
    · refine .inr ⟨w.goes i A hi gA, fun H' => Ex H2 H' ∧ H' D = some (.dK (dOf kf (i + 1))), fun H' p' => ⟨n - (i + 1), by omega, rfl, hi, p'⟩, fun x B yl => ?_⟩
      obtain ⟨ab, k⟩ := aim i (wipe σ vs) A x B hi (w.yields i A x B hi gA yl)
      refine k _ ⟨hs i, ?_⟩
      refine hk i hi B (((e.trans e2).trans p1).trans ab) _ fun C eC => ?_
      refine hv i hi C ((((e.trans e2).trans p1).trans ab).trans eC) _ fun C2 eC2 => ?_
      have := dOf_len kf i
      exact ⟨dOf kf i, .inl (kf i), rfl, eC2 _ _ (eC _ _ (ab _ _ p2)), sz_lt (by omega), (((p1.trans ab).trans eC).trans eC2).mut hD, upd_same⟩
    · have ei : i = n := by omega
      subst ei
      refine .inl ⟨w.stops A gA, q _ A (e2.trans p1) fun H3 h3 keep => ⟨D, rfl, keep _ _ (fresh_back e2 hD) p2⟩⟩
theorem ev_din {ty td : TE} {d : Addr} {kvs : List (L2.Key × V)} {x : Int} (h1 : Ev ty σ H (.int x)) (h2 : Ev td σ H (.ref d)) (hd : H d = some (.dK kvs)) : Ev (tDIn ty td) σ H (.bl (valV kvs (.inl x)).isSome) := fun H1 e Q q =>
  h1 H1 e _ fun H2 e2 => h2 H2 (e.trans e2) _ fun H3 e3 => ⟨d, _, rfl, DGet.k (k := Sum.inl x) (((e.trans e2).trans e3) _ _ hd), q H3 (e2.trans e3)⟩
end
end Tl
end S_Yw
section S_Wa
namespace Hk
open PySem PySem.Spec PyProof.Rows L2
/-! ### a caught error that is kept behind its try -/
/-- at a stands an error of the class cls, whose own dict is d -/
def ErrAt (cls : Value) (d : Option Addr) (a : Addr) : HO := .ext fun h => ∃ (oe : Obj) (vs : Array Value), h.get? a = some oe ∧ Zc cls d oe ∧ oe.data = .fields vs
section
variable {X : Cx} {pins : List (Addr × Obj)} {σ : L2.St} {H : Hp} {s : Shared}
/-- what stands at a, new since the entry, is told of from now on -/
theorem told_at {a : Addr} {oe : Obj} {vs : Array Value} {cls : Value} {d : Option Addr} (I : Inv X pins σ H s) (at_ : s.heap.get? a = some oe) (z : Zc cls d oe) (hd : oe.data = .fields vs) (na : H a = none) (n0 : X.s_0.heap.get? a = none) (nL : a ≠ X.env.locals)
    (np : ∀ p ∈ X.pn ++ pins, p.1 ≠ a) : Inv X pins σ (upd H a (ErrAt cls d a)) s where
  ok := I.ok
  os := I.os
  bare := I.bare
  base :=
    { keep := I.base.keep, slot := I.base.slot, there := I.base.there
      free := fun b o e n x => by
        have hb : b ≠ a := fun q => by rw [q, n0] at e; cases e
        rw [upd_ne hb]; exact I.base.free b o e n x
      tups := fun b xs e => by
        have q := I.base.tups b xs e
        rw [upd_ne (ne_of_none q na)]; exact q
      frzs := fun b o xs e => by
        have q := I.base.frzs b o xs e
        rw [upd_ne (ne_of_none q na)]; exact q
      tbls := fun b ps e => by
        obtain ⟨m, q⟩ := I.base.tbls b ps e
        exact ⟨m, by rw [upd_ne (ne_of_none q na)]; exact q⟩ }
  loc := I.loc
  cell := I.cell
  free := by rw [upd_ne (Ne.symm nL)]; exact I.free
  freeC := fun x c e => by
    have hb : c ≠ a := fun q => by
      obtain ⟨v, o, ho, hc⟩ := I.cell x c e
      rw [q, at_] at ho
      cases ho
      rw [hd] at hc
      cases hc
    rw [upd_ne hb]; exact I.freeC x c e
  pin := fun p hp => by
    obtain ⟨h1, h2, h3⟩ := I.pin p hp
    exact ⟨h1, by rw [upd_ne (np p hp)]; exact h2, h3⟩
  hok := fun b u e => by
    by_cases hb : b = a
    · subst hb
      rw [upd_same] at e
      cases e
      exact ⟨⟨oe, vs, at_, z, hd⟩, ⟨oe, at_⟩, fun _ _ ⟨o, v, q, r⟩ k => ⟨o, v, k o q, r⟩⟩
    · rw [upd_ne hb] at e
      exact (I.hok b u e).stay (fun _ _ _ q => q) (fun c q => by rw [upd_ne (ne_of_none q na)]; exact q) fun c xs q => by rw [upd_ne (ne_of_none q na)]; exact q
  len := I.len
/-- the wish of the body of such a try: the clause takes every error of the body; the slot i is the clause's name's -/
def wKeep (K : PySem.W.Frag) (c : Value) (i : Nat) (ts : Addr → Value → Option Addr → TS) (D : Ends) : WX := fun cls d σ H =>
  PySem.W.exmOne K cls c = some true ∧ ∀ a, H a = none → ts a cls d { nx := fun σ' H' => H' a = none → D.nx (σ'.set i none) (upd H' a (ErrAt cls d a)), rt := fun _ _ => False, bk := fun _ _ => False, ct := fun _ _ => False } (σ.set i (some (.ref a))) H
theorem ps_keep {x n : Str} {c : Value} {i : Nat} {body suite : List Stmt} {b₀ : Stmt} {np pos pos' : Pos} {tb : WX → TS} {ts : Addr → Value → Option Addr → TS}
    (hst : X.stack = X.env :: X.outer) (hf : X.env.frame = some X.env.locals) (hex : X.ex = []) (nd : X.N.Nodup) (hi : X.N[i]? = some n) (kn : X.env.kindOf n = some .local) (hc : Names X x c)
    (hb : ∀ (W : WX) (pn : List (Addr × Obj)) (xe : Value → Shared → Prop), Takes (X.tr pn xe) W → PassesOwn (model X.prog X.w) X.A X.env xe → PSs (X.tr pn xe) body (tb W))
    (hsu : ∀ (a : Addr) (oe : Obj) (cls : Value) (d : Option Addr) (pn : List (Addr × Obj)), Zc cls d oe → (∃ vs, oe.data = .fields vs) → PSs (X.suite a ((a, oe) :: pn)) (b₀ :: suite) (ts a cls d)) :
    PS X (.Try body [.ExceptHandler (some (.Name x np)) (some n) (b₀ :: suite) pos'] [] [] pos) (fun D σ H => tb (wKeep X.K c i ts D) D σ H) := by
  constructor
  intro pins s σ H D I h
  have frs_ : X.A.frames = some (X.env :: X.outer) := by rw [I.ok.frames, hst]
  have ok := I.ok
  refine wpAny_Try_except (wpAny_mono ((hb (wKeep X.K c i ts D) (X.pn ++ pins) (fun e s₁ => wpAny (model X.prog X.w) X.A (noteFrame e X.env) (fun _ s₂ => wpAny (model X.prog X.w) X.A (setFlight e none) (fun _ s₃ =>
    wpAny (model X.prog X.w) X.A (handleBy e X.env [.ExceptHandler (some (.Name x np)) (some n) (b₀ :: suite) pos']) (SP X pins D) X.xe s₃) X.xe s₂) X.xe s₁) (fun u s' air => ?_) PassesOwn.looking).run [] s σ H D (I.toTry _) h) (fun f s1 hsp => ?_) fun _ _ z => z)
  · obtain ⟨a, B, sI, pins', σ', H', cls, d, rfl, J0, nb, up, sky, na, os, ag, hexm, hts⟩ := air
    have J : Inv X pins σ' H' sI := J0.ofTry ok
    have Ba : B.get? a = none := by
      rcases sky with q | q | q
      · exact q.2.1
      · exact q.2.1
      · exact q.2.1
    rw [hst] at sky
    show wpAny (model X.prog X.w) X.A (noteFrame (.ref a) X.env) _ _ _
    refine Sky.land Zc.steady frs_ hf sky fun h3 fl3 up3 => ?_
    have J3 : Inv X pins σ' H' { s' with heap := h3 } := J.landed nb fl3.1 (up.trans up3) os ag
    obtain ⟨o3, v3, at3, z3, d3⟩ := fl3.there
    have off : ∀ {hh : Heap} {o : Obj} {vs : Array Value}, hh.FunFrames B (X.env :: X.outer) → hh.get? a = some o → o.data = .fields vs → a ∉ frs (X.env :: X.outer) := by
      intro hh o vs ff e dd hm
      obtain ⟨_, o', e', q⟩ := ff.mem hm
      rw [e] at e'
      cases e'
      exact q _ dd
    have offa := off fl3.2.2.1 at3 d3
    have nL : a ≠ X.env.locals := fun q => offa (List.mem_filterMap.mpr ⟨X.env, List.mem_cons_self, by rw [hf, q]⟩)
    have nF : a ∉ X.fs := fun hm => by
      obtain ⟨e, he, q⟩ := List.mem_filterMap.mp hm
      exact offa (List.mem_filterMap.mpr ⟨e, List.mem_cons_of_mem _ he, q⟩)
    -- a is new: nothing of the state without it stands there
    have nI : sI.heap.get? a = none := by
      cases q : sI.heap.get? a with
      | none => rfl
      | some o =>
        have z := nb a o q (by rw [hst]; exact offa)
        rw [Ba] at z
        cases z
    have n0 : a ∉ X.ex → X.s_0.heap.get? a = none := fun nx => by
      cases q : X.s_0.heap.get? a with
      | none => rfl
      | some o =>
        obtain ⟨o', z⟩ := J.base.there a o q nx
        rw [nI] at z
        cases z
    have npin : ∀ p ∈ X.pn ++ pins, p.1 ≠ a := fun p hp q => by
      have z := (J.pin p hp).1
      rw [q, nI] at z
      cases z
    have S3 := J3.suite at3 d3 na nL nF
    refine wpAny_handleBy_cons (codeAny_handlers_test ?_) (fun q => nomatch q)
    have LT : PySem.W.Looks (model X.prog X.w) h3 (typeOf (.ref a)) cls := fun A Q E s k q => wpAny_typeOf_ref (k _ _ at3) (by rw [z3.1]; exact q)
    have LM := PySem.W.exm_one (M := model X.prog X.w) (J3.kIn) LT hexm
    have look : ∀ {Q : Value → Shared → Prop} {E : Value → Shared → Prop}, Q c { s' with heap := h3 } → wpAny (model X.prog X.w) (X.A.mark (some (.ref a))) (eval (.Name x np) X.env) Q E { s' with heap := h3 } := by
      intro Q E q
      rcases hc with ⟨hg, hdb, hm | ⟨hm, hv, hnn⟩⟩
      · exact ld_glob (X := X.suite a ((a, o3) :: (X.pn ++ pins))) S3 hg hm q hdb
      · exact ld_blt (X := X.suite a ((a, o3) :: (X.pn ++ pins))) S3 hg hm hv q hnn hdb
    refine look (LM.here (codeAny_handlers_suite_as (HandSPX.lands_againZ fl3 fun h4 fl4 up4 => ?_)))
    have J4 : Inv X pins σ' H' { s' with heap := h4 } := J.landed nb fl4.1 ((up.trans up3).trans up4) os ag
    obtain ⟨o4, v4, at4, z4, d4⟩ := fl4.there
    refine store_ok (X := X.suite a ((a, o4) :: (X.pn ++ pins))) (v := .ref a) (J4.suite at4 d4 na nL nF) nd hi (.inl kn) rfl (fun s5 S5 => ?_) (.inr kn)
    refine wpAny_mono ((hsu a o4 cls d (X.pn ++ pins) z4 ⟨_, d4⟩).run [] s5 _ H' _ S5 (hts a na)) (fun f s6 hsp => ?_) (fun _ _ z => False.elim z)
    cases f with
    | next =>
      obtain ⟨σ6, H6, S6, q6⟩ := hsp
      obtain ⟨at6, na6, _⟩ := S6.pin (a, o4) (List.mem_append_left _ List.mem_cons_self)
      have T6 := told_at (S6.unsuite ok) at6 z4 d4 na6 (n0 (by rw [hex]; exact fun z => nomatch z)) nL npin
      exact gone_ok T6 nd hi kn fun s7 J7 => ⟨_, _, J7, q6 na6⟩
    | brk => exact hsp.elim fun _ q => q.elim fun _ q => q.2.elim
    | cont => exact hsp.elim fun _ q => q.elim fun _ q => q.2.elim
    | ret u =>
      obtain ⟨_, _, _, _, _, q⟩ := hsp
      exact q.elim
  · cases f with
    | next =>
      obtain ⟨σ', H', J', q⟩ := hsp
      exact wpAny_execs_nil ⟨σ', H', J'.ofTry ok, q⟩
    | ret u =>
      obtain ⟨v, σ', H', J', r, q⟩ := hsp
      exact ⟨v, σ', H', J'.ofTry ok, r, q⟩
    | brk =>
      obtain ⟨σ', H', J', q⟩ := hsp
      exact ⟨σ', H', J'.ofTry ok, q⟩
    | cont =>
      obtain ⟨σ', H', J', q⟩ := hsp
      exact ⟨σ', H', J'.ofTry ok, q⟩
end
end Hk
end S_Wa
section S_Wb
namespace Hk
open PySem PySem.Spec PyProof.Rows L2
/-- what the written part must say of an own error's class at D, whose errors are asked about -/
structure ErrC (K : PySem.W.Frag) (D : Addr) : Prop where
  ga : PySem.W.findIn K (.ref D) "__getattribute__" = some (some (.builtin "BaseException.__getattribute__"))
  gg : PySem.W.findIn K (.ref D) "__getattr__" = some none
  ex : PySem.W.subIn K (.ref D) (.type "BaseException") = some true
  hd : PySem.W.hasDictIn K D = true
  ci : PySem.W.isClsIn K D = true
  ha : PySem.W.findIn K (.ref D) "__class__" = some (some (.builtin "object.__class__"))
  hn : PySem.W.specialIn K (.builtin "object.__class__") "__get__" = some (some (.builtin "getset_descriptor.__get__"))
  ht : PySem.W.takesIn K (.builtin "object.__class__") = some true
  hm : PySem.W.mroIn K D (.type "object") = some true
/-- the error's own dict, if it has one, is told of -/
def DictAt (H : Hp) (d : Option Addr) (fs : List (Str × V)) : Prop := ∃ dd, d = some dd ∧ H dd = some (.xd fs)
/-- isinstance(e, c) of a kept error -/
def rIsK (K : PySem.W.Frag) : List V → Hp → VK → Prop := fun xs H Q => ∃ (a D : Addr) (d : Option Addr) (fs : List (Str × V)) (c : V) (u : Value) (b : Bool), xs = [.ref a, c] ∧ H a = some (ErrAt (.ref D) d a) ∧ DictAt H d fs ∧ ErrC K D ∧ ClsV c u ∧ PySem.W.kitOne K (.ref D) u = some b ∧ Q (.bl b) H
section
variable {X : Cx} {pins : List (Addr × Obj)} {σ : L2.St} {H : Hp} {s : Shared}
theorem at_inst {a D : Addr} {d : Option Addr} {fs : List (Str × V)} (I : Inv X pins σ H s) (ha : H a = some (ErrAt (.ref D) d a)) (hd : DictAt H d fs) :
    ∃ (oe od : Obj) (mA : Str → Option Value), PySem.W.InstAt s.heap a oe D (some od) ∧ (∀ name, PySem.W.lookIn name od = some (mA name)) ∧ ∀ f, RelO (fs.lookup f) (mA f) := by
  obtain ⟨⟨oe, vs, he, hz, hv⟩, _, _⟩ := (show ObjOk X.prog X.w H s.heap a (ErrAt (.ref D) d a) from I.hok a _ ha)
  obtain ⟨dd, rfl, hdd⟩ := hd
  obtain ⟨mA, hns, hr⟩ := (show ObjOk X.prog X.w H s.heap dd (.xd fs) from I.hok dd _ hdd)
  obtain ⟨od, ho, hl⟩ := lookIn_ns hns
  exact ⟨oe, od, mA, ⟨he, hz.1, by unfold PySem.W.notCls; rw [hv] <;> rfl, by rw [hz.2]; exact ho⟩, hl, hr⟩
theorem call_isKept : CallR X (.builtin "isinstance") (rIsK X.K) := by
  intro pins s σ H xs us Q I r h
  obtain ⟨a, D, d, fs, c, u, b, rfl, ha, hd, C, hc, e, q⟩ := h
  cases r with
  | cons rx rr =>
    cases rr with
    | cons rt rr =>
      cases rr
      cases rx
      have ec := hc.eq rt
      subst ec
      obtain ⟨oe, od, mA, J, _, _⟩ := at_inst I ha hd
      exact PySem.W.kia_one (PySem.W.kitx_exc C.ci C.ga C.gg C.ex C.ha C.hn C.ht C.hm) I.kIn J e (fun z => nomatch z) fun tk => ⟨.bl b, H, I.kept (t' := tk) fun _ _ z => z, rfl, q⟩
/-- of either -/
theorem call_isAny : CallR X (.builtin "isinstance") (fun xs H Q => rIsi X.K xs H Q ∨ rIsK X.K xs H Q) := by
  intro pins s σ H xs us Q I r h
  rcases h with h | h
  · exact call_isi _ _ _ _ _ _ _ I r h
  · exact call_isKept _ _ _ _ _ _ _ I r h
/-- e.f, e a kept error -/
def tKeptF (K : PySem.W.Frag) (f : Str) (te : TE) : TE := fun σ H Q => te σ H fun x H1 => ∃ (a D : Addr) (d : Option Addr) (fs : List (Str × V)) (v : V), x = .ref a ∧ H1 a = some (ErrAt (.ref D) d a) ∧ DictAt H1 d fs ∧ ErrC K D ∧ PySem.W.findIn K (.ref D) f = some none ∧ fs.lookup f = some v ∧ Q v H1
theorem pe_keptF {e : Expr} {te : TE} {pos : Pos} {f : Str} (he : PE X e te) (hb : attributeBase e f X.env (eval e X.env) = eval e X.env := by rfl) : PE X (.Attribute e f pos) (tKeptF X.K f te) := by
  refine ⟨fun pins s σ H Q I h => attr_of hb (thn (he.run pins s σ H _ I h) fun u s1 hh => ?_)⟩
  obtain ⟨x, H1, I1, rx, a, D, d, fs, v, rfl, ha, hd, C, hno, hl, q⟩ := hh
  obtain rfl : u = Value.ref a := rx
  obtain ⟨oe, od, mA, J, look, rel⟩ := at_inst I1 ha hd
  obtain ⟨w, hw, rw_⟩ := RelO.some_of (v := v) (o := mA f) (by rw [← hl]; exact rel f)
  exact HandSPX.exc_get I1.kIn J C.ga C.gg C.ex (PySem.W.findObj_own C.hd hno rfl (by rw [look, hw])) (handed_of rw_) ⟨v, H1, I1.tok _, rw_, q⟩
end
end Hk
end S_Wb
section S_Wc
set_option maxHeartbeats 2000000
namespace PySem
namespace PartX
open PySem.W PySem.Calls PyProof.Rows PySem.HandSPX
/-! ### the text of __init__ -/
def iA (p1 p2 : Pos) : Arguments := { posonlyargs := [], args := [{ arg := "self", annotation := none, pos := p1 }, { arg := "part", annotation := none, pos := p2 }], vararg := none, kwonlyargs := [], kw_defaults := [], kwarg := none, defaults := [] }
def iB (q1 q2 q3 q4 : Pos) : List Stmt := [.Assign [.Attribute (.Name "self" q1) "part" q2] (.Name "part" q3) q4]
def iS : Scope := { kind := .function, names := [(PySem.Str.ofString "self", .local), (PySem.Str.ofString "part", .local)], isGenerator := false, isCoroutine := false, more := [] }
/-- what the written part says of Low, at C, and of its __init__, at fI -/
structure PartTxt (K : Frag) (mg : Str → Option Value) (nmE qI : Str) (C fI : Addr) : Prop where
  gC : mg nmE = some (.ref C)
  cls : ∃ nm q N bs bm sn sub ab col dd k0 k1 k2 k3 k5, K.lookup C = some (excClassObj nm q C N bs bm true sn sub ab col dd k0 k1 k2 k3 k5 "ValueError.__new__") ∧ refsVE bm = true
  sa : findIn K (.ref C) "__setattr__" = some (some (.builtin "object.__setattr__"))
  ga : findIn K (.ref C) "__getattribute__" = some (some (.builtin "BaseException.__getattribute__"))
  gg : findIn K (.ref C) "__getattr__" = some none
  noN : findIn K (.ref C) "part" = some none
  iC : findIn K (.ref C) "__init__" = some (some (.ref fI))
  tC : typeIn K (.ref fI) = some (.type "function")
  kC : keepIn K (.ref C) = true
  exC : subIn K (.ref C) (.type "BaseException") = some true
  tyC : typeIn K (.ref C) = some (.type "type")
  hdC : hasDictIn K C = true
  fn : ∃ (oc : Value) (od : Option Addr) (doc pm : Value) (an : Option Addr) (cdv ct : Value) (osl : Array (Option Value)) (p1 p2 q1 q2 q3 q4 : Pos),
    K.lookup fI = some ⟨oc, od, .func (fnOf "__init__" qI (iA p1 p2) (iB q1 q2 q3 q4) iS .none .none doc pm an cdv ct), osl⟩ ∧ codeIn K cdv qI = true
theorem one_size (v : Value) : [v].length ≤ sizeLine := by
  rw [sizeLine_eq]
  exact (by decide : 1 ≤ 16777216)
theorem kept_but {K : Frag} {h h' : Heap} {x : Addr} (X : K.In h) (hx : K.lookup x = none) (k : ∀ b o, b ≠ x → h.get? b = some o → h'.get? b = some o) : K.In h' := fun a o e =>
  k a o (fun z => by rw [z, hx] at e; cases e) (X a o e)
theorem ldC {M : Model} {s : Shared} {name : Str} {scope : Scope} {L a : Addr} {cd : Value} {m : Str → Option Value} {x : Str} {pos : Pos} {v : Value} {Q : Value → Shared → Prop} {A : Around} {E : Value → Shared → Prop} (hn : s.heap.Ns L m) (hv : m x = some v) (h : Q v s)
    (hk : scope.kind = .function := by rfl) (hl : (envOfC name scope L a cd).kindOf x = some .local := by rfl) (hd : (x == ("__debug__" : Str)) = false := by decide) :
    wpAny M A (eval (.Name x pos) (envOfC name scope L a cd)) Q E s := wpAny_Name (wpAny_loadName_local hk hl hn hv h) hd
/-- what __init__ leaves of a fresh exception at x -/
structure InitEnd (h h' : Heap) (x C dx t1 : Addr) (v : Value) : Prop where
  keep : ∀ b o, b ≠ x → h.get? b = some o → h'.get? b = some o
  obj : h'.get? x = some { cls := .ref C, dict := some dx, data := .fields #[.ref t1, .none, .none, .none, .bool false, .none] }
  dbig : h.objs.size ≤ dx
  dne : dx ≠ x
  ns : h'.Ns1 dx (fun y => if y = "part" then some v else none)
/-- a made Low -/
structure OwnMade (h h' : Heap) (e C d : Addr) (v : Value) : Prop where
  keep : ∀ b o, h.get? b = some o → h'.get? b = some o
  new : h.objs.size ≤ e
  obj : ∃ oe vs, h'.get? e = some oe ∧ oe.cls = .ref C ∧ oe.dict = some d ∧ oe.data = .fields vs ∧ vs[1]? = some .none
  dbig : h.objs.size ≤ d
  dne : d ≠ e
  ns : h'.Ns1 d (fun y => if y = "part" then some v else none)
section
variable {prog : Program} {w : World} {A : Around} {E : Value → Shared → Prop} {R : Result → Shared → Prop} {s : Shared} {K : Frag} {mg : Str → Option Value} {nmE qI : Str} {C fI : Addr}
theorem part_init (T : PartTxt K mg nmE qI C fI) {x t0 : Addr} {v : Value} (X : K.In s.heap) (hlim : s.heap.NoLimit) (hx : s.heap.get? x = some (excO C t0)) (hnx : K.lookup x = none) (hroom : A.depth < recursionLimit)
    (hq : ∀ h' tk dx, InitEnd s.heap h' x C dx t0 v → R (.ok (.ret .none)) { s with heap := h', toks := tk }) :
    codeAny (model prog w) A (.call (.ref fI) ⟨[.ref x, v], []⟩) R s := by
  obtain ⟨oc, od, doc, pm, an, cdv, ct, osl, p1, p2, q1, q2, q3, q4, ho, hcd⟩ := T.fn
  obtain ⟨nm, q, N, bs, bm, sn, sub, ab, col, dd, k0, k1, k2, k3, k5, hC, hbm⟩ := T.cls
  have hcl : clsIn K C = some { name := nm, bases := bs, mro := .ref C :: bm, ns := N, qualname := q, hasDict := true, slotNames := sn, subclasses := sub, abstract := ab, collection := col, hasDel := false } := by unfold clsIn; rw [hC] <;> rfl
  refine Att.call_fn (binds := [("self", .ref x), ("part", v)]) X hlim ho hcd hroom (BindsTo.of_eq (by first | rfl | with_unfolding_all rfl)) (by first | rfl | decide | with_unfolding_all rfl) (fun s₁ IC => ?_) rfl rfl rfl
  obtain ⟨h₁, tk₁, rfl⟩ := IC.toInCall.same
  have k : ∀ b o, s.heap.get? b = some o → h₁.get? b = some o := IC.toInCall.keep
  have hn := IC.toInCall.ns
  have hxL : s.heap.objs.size ≠ x := Nat.ne_of_gt (Heap.lt_size hx)
  have X₁ : K.In h₁ := X.keeps k
  have hx₁ := k _ _ hx
  -- self.by = by
  show wpAny _ _ (execs _ _) _ _ _
  refine wpAny_execs_cons (plainObj_wpAny_Assign_Attribute ?_)
  refine ldC (v := v) hn (by first | rfl | with_unfolding_all rfl | kernel_rfl) (ldC (v := .ref x) hn (by first | rfl | with_unfolding_all rfl | kernel_rfl) ?_)
  refine set_plain X₁ (ox := excO C t0) (od := none) ⟨hx₁, rfl, rfl, trivial⟩ T.sa ?_
  refine exc_osa X₁ hx₁ hcl (show refsVE (.ref C :: bm) = true from hbm) rfl T.noN (fun h₃ tk₃ dx k₃ dn dne hx₃ hn₃ => ?_)
  show wpAny _ _ (execs _ _) _ _ _
  have z : s.heap.objs.size < h₁.objs.size := hn.lt
  exact wpAny_execs_nil (hq h₃ tk₃ dx ⟨fun b o hb e => k₃ b o hb (k b o e), hx₃, Nat.le_of_lt (Nat.lt_of_lt_of_le z dn), dne, hn₃⟩)
theorem part_made (T : PartTxt K mg nmE qI C fI) {v : Value} (X : K.In s.heap) (hlim : s.heap.NoLimit) (hroom : A.depth + 1 < recursionLimit)
    (hq : ∀ h' tk e d, OwnMade s.heap h' e C d v → R (.ok (.ret (.ref e))) { s with heap := h', toks := tk }) :
    codeAny (model prog w) A (.call (.ref C) ⟨[v], []⟩) R s := by
  obtain ⟨nm, q, N, bs, bm, sn, sub, ab, col, dd, k0, k1, k2, k3, k5, hC, hbm⟩ := T.cls
  obtain ⟨hp, g, dr, tk, os⟩ := s
  have k : ∀ b o, hp.get? b = some o → ((hp.push (kdv_tup [v])).push (excO C hp.objs.size)).get? b = some o := fun b o e => Heap.get?_push_of_some _ (Heap.get?_push_of_some _ e)
  have hget : ((hp.push (kdv_tup [v])).push (excO C hp.objs.size)).get? (hp.objs.size + 1) = some (excO C hp.objs.size) := by heap_get
  have hnx : K.lookup (hp.objs.size + 1) = none := by
    cases e : K.lookup (hp.objs.size + 1) with
    | none => rfl
    | some o =>
      have z : hp.get? (hp.objs.size + 1) = some o := X _ _ e
      exact absurd (Nat.lt_of_succ_lt (Heap.lt_size z)) (Nat.lt_irrefl _)
  refine call_own F.excBase_ValueError (fun X => refsVE_contains X bm hbm) (X _ _ hC) (looks_findIn X T.iC) (fun self => bind_fn X self T.tC) (one_size v) ?_
  refine part_init (s := ⟨(hp.push (kdv_tup [v])).push (excO C hp.objs.size), g, dr, tk, os⟩) T (X.keeps k) (hlim.keeps k) hget hnx ?_ fun h' tk' dx ⟨k', hx, dn, dne, hns⟩ => ?_
  · show A.depth + 1 < recursionLimit
    exact hroom
  · have old : ∀ b o, hp.get? b = some o → h'.get? b = some o := fun b o e => k' b o (Nat.ne_of_lt (Nat.lt_succ_of_lt (Heap.lt_size e))) (k b o e)
    have z : hp.objs.size + 1 + 1 ≤ dx := by
      first
        | (simpa only [Heap.size_push] using dn)
        | exact dn
        | (have q := dn; rw [Heap.size_push, Heap.size_push] at q; exact q)
    exact ⟨rfl, hq h' tk' (hp.objs.size + 1) dx ⟨old, Nat.le_succ _, ⟨_, _, hx, rfl, rfl, rfl, rfl⟩, Nat.le_trans (Nat.le_trans (Nat.le_succ _) (Nat.le_succ _)) z, dne, hns⟩⟩
end
end PartX
end PySem
namespace L2
open PySem PySem.Spec PyProof.Rows
theorem relO_part {v : V} {v' : Value} (r : RelV v v') (f : Str) : RelO (List.lookup f [(("part" : Str), v)]) (if f = "part" then some v' else none) := by
  by_cases hw : f = "part"
  · subst hw
    rw [if_pos rfl]
    have q : List.lookup ("part" : Str) [(("part" : Str), v)] = some v := by simp [List.lookup]
    rw [q]
    exact r
  · rw [if_neg hw]
    have qw : (f == ("part" : Str)) = false := by simpa using hw
    have q2 : List.lookup f [(("part" : Str), v)] = none := by simp [List.lookup, qw]
    rw [q2]
    trivial
section
variable {X : Cx} {nmE qI : Str} {C fI : Addr}
/-- Low(e) -/
def tMkPart (C : Addr) (ta : TA) : St → Hp → XK → Prop := fun σ H Q => ta σ H fun vs H1 => ∃ v, vs = [v] ∧ ∀ d, H1 d = none → Q (.ref C) (some d) (upd H1 d (.xd [(("part" : Str), v)]))
theorem pmk_part {a : Expr} {ta : TA} {p pos : Pos} {k : Nat} (T : PySem.PartX.PartTxt X.K X.mg nmE qI C fI) (hr : Room k X.A) (ha : PA X [a] ta) (hg : Gl X nmE) (hdb : (nmE == ("__debug__" : Str)) = false := by decide)
    (he : starEach (a :: []) X.env = (false, eval a X.env) :: starEach [] X.env := by rfl) (hpl : (backTo pos (starEach [] X.env)).any (·.1) = false := by rfl) :
    PMk X (.Call (.Name nmE p) [a] [] pos) (tMkPart C ta) := by
  intro pins s σ H Q I h
  refine wpAny_Call_Name_kw (ld_glob I hg T.gC ?_ hdb)
  refine PySem.W.callWith_K (h₀ := X.base) I.ok.mod.kin T.kC (thn (ha.run pos pins s σ H _ I h) fun us s1 hh => ?_) he hpl
  obtain ⟨vs, H1, I1, r1, v, ev, q1⟩ := hh
  subst ev
  refine ⟨I1.kIn, ?_⟩
  cases r1 with
  | cons rv rn =>
    rename_i v' us'
    cases rn
    show wpAny _ _ (call (.ref C) [v']) _ _ _
    have hlim := I1.nolimit
    obtain ⟨hp, g, dr, tk, os⟩ := s1
    refine wpAny_call (PySem.PartX.part_made T I1.kIn hlim (by have := hr.dp; omega) fun h' tk' e d M => ?_)
    show MkP X pins σ Q (.ref e) ⟨h', g, dr, tk', os⟩
    obtain ⟨oe, fv, hoe, hc, hd, hdat, h1⟩ := M.obj
    have hns := M.ns
    obtain ⟨G', g1, g2⟩ := restrict h' fun b => decide (b ≠ e)
    have gk : ∀ b, b ≠ e → G'.get? b = h'.get? b := fun b hb => g1 b (decide_eq_true hb)
    have ge : G'.get? e = none := g2 e (by simp)
    have old : ∀ b o, hp.get? b = some o → G'.get? b = some o := fun b o q => (gk b (Nat.ne_of_lt (Nat.lt_of_lt_of_le (Heap.lt_size q) M.new))).trans (M.keep b o q)
    have ob : ObjOk X.prog X.w (upd H1 d (.xd [(("part" : Str), v)])) G' d (.xd [(("part" : Str), v)]) :=
      ⟨_, hns.at (fun o q => (gk d M.dne).trans q), fun f => relO_part rv f⟩
    have J : Inv X pins σ (upd H1 d (.xd [(("part" : Str), v)])) ⟨G', g, dr, tk', os⟩ := I1.laid (t' := tk') old M.dbig ob
    refine ⟨e, oe, fv, ⟨G', g, dr, tk', os⟩, _, .ref C, some d, rfl, J, fun b o q => ?_, ge, hoe, ⟨hc, hd⟩, hdat, h1, ?_, rfl, I1.bare, raises_own T.exC T.tyC, q1 d (I1.hok.fresh M.dbig)⟩
    · by_cases hb : b = e
      · have q' : G'.get? b = some o := q
        rw [hb, ge] at q'; cases q'
      · exact (gk b hb).symm.trans q
    · rw [upd_ne (Ne.symm M.dne)]
      exact I1.hok.fresh M.new
/-- raise Low(e) -/
def tRaisePart (C : Addr) (W : WX) (ta : TA) : TS := fun _ σ H => tMkPart C ta σ H fun cls d H' => W cls d σ H'
theorem ps_raisePart {a : Expr} {ta : TA} {W : WX} {p pos pos2 : Pos} {k : Nat} (hc : X.calm = true) (T : PySem.PartX.PartTxt X.K X.mg nmE qI C fI) (hr : Room k X.A) (tk : Takes X W) (ha : PA X [a] ta) (hg : Gl X nmE) (hdb : (nmE == ("__debug__" : Str)) = false := by decide)
    (he : starEach (a :: []) X.env = (false, eval a X.env) :: starEach [] X.env := by rfl) (hpl : (backTo pos (starEach [] X.env)).any (·.1) = false := by rfl) :
    PS X (.Raise (some (.Call (.Name nmE p) [a] [] pos)) none pos2) (tRaisePart C W ta) := ps_raise hc tk (pmk_part T hr ha hg hdb he hpl)

end
end L2
end S_Wc
section S_Wd
namespace Hk
open PySem PySem.Spec PyProof.Rows L2 LamX
theorem takes_len {X : Cx} {W : WX} (tk : L2.Takes X W) : L2.Takes X (fun cls d σ H => σ.length = X.N.length → W cls d σ H) := fun u s' ⟨a, B, sI, pins, σ, H, cls, d, e, I, nb, up, sky, na, os, ag, w⟩ =>
  tk u s' ⟨a, B, sI, pins, σ, H, cls, d, e, I, nb, up, sky, na, os, ag, w I.len⟩
abbrev nAsk : List Str := ["ask", "caught", "error"]
/-- caught = None / try: ask() / except E as error: caught = error / return ret -/
def THeard (K : PySem.W.Frag) (CS : Addr) (tr : TE) : (XK → Hp → VK → Prop) → Hp → VK → Prop := fun tl H Q => ∀ f : Addr,
  tl (fun cls d H' => PySem.W.exmOne K cls (.ref CS) = some true ∧ ∀ a, H' a = none → ∀ σ' : L2.St, σ'.length = 3 → σ'[1]? = some (some (.ref a)) → tr σ' (upd H' a (ErrAt cls d a)) Q) H
    fun _ H' => tr [some (.ref f), some .non, none] H' Q
abbrev cxA (X : Cx) (x : Str) (sg : Scope) (g : Addr) (cdg : Value) (A : Around) (s : Shared) (H : Hp) : Cx := (cxOf C8.CX0 X.prog X.w X.K X.mg X.base nAsk x sg g cdg A X.stack s H C8.E0).nox
theorem heard_gives {X : Cx} {x e q : Str} {sg : Scope} {g CS : Addr} {cdg : Value} {j : Nat} {rt : Expr} {tr : TE} {p1 p2 p3 p4 p5 p6 p7 p8 p9 r1 r2 r3 r4 : Pos} (Sg : FnScope nAsk ["ask"] sg) (k1 : sg.names.lookup ("caught" : Str) = some NameKind.local) (k2 : sg.names.lookup ("error" : Str) = some NameKind.local)
    (hge : sg.names.lookup e = some .globalImplicit) (hme : X.mg e = some (.ref CS)) (hde : (e == ("__debug__" : Str)) = false)
    (hrt : ∀ (A : Around) (s : Shared) (H : Hp), PE (cxA X x sg g cdg A s H) rt tr) :
    GivesTo X nAsk x sg g cdg [.Assign [.Name "caught" p1] (.Constant .none j p2) p3, .Try [.Expr (.Call (.Name "ask" r1) [] [] r2) r3] [.ExceptHandler (some (.Name e p4)) (some "error") [.Assign [.Name "caught" p5] (.Name "error" p6) p7] p8] [] [] p9, .Return (some rt) r4] "ask" q (THeard X.K CS tr) := by
  intro f c' s H Q tl act hc h
  have gE : Gl (cxA X x sg g cdg X.A s H) e := hge
  have l1 : ∀ {Y : Cx}, Y.env.scope = sg → (Y.fn "caught" = true ∨ Y.env.scope.names.lookup ("caught" : Str) = some NameKind.local) := fun e => .inr (by rw [e]; exact k1)
  refine ⟨_, pss_cons (ps_set (X := cxA X x sg g cdg X.A s H) (i := 1) Sg.nd rfl (Or.inl k1) pe_non rfl (l1 rfl)) (pss_cons (ps_keep (X := cxA X x sg g cdg X.A s H) (i := 2) (c := .ref CS) (ts := fun _ _ _ => tAsg (tVar 2) (gName 1))
      (tb := fun W D σ H => ∃ Ech : XK, (∀ cls d σ' H', Ech cls d H' → σ'.length = 3 → W cls d σ' H') ∧ σ[0]? = some (some (.ref f)) ∧ H c' = some (CodeO c' q) ∧ tl Ech H (fun _ H' => D.nx σ H'))
      rfl rfl rfl Sg.nd rfl k2 ⟨gE, hde, Or.inl hme⟩ (fun W pn xe tk _ => ?_) (fun a oe cls d pn _ _ => pss_one (ps_set (i := 1) Sg.nd rfl (Or.inl k1) (pe_var (i := 2) rfl (Or.inl k2)) rfl (l1 rfl)))) (pss_one (ps_ret (hrt X.A s H)))), ?_⟩
  · refine ⟨fun pins s' σ H' D I h' => ?_⟩
    obtain ⟨Ech, hW, h1, h2, h3⟩ := h'
    have hp := act (fun cls d σ H => σ.length = nAsk.length → W cls d σ H) pn xe Ech r1 r2 (takes_len tk) hW
    exact (pss_one (ps_expr (pos := r3) hp)).run pins s' σ H' D I ⟨h1, h2, h3⟩
  · have h' : tl (fun cls d H' => PySem.W.exmOne X.K cls (.ref CS) = some true ∧ ∀ a, H' a = none → ∀ σ' : L2.St, σ'.length = 3 → σ'[1]? = some (some (.ref a)) → tr σ' (upd H' a (ErrAt cls d a)) Q) H (fun _ H' => tr [some (V.ref f), some .non, none] H' Q) := h f
    refine ⟨fun cls d H' => PySem.W.exmOne X.K cls (.ref CS) = some true ∧ ∀ a, H' a = none → ∀ σ' : L2.St, σ'.length = 3 → σ'[1]? = some (some (.ref a)) → tr σ' (upd H' a (ErrAt cls d a)) Q, ?_, rfl, hc, h'⟩
    intro cls d σ' H' hh hl
    obtain ⟨he, hk⟩ := hh
    refine ⟨he, fun a na => ?_⟩
    exact ⟨.ref a, by rw [List.getElem?_set_self (by omega)] <;> rfl, fun na' => hk a na' _ (by simp [hl]) (by rw [List.getElem?_set_ne (by decide), List.getElem?_set_self (by simp [hl])] <;> rfl)⟩
end Hk
end S_Wd
section S_We
namespace Hk
open PySem PySem.Spec PyProof.Rows L2 LamX Tl
/-- the law's own call where no repr is under way, its code object's table tracked -/
theorem law_gT {P : Program} {w : World} {K : PySem.W.Frag} {mg mb : Str → Option Value} {k : Nat} {fa a c T : Addr} {fd : FuncData} {x : Str} {sp : Sp} {s₁ : Shared} {vs : List Value} {ns : List Int}
    (kin : K.In s₁.heap) (hns : s₁.heap.Ns mainGlobals mg) (hb : s₁.heap.Ns builtinsNs mb) (hbb : ∀ x : Str, x ≠ "__name__" → mb x = bootBuiltins x) (hlim : s₁.heap.NoLimit) (hg : s₁.gens = #[])
    (hT : s₁.heap.get? T = some { cls := .none, data := .fields #[] }) (nT : K.lookup T = none) (hC : PySem.W.CodeHd s₁.heap c T)
    (hbm : ∃ (bm : Addr) (ob : Obj), mg "__builtins__" = some (.ref bm) ∧ bm ≠ builtinsNs ∧ s₁.heap.get? bm = some ob ∧ ob.cls = .type "module" ∧ ob.dict = some builtinsNs ∧ ob.data = .plain)
    (ha : s₁.heap.get? a = some { cls := .type "list", data := .seq vs.toArray }) (hi : IntsAre vs ns) (hl : ns.length ≤ sizeLine) (hr : Room k callerA)
    (F : ∀ base : Heap, K.In base → base.Ns mainGlobals mg → TabB base mg c T → FnG P w K mg base k fa fd [x] sp) (hbind : ∀ (s : Shared) (u : Value), BindsTo s fd ⟨[u], []⟩ [(x, u)])
    (hsp : ∀ H : Hp, H T = some (.tbl #[]) → SqL K H a (ns.map V.int) → sp [.ref a] H (fun v _ => v = .bl true) fun _ _ _ => False) :
    codeAny (model P w) callerA (.call (.ref fa) ⟨[.ref a], []⟩) (fun r s' => r = .ok (.ret (.bool true)) ∧ OldK s₁.heap s'.heap ∧ s'.os = s₁.os ∧ AllBare s'.gens) s₁ := by
  have rv := vals_ints hi
  have aT : a ≠ T := fun z => by
    rw [z, hT] at ha
    have z' : Data.fields #[] = Data.seq vs.toArray _ := congrArg Obj.data (Option.some.inj ha)
    cases z'
  have run : ∀ H : Hp, H T = some (.tbl #[]) → SqL K H a (ns.map V.int) → HOk P w H s₁.heap → (∀ b u, H b = some u → b = T ∨ (b = a ∧ K.lookup a = none ∧ ∃ o xs, u = .frz o (.lst xs))) →
      codeAny (model P w) callerA (.call (.ref fa) ⟨[.ref a], []⟩) (fun r s' => r = .ok (.ret (.bool true)) ∧ OldK s₁.heap s'.heap ∧ s'.os = s₁.os ∧ AllBare s'.gens) s₁ := by
    intro H hHT hS hok hA
    have keepB : ∀ {b : Addr} {o : Obj}, s₁.heap.get? b = some o → (∀ vs n, o.data ≠ .seq vs n) → o.data ≠ .fields #[] → (hidT s₁.heap H).get? b = some o := fun {b o} e h1 h2 => by
      refine hidT_get e ?_
      cases q : H b with
      | none => rfl
      | some u =>
        rcases hA b u q with e1 | ⟨e1, _⟩
        · rw [e1, hT] at e
          cases e
          exact absurd rfl h2
        · rw [e1, ha] at e
          cases e
          exact absurd rfl (h1 _ _)
    have ns_of : ∀ {b : Addr} {m : Str → Option Value}, s₁.heap.Ns b m → (hidT s₁.heap H).Ns b m := fun {b m} hm => by
      obtain ⟨o, es, ep, e, d, r⟩ := hm
      exact ⟨o, es, ep, keepB e (fun vs n z => by rw [d] at z; cases z) (fun z => by rw [d] at z; cases z), d, r⟩
    have kb : K.In (hidT s₁.heap H) := fun b o e => hidT_get (kin b o e) (by
      cases q : H b with
      | none => rfl
      | some u =>
        rcases hA b u q with e1 | ⟨e1, e2, _⟩
        · rw [e1, nT] at e
          cases e
        · rw [e1, e2] at e
          cases e)
    have hM : Mod K mg (hidT s₁.heap H) := ⟨kb, ns_of hns, ⟨mb, ns_of hb, hbb⟩, hlim.elim fun mc h => ⟨mc, ns_of h.1, h.2⟩⟩
    have e0 : Env0 P w K mg (hidT s₁.heap H) callerA [] s₁ H := ⟨rfl, hM, fun _ _ e => of_hidT e, by rw [hidT_size] <;> exact Nat.le_refl _, trivial, fun _ hb => (nomatch hb), hok, .of_eq hg⟩
    have TB : TabB (hidT s₁.heap H) mg c T := by
      refine ⟨?_, ?_, fun z => ?_⟩
      · obtain ⟨o, us, file, tf, flags, tg, inF, text, tt, e1, r1, r2, r3, r4⟩ := hC
        exact ⟨o, us, file, tf, flags, tg, inF, text, tt, keepB e1 (fun vs n z => by rw [r2] at z; cases z) (fun z => by rw [r2] at z; cases z; simp at r3), r1, r2, r3, r4⟩
      · obtain ⟨bm, ob, b1, b2, b3, b4, b5, b6⟩ := hbm
        refine ⟨bm, ob, b1, b2, fun q => ?_, fun q => ?_, keepB b3 (fun vs n z => by rw [b6] at z; cases z) (fun z => by rw [b6] at z; cases z), b4, b5, b6⟩
        · obtain ⟨o, es, ep, e, hd, _⟩ := hns
          rw [q, e] at b3
          cases b3
          rw [hd] at b6
          cases b6
        · rw [q, hT] at b3
          cases b3
          cases b6
      · obtain ⟨o, es, ep, e, hd, _⟩ := hns
        rw [z, hT] at e
        cases e
        cases hd
    refine codeAny_mono ((F _ kb (ns_of hns) TB).go rfl hr e0 (us := [.ref a]) (hbind s₁ (.ref a)) (vs := [.ref a]) (.cons rfl .nil) (hsp H hHT hS)) fun r s' h => ?_
    match r, h with
    | .ok (.ret u), h =>
      obtain ⟨v, H', os, bare, un, hok', r', q⟩ := h
      cases (show v = .bl true from q)
      cases (show u = Value.bool true from r')
      obtain ⟨more, zT⟩ := un.tbls T #[] hHT
      have grown : s'.heap.get? T = some { cls := .none, data := .fields more } := by
        have q := hok' T _ zT
        rw [Array.empty_append] at q
        exact q
      have others : ∀ b o, b ≠ T → s₁.heap.get? b = some o → s'.heap.get? b = some o := fun b o nb e => by
        cases q : H b with
        | none => exact un.keep b o e q (fun y => (nomatch y)) (fun y => (nomatch y))
        | some u =>
          rcases hA b u q with z | ⟨_, _, ob, xs, rfl⟩
          · exact absurd z nb
          · obtain ⟨e1, _⟩ := hok b _ q
            obtain ⟨e2, _⟩ := hok' b _ (un.frzs b ob _ q)
            rw [e] at e1
            cases e1
            exact e2
      refine ⟨rfl, ⟨fun b o e => ?_, fun b o e => ?_⟩, os, bare⟩
      · by_cases hb : b = T
        · subst hb
          rw [hT] at e
          cases e
          exact .inr (.inl ⟨(hC.tab hT).isCodeTable, rfl, #[], more, rfl, by rw [Array.empty_append]; exact grown⟩)
        · exact .inl (others b o hb e)
      · by_cases hb : b = T
        · subst hb
          exact ⟨_, grown⟩
        · exact ⟨o, others b o hb e⟩
    | .error e, h => exact False.elim h
    | .ok .next, h => exact False.elim h
    | .ok .brk, h => exact False.elim h
    | .ok .cont, h => exact False.elim h
  have tT : (if T = T then some (HO.tbl #[]) else none) = some (HO.tbl #[]) := if_pos rfl
  cases hk : K.lookup a with
  | some o =>
    have e := kin a o hk
    rw [ha] at e
    cases e
    refine run (fun b => if b = T then some (.tbl #[]) else none) tT (.inr ⟨_, vs.toArray, _, hk, rfl, rfl, rfl, ?_, by simpa using rv⟩) (fun b u z => ?_) (fun b u z => ?_)
    · rw [List.size_toArray, hi.length]
      exact hl
    · dsimp only at z
      by_cases hb : b = T
      · rw [if_pos hb] at z
        cases z
        rw [hb]
        exact hT
      · rw [if_neg hb] at z
        cases z
    · skip
      by_cases hb : b = T
      · exact .inl hb
      · rw [if_neg hb] at z
        cases z
  | none =>
    refine run (fun b => if b = T then some (.tbl #[]) else if b = a then some (.frz { cls := .type "list", data := .seq vs.toArray } (.lst (ns.map V.int))) else none) (if_pos rfl) (.inl (.inr ⟨_, by dsimp only; rw [if_neg aT, if_pos rfl]⟩)) (fun b u z => ?_) fun b u z => ?_
    · dsimp only at z
      by_cases hb : b = T
      · rw [if_pos hb] at z
        cases z
        rw [hb]
        exact hT
      · rw [if_neg hb] at z
        by_cases hb2 : b = a
        · rw [if_pos hb2] at z
          cases z
          subst hb2
          exact ⟨ha, by rw [List.length_map]; exact hl, vs, _, rv, ha⟩
        · rw [if_neg hb2] at z
          cases z
    · skip
      by_cases hb : b = T
      · exact .inl hb
      · rw [if_neg hb] at z
        by_cases hb2 : b = a
        · rw [if_pos hb2] at z
          cases z
          exact .inr ⟨hb2, hk, _, _, rfl⟩
        · rw [if_neg hb2] at z
          cases z
theorem walk_gT {l : PySem.W.OpenLaw} {n k : Nat} {q : Program} {loose : List Str} {XP : (Str → Option Value) → Heap → Prop} {YP : World → Heap → Prop} {d : DefRec} {K : Params → PySem.W.Frag} {x : Str}
    (hn : l.most = some n) (hn2 : n ≤ sizeLine) (hdf : d.params.defaults = []) (hr : Room k callerA) (hrec : ((recsOf q).any fun e => e.name == d.name) = true) (hY : ∀ (w : World) (h : Heap), YP w h → (K w.params).In h)
    (F : ∀ (w : World) (mg : Str → Option Value) (fa : Addr) (h : Heap), (K w.params).In h → h.Ns mainGlobals mg → mg d.name = some (.ref fa) →
      ∃ (fd : FuncData) (T c : Addr) (o : Obj) (sp : Sp) (e : Value) (dd : Option Addr) (vs : Array Value) (sl : Array (Option Value)), (K w.params).lookup fa = some o ∧ o.data = .func fd ∧ fd.code = .ref c ∧ (K w.params).lookup c = some ⟨e, dd, .fields vs, sl⟩ ∧ vs[11]? = some (.ref T) ∧ (K w.params).lookup T = none ∧ (∀ (s : Shared) (u : Value), BindsTo s fd ⟨[u], []⟩ [(x, u)]) ∧
        (∀ (H : Hp) (a : Addr) (ns : List Int), ns.length ≤ n → H T = some (.tbl #[]) → SqL (K w.params) H a (ns.map V.int) → sp [.ref a] H (fun v _ => v = .bl true) fun _ _ _ => False) ∧
        ∀ base : Heap, (K w.params).In base → base.Ns mainGlobals mg → TabB base mg c T → FnG l.prog w (K w.params) mg base k fa fd [x] sp) :
    PySem.W.WalkO q loose XP YP l.row.toRowW d [] (fun f vs => PySem.call f vs) := by
  refine Att.attach_call hn hdf fun w s₀ s₁ mg mb fa o pm cd doc a vs ns G Y ho hd hcd hmg hobj hints hlen hg => ?_
  have kin := hY w _ Y
  obtain ⟨fd, T, c, o1, sp, e, dd, us, sl, k1, k2, k3, k4, k5, nT, h1, hs, h2⟩ := F w mg fa _ kin G.T.g hmg
  obtain ⟨dL, hm, hn1⟩ := List.any_eq_true.mp hrec
  have hn2' : dL.name = d.name := beq_iff_eq.mp hn1
  obtain ⟨a', o', fd', c', P', g1, g2, g3, g4, g5, g6⟩ := G.T.tab dL hm
  rw [hn2', hmg] at g1
  cases g1
  have q1 := kin _ _ k1
  rw [q1] at g2
  cases g2
  rw [k2] at g3
  cases g3
  rw [k3] at g4
  cases g4
  have hC := PySem.W.CodeHd.of g5 g6
  obtain ⟨⟨oc, vc, e1, _, e3, e4⟩, hP⟩ := g6
  have q2 := kin _ _ k4
  rw [q2] at e1
  cases e1
  cases e3
  rw [k5] at e4
  cases e4
  exact law_gT kin G.T.g G.T.b G.T.builtins G.T.nolimit hg hP nT hC G.T.bmain hobj hints (Nat.le_trans hlen hn2) hr h2 h1 fun H hHT hS => hs H a ns hlen hHT hS
end Hk
end S_We
section S_La
namespace P59
open PySem PySem.Spec PyProof.Rows L2 Tl Hk
def topS (i : Nat) : Stmt := PySem.Challenge.pw_threelanes_k59_colourings_refused.main.body.getD i (.Pass ⟨0, 0, 0, 0⟩)
abbrev sInteger : Stmt := topS 2
abbrev sWithin : Stmt := topS 3
abbrev sList : Stmt := topS 4
abbrev sRow : Stmt := topS 5
abbrev sUn : Stmt := topS 6
abbrev sLot : Stmt := topS 7
abbrev sJust : Stmt := topS 8
abbrev sNumC : Stmt := topS 11
abbrev sWebC : Stmt := topS 12
abbrev sColC : Stmt := topS 13
abbrev sMisC : Stmt := topS 14
abbrev sManyC : Stmt := topS 15
abbrev sFixed : Stmt := topS 18
abbrev sAreEq : Stmt := topS 19
abbrev sPaperC : Stmt := topS 20
abbrev sDenialC : Stmt := topS 21
abbrev sIsWalk : Stmt := topS 23
abbrev sIsWay : Stmt := topS 24
abbrev sWant : Stmt := topS 26
abbrev sWeb : Stmt := topS 33
abbrev sWantWeb : Stmt := topS 34
abbrev sAreTurns : Stmt := topS 35
abbrev sIsTurn : Stmt := topS 36
abbrev sTies : Stmt := topS 37
abbrev sTurnText : Stmt := topS 38
abbrev sIsWord : Stmt := topS 41
abbrev sSoundC : Stmt := topS 47
abbrev sEchoC : Stmt := topS 48
abbrev sFreeC : Stmt := topS 49
abbrev sRepeatC : Stmt := topS 50
abbrev sJWalks : Stmt := topS 51
abbrev sSWalks : Stmt := topS 52
abbrev sJWays : Stmt := topS 53
abbrev sSWays : Stmt := topS 54
abbrev sWantWord : Stmt := topS 55
abbrev sWantFit : Stmt := topS 56
abbrev sWantWays : Stmt := topS 57
abbrev sSees : Stmt := topS 58
abbrev sNever : Stmt := topS 59
abbrev sAlike : Stmt := topS 60
abbrev sNear : Stmt := topS 61
abbrev sEcho : Stmt := topS 63
abbrev sRep : Stmt := topS 67
abbrev sWayOn : Stmt := topS 68
abbrev sWalkOf : Stmt := topS 66
abbrev sJoining : Stmt := topS 65
abbrev sPairsFrom : Stmt := topS 64
abbrev sTub : Stmt := topS 70
abbrev sScoop : Stmt := topS 71
abbrev sPick : Stmt := topS 72
abbrev sHeard : Stmt := topS 73
abbrev sLine : Stmt := topS 74
abbrev sFour : Stmt := topS 75
abbrev sLaw : Stmt := topS 76
/-- a plain value and the name of its type -/
inductive Ty7 (K : PySem.W.Frag) (H : Hp) : V → String → Prop where
  | non : Ty7 K H .non "NoneType"
  | bl (b : Bool) : Ty7 K H (.bl b) "bool"
  | int (i : Int) : Ty7 K H (.int i) "int"
  | str (s : Str) : Ty7 K H (.str s) "str"
  | lst {a : Addr} {xs : List V} (h : SqL K H a xs) : Ty7 K H (.ref a) "list"
  | tup {a : Addr} {xs : List V} (h : SqT K H a xs) : Ty7 K H (.ref a) "tuple"
  | dK {a : Addr} {kvs : List (L2.Key × V)} (h : H a = some (.dK kvs)) : Ty7 K H (.ref a) "dict"
section
variable {K : PySem.W.Frag} {H H' : Hp} {x : V} {n : String}
theorem Ty7.tyx (h : Ty7 K H x n) : TyX K H x (.type n) := by
  cases h with
  | non => exact .base .non
  | bl b => exact .base (.bl b)
  | int i => exact .base (.int i)
  | str s => exact .base (.str s)
  | lst h =>
    rcases h with (h | ⟨o, h⟩) | ⟨o, its, m, h1, h2, _⟩
    · exact .base (.lst h)
    · exact .base (.frz h)
    · exact .kList h1 h2
  | tup h =>
    rcases h with (h | ⟨o, h⟩) | ⟨o, its, m, h1, h2, _⟩
    · exact .base (.tup h)
    · exact .fTuple h
    · exact .kTuple h1 h2
  | dK h => exact .base (.dK h)
theorem Ty7.ex (h : Ty7 K H x n) (e : Evl.Ex H H') : Ty7 K H' x n := by
  cases h with
  | non => exact .non
  | bl b => exact .bl b
  | int i => exact .int i
  | str s => exact .str s
  | lst h => exact .lst (Evl.ex_l e h)
  | tup h => exact .tup (Evl.ex_t e h)
  | dK h => exact .dK (e _ _ h)
/-- isinstance of one built-in class -/
def is7 (n c : String) : Bool := (L2.kitB n c).getD false
theorem Ty7.kit (h : Ty7 K H x n) {c : String} (hc : c = "int" ∨ c = "bool" ∨ c = "list" ∨ c = "tuple") : PySem.W.kitOne K (.type n) (.type c) = some (is7 n c) := by
  refine kit_ty ?_
  rcases hc with rfl | rfl | rfl | rfl <;> cases h <;> decide +kernel
theorem Ty7.isInt (h : Ty7 K H x n) : (is7 n "int" && !is7 n "bool") = decide (n = "int") := by
  cases h <;> decide +kernel
theorem Ty7.isSeq (h : Ty7 K H x n) : (is7 n "list" || is7 n "tuple") = (decide (n = "list") || decide (n = "tuple")) := by
  cases h <;> decide +kernel
theorem rc_isi (h : Ty7 K H x n) {c : String} (hc : c = "int" ∨ c = "bool" ∨ c = "list" ∨ c = "tuple") : Evl.RC (rIsi K) [x, .ty c] H (.bl (is7 n c)) :=
  fun H1 e _ q => ⟨x, .ty c, .type n, .type c, is7 n c, rfl, .ty c, (h.ex e).tyx, (h.ex e).kit hc, q H1 (Evl.Ex.refl H1)⟩
theorem rv_isN : Evl.RV (fun x y H Q => y = .non ∧ Q (.bl (decide (x = .non))) H) x .non H (.bl (decide (x = .non))) := fun H1 _ _ q => ⟨rfl, q H1 (Evl.Ex.refl H1)⟩
end
/-- None, or an integer -/
def Bnd : V → Prop
  | .non => True
  | .int _ => True
  | _ => False
def okLo : V → Int → Bool
  | .int j, i => decide (j ≤ i)
  | _, _ => true
def okHi : V → Int → Bool
  | .int j, i => decide (i ≤ j)
  | _, _ => true
/-- whether it is an integer within the bounds -/
def wi : V → V → V → Bool
  | .int i, lo, hi => okLo lo i && okHi hi i
  | _, _, _ => false
def spInteger (K : PySem.W.Frag) : Sp := fun vs H Q _ => ∃ (x : V) (n : String), vs = [x] ∧ Ty7 K H x n ∧ ∀ H1, Evl.Ex H H1 → Q (.bl (decide (n = "int"))) H1
theorem spv_integer {K : PySem.W.Frag} {H : Hp} {x : V} {n : String} (h : Ty7 K H x n) : Evl.SpV (spInteger K) [x] H (.bl (decide (n = "int"))) := fun H1 e Q q E => ⟨x, n, rfl, h.ex e, q⟩
def spWithin (K : PySem.W.Frag) : Sp := fun vs H Q _ => ∃ (x lo hi : V) (n : String), vs = [x, lo, hi] ∧ Ty7 K H x n ∧ Bnd lo ∧ Bnd hi ∧ ∀ H1, Evl.Ex H H1 → Q (.bl (wi x lo hi)) H1
theorem spv_within {K : PySem.W.Frag} {H : Hp} {x lo hi : V} {n : String} (h : Ty7 K H x n) (h1 : Bnd lo) (h2 : Bnd hi) : Evl.SpV (spWithin K) [x, lo, hi] H (.bl (wi x lo hi)) := fun H1 e Q q E => ⟨x, lo, hi, n, rfl, h.ex e, h1, h2, q⟩
def spList (K : PySem.W.Frag) : Sp := fun vs H Q _ => ∃ (x : V) (n : String), vs = [x] ∧ Ty7 K H x n ∧ ∀ H1, Evl.Ex H H1 → Q (.bl (decide (n = "list") || decide (n = "tuple"))) H1
theorem spv_list {K : PySem.W.Frag} {H : Hp} {x : V} {n : String} (h : Ty7 K H x n) : Evl.SpV (spList K) [x] H (.bl (decide (n = "list") || decide (n = "tuple"))) := fun H1 e Q q E => ⟨x, n, rfl, h.ex e, q⟩
theorem scInteger : FnScope ["value"] ["value"] (defScope sInteger) := ⟨rfl, rfl, rfl, by decide +kernel, rfl, by decide +kernel, by decide +kernel⟩
theorem scWithin : FnScope ["value", "least", "most"] ["value", "least", "most"] (defScope sWithin) := ⟨rfl, rfl, rfl, by decide +kernel, rfl, by decide +kernel, by decide +kernel⟩
theorem scList : FnScope ["value"] ["value"] (defScope sList) := ⟨rfl, rfl, rfl, by decide +kernel, rfl, by decide +kernel, by decide +kernel⟩
section
variable {P : Program} {w : World} {K : PySem.W.Frag} {mg : Str → Option Value} {base : Heap}
theorem ok_integer {f : Addr} {fd : FuncData} {k : Nat} (F : Fun K "is_integer" "is_integer" sInteger f fd) (mi : mg "isinstance" = none) (mint : mg "int" = none) (mbool : mg "bool" = none) : FnOk P w K mg base CX0 (k + 1) f fd ["value"] (spInteger K) := by
  refine F.ok scInteger (fun vs H Q E h => ?_) (fun cdv A outer s H vs Q E hr h => ?_)
  · obtain ⟨x, n, rfl, _⟩ := h
    rfl
  · obtain ⟨x, n, rfl, h, q⟩ := h
    refine ⟨_, pss_one (ps_ret (pe_and (pe_callB call_isi (by rfl) mi (by decide +kernel) (pa_cons (pv 0) (pa_cons (pe_bltn (v := .ty "int") (by rfl) mint (by decide +kernel) rfl) pa_nil)))
      (pe_one (pe_not (pe_callB call_isi (by rfl) mi (by decide +kernel) (pa_cons (pv 0) (pa_cons (pe_bltn (v := .ty "bool") (by rfl) mbool (by decide +kernel) rfl) pa_nil))))))), ?_⟩
    refine Evl.s_ret (v := .bl (is7 n "int" && !is7 n "bool")) (Evl.ev_andV (Evl.ev_cb (Evl.ea_cons (Evl.ev_var rfl) (Evl.ea_cons Evl.ev_c Evl.ea_nil)) (rc_isi h (.inl rfl))) fun _ =>
      Evl.ev_notV (Evl.ev_cb (Evl.ea_cons (Evl.ev_var rfl) (Evl.ea_cons Evl.ev_c Evl.ea_nil)) (rc_isi h (.inr (.inl rfl))))) fun H1 e1 => ?_
    rw [h.isInt]
    exact q H1 e1
theorem ok_list {f : Addr} {fd : FuncData} {k : Nat} (F : Fun K "is_list" "is_list" sList f fd) (mi : mg "isinstance" = none) (ml : mg "list" = none) (mt : mg "tuple" = none) : FnOk P w K mg base CX0 (k + 1) f fd ["value"] (spList K) := by
  refine F.ok scList (fun vs H Q E h => ?_) (fun cdv A outer s H vs Q E hr h => ?_)
  · obtain ⟨x, n, rfl, _⟩ := h
    rfl
  · obtain ⟨x, n, rfl, h, q⟩ := h
    refine ⟨_, pss_one (ps_ret (pe_callB call_isiT (by rfl) mi (by decide +kernel) (pa_cons (pv 0) (pa_cons (pe_tup (pa_cons (pe_bltn (v := .ty "list") (by rfl) ml (by decide +kernel) rfl) (pa_cons (pe_bltn (v := .ty "tuple") (by rfl) mt (by decide +kernel) rfl) pa_nil))) pa_nil)))), ?_⟩
    refine ⟨x, rfl, (by show 2 ≤ sizeLine; decide), fun T hT => ⟨x, T, [.ty "list", .ty "tuple"], .type n, [.type "list", .type "tuple"], is7 n "list" || is7 n "tuple", rfl, upd_same, .cons (.ty _) (.cons (.ty _) .nil), (h.ex (Evl.Ex.new hT)).tyx, ?_, ?_⟩⟩
    · refine kitAny_cons (h.kit (.inr (.inr (.inl rfl)))) (fun hb => kitAny_cons (h.kit (.inr (.inr (.inr rfl)))) (fun hb2 => ?_) fun hb2 => ?_) fun hb => ?_
      · rw [hb, hb2]; exact kitAny_nil
      · rw [hb2, Bool.or_true]
      · rw [hb, Bool.true_or]
    · show Q _ _
      rw [h.isSeq]
      exact q _ (Evl.Ex.new hT)
theorem ok_within {f fI : Addr} {fd fdI : FuncData} {k : Nat} (F : Fun K "is_within" "is_within" sWithin f fd) (FI : Fun K "is_integer" "is_integer" sInteger fI fdI) (GI : FnOk P w K mg base CX0 k fI fdI ["value"] (spInteger K)) (bI : Binds K fdI ["value"] []) (gI : mg "is_integer" = some (.ref fI)) :
    FnOk P w K mg base CX0 (k + 1) f fd ["value", "least", "most"] (spWithin K) := by
  refine F.ok scWithin (fun vs H Q E h => ?_) (fun cdv A outer s H vs Q E hr h => ?_)
  · obtain ⟨x, lo, hi, n, rfl, _⟩ := h
    rfl
  · obtain ⟨x, lo, hi, n, rfl, h, hlo, hhi, q⟩ := h
    refine ⟨_, pss_cons (ps_if (pt_not (pt_val (pe_call GI hr (by rfl) gI FI.kp bI .nil pass0 (pa_cons (pv 0) pa_nil)))) (pss_one (ps_ret pe_bl)) pss_nil)
      (pss_one (ps_ret (pe_and (pe_or (pe_cmpR op_isN (pv 1) pe_non (nomark _)) (pe_one (pe_cmpR op_ge (pv 0) (pv 1) (nomark _)))) (pe_one (pe_or (pe_cmpR op_isN (pv 2) pe_non (nomark _)) (pe_one (pe_cmpR op_le (pv 0) (pv 2) (nomark _)))))))), ?_⟩
    refine Evl.q_when (Evl.et_not (Evl.et_B (Evl.ev_call (Evl.ea_cons (Evl.ev_var rfl) Evl.ea_nil) (spv_integer h)))) (fun hb H1 e1 => ?_) (fun hb H1 e1 => ?_)
    · refine Evl.s_ret Evl.ev_c fun H2 e2 => ?_
      have hw : wi x lo hi = false := by
        cases h with
        | int i => exact absurd hb (by decide)
        | _ => rfl
      rw [← hw]
      exact q H2 (e1.trans e2)
    · cases h with
      | int i =>
        have hA : Evl.Ev (tOrV (tOp (fun x y H Q => y = .non ∧ Q (.bl (decide (x = .non))) H) (tVar 1) (tC .non)) (tOp (rI0 fun i j => V.bl (decide (j ≤ i))) (tVar 0) (tVar 1))) (start ["value", "least", "most"] [.int i, lo, hi]) H1 (.bl (okLo lo i)) := by
          cases lo with
          | non => exact Evl.ev_is (Evl.ev_orV (b := true) (Evl.ev_op (Evl.ev_var rfl) Evl.ev_c rv_isN) fun z => absurd z (by decide)) rfl
          | int j => exact Evl.ev_is (Evl.ev_orV (Evl.ev_op (Evl.ev_var rfl) Evl.ev_c rv_isN) fun _ => Evl.ev_op (Evl.ev_var rfl) (Evl.ev_var rfl) Evl.rv_I0) (by rw [show decide (V.int j = V.non) = false from rfl] <;> rfl)
          | _ => exact hlo.elim
        have hB : Evl.Ev (tOrV (tOp (fun x y H Q => y = .non ∧ Q (.bl (decide (x = .non))) H) (tVar 2) (tC .non)) (tOp (rI0 fun i j => V.bl (decide (i ≤ j))) (tVar 0) (tVar 2))) (start ["value", "least", "most"] [.int i, lo, hi]) H1 (.bl (okHi hi i)) := by
          cases hi with
          | non => exact Evl.ev_is (Evl.ev_orV (b := true) (Evl.ev_op (Evl.ev_var rfl) Evl.ev_c rv_isN) fun z => absurd z (by decide)) rfl
          | int j => exact Evl.ev_is (Evl.ev_orV (Evl.ev_op (Evl.ev_var rfl) Evl.ev_c rv_isN) fun _ => Evl.ev_op (Evl.ev_var rfl) (Evl.ev_var rfl) Evl.rv_I0) (by rw [show decide (V.int j = V.non) = false from rfl] <;> rfl)
          | _ => exact hhi.elim
        exact Evl.s_ret (Evl.ev_andV hA fun _ => hB) fun H2 e2 => q H2 (e1.trans e2)
      | _ => exact absurd hb (by decide)
end

theorem ev_allN {K : PySem.W.Frag} {ta : TE} {σ : L2.St} {H : Hp} {bs : List Bool} (h : Evl.EvL ta σ H (bs.map V.bl)) : Evl.Ev (tCB (rAll K) (tCons ta tNil)) σ H (.bl (bs.all id)) := fun H1 e Q q =>
  h H1 e _ fun p H2 _ e2 h2 => ⟨p, bs, rfl, Evl.sq_of h2, q H2 e2⟩
/-- a comprehension over a tuple that stands -/
theorem el_lcT {K : PySem.W.Frag} {a : Addr} {xs : List V} {tl te : TE} {t : TT} {σ : L2.St} {H : Hp} {j : Nat} {vs : List Nat} (f : Nat → Bool) (v : Nat → V) (h : Evl.Ev tl σ H (.ref a)) (hx : SqT K H a xs) (hz : xs.length ≤ 40000)
    (hw : ∀ x, wipe ((wipe σ vs).set j (some x)) vs = wipe σ vs) (ht : ∀ (i : Nat) (x : V) H1, Evl.Ex H H1 → xs[i]? = some x → Evl.EvT t ((wipe σ vs).set j (some x)) H1 (f i))
    (he : ∀ (i : Nat) (x : V) H1, Evl.Ex H H1 → xs[i]? = some x → f i = true → Evl.Ev te ((wipe σ vs).set j (some x)) H1 (v i)) : Evl.EvL (tLc (iTup K tl) (gName j) t te vs) σ H (Evl.given xs.length f v) := by
  intro H0 e Q q
  refine h H0 e _ fun H1 e1 => ⟨a, rfl, ⟨xs, Evl.ex_t (e.trans e1) hx⟩, fun Dl hD => lc_tup (xs := xs) (Evl.Cw H1 f v Dl) ⟨hD, Evl.Ex.new hD, upd_same⟩ (fun i H' _ p => Evl.ex_t ((e.trans e1).trans p.2.1) hx) (fun i x H' hi p => ⟨hw x, ?_⟩) fun H' p => q Dl H' (Evl.fresh_back e1 p.1) (e1.trans p.2.1) p.2.2⟩
  have hlt := (List.getElem?_eq_some_iff.mp hi).1
  exact Evl.cw_turn p (by omega) (ht i x H1 (e.trans e1) hi) fun hf => he i x H1 (e.trans e1) hi hf

end P59
end S_La
section S_Lb
namespace P59
open PySem PySem.Spec PyProof.Rows L2 Tl Hk
theorem scScoop : FnScope ["toll", "many", "left", "turn", "cell", "mixed"] ["toll", "many"] (defScope sScoop) := ⟨rfl, rfl, rfl, by decide +kernel, rfl, by decide +kernel, by decide +kernel⟩

/-- all but the object at t is as it was -/
def Kept (t : Addr) (H H' : Hp) : Prop := ∀ a o, a ≠ t → H a = some o → H' a = some o
theorem Kept.refl (t : Addr) (H : Hp) : Kept t H H := fun _ _ _ h => h
theorem Kept.trans {t : Addr} {H H1 H2 : Hp} (a : Kept t H H1) (b : Kept t H1 H2) : Kept t H H2 := fun x o n h => b x o n (a x o n h)
theorem Kept.of {t : Addr} {H H' : Hp} (e : Same H H') : Kept t H H' := fun x o _ h => e x o h
theorem Kept.upd (t : Addr) (H : Hp) (o : HO) : Kept t H (upd H t o) := fun a u n e => by
  rw [upd_ne n]
  exact e
theorem Kept.seq {K : PySem.W.Frag} {t : Addr} {H H' : Hp} {c : Addr} {xs : List V} (k : Kept t H H') (n : c ≠ t) (h : SqL K H c xs) : SqL K H' c xs := by
  rcases h with (h | ⟨o, h⟩) | h
  · exact .inl (.inl (k _ _ n h))
  · exact .inl (.inr ⟨o, k _ _ n h⟩)
  · exact .inr h
/-- the drawer of numbers at t: its cells at c, its turn of n at most, its rest -/
def Tub (H : Hp) (t c : Addr) (n : Nat) : Prop := ∃ (cs : List Int) (turn rest : Int),
  H t = some (.lst [.ref c, .int turn, .int rest]) ∧ H c = some (.lst (cs.map V.int)) ∧ c ≠ t ∧ cs.length ≤ 61 ∧ 0 ≤ turn ∧ turn ≤ n ∧ 0 ≤ rest
theorem Tub.mono {H : Hp} {t c : Addr} {n m : Nat} (T : Tub H t c n) (h : n ≤ m) : Tub H t c m := by
  obtain ⟨cs, turn, rest, h1, h2, h3, h4, h5, h6, h7⟩ := T
  exact ⟨cs, turn, rest, h1, h2, h3, h4, h5, by omega, h7⟩
theorem Tub.same {H H' : Hp} {t c : Addr} {n : Nat} (T : Tub H t c n) (e : Same H H') : Tub H' t c n := by
  obtain ⟨cs, turn, rest, h1, h2, h3, h4, h5, h6, h7⟩ := T
  exact ⟨cs, turn, rest, e _ _ h1, e _ _ h2, h3, h4, h5, h6, h7⟩
theorem Tub.ne {H : Hp} {t c p : Addr} {n : Nat} (T : Tub H t c n) (h : H p = none) : p ≠ t ∧ p ≠ c := by
  obtain ⟨cs, turn, rest, h1, h2, _⟩ := T
  exact ⟨(ne_of_none h1 h).symm, (ne_of_none h2 h).symm⟩
/-- an object that is neither of the drawer's two may change -/
theorem Tub.upd {H : Hp} {t c p : Addr} {n : Nat} {o : HO} (T : Tub H t c n) (h1 : p ≠ t) (h2 : p ≠ c) : Tub (upd H p o) t c n := by
  obtain ⟨cs, turn, rest, a1, a2, h⟩ := T
  refine ⟨cs, turn, rest, ?_, ?_, h⟩
  · rw [upd_ne h1.symm]
    exact a1
  · rw [upd_ne h2.symm]
    exact a2
theorem same_new {H : Hp} {p : Addr} {o : HO} (h : H p = none) : Same H (upd H p o) := fun b x e => by
  rw [upd_ne (ne_of_none e h)]
  exact e

open Evl in
theorem kept_ex {t : Addr} {H H' : Hp} (e : Evl.Ex H H') : Kept t H H' := fun x o _ h => e x o h
theorem Tub.ex {H H' : Hp} {t c : Addr} {n : Nat} (T : Tub H t c n) (e : Evl.Ex H H') : Tub H' t c n := T.same e
section
open Evl
variable {K : PySem.W.Frag} {σ : L2.St} {H H' : Hp} {ta tb te : TE} {x y z v : V}
theorem ev_int {i : Int} (h : Ev ta σ H (.int i)) : Ev (tCB (fun xs H Q => (∃ i, xs = [V.int i] ∧ Q (V.int i) H) ∨ ∃ k, xs = [V.bl k] ∧ Q (V.int (if k = true then 1 else 0)) H) (tCons ta tNil)) σ H (.int i) :=
  ev_cb (ea_cons h ea_nil) fun H1 _ _ q => .inl ⟨i, rfl, q H1 (Ex.refl H1)⟩
theorem ev_intB {b : Bool} (h : Ev ta σ H (.bl b)) : Ev (tCB (fun xs H Q => (∃ i, xs = [V.int i] ∧ Q (V.int i) H) ∨ ∃ k, xs = [V.bl k] ∧ Q (V.int (if k = true then 1 else 0)) H) (tCons ta tNil)) σ H (.int (if b = true then 1 else 0)) :=
  ev_cb (ea_cons h ea_nil) fun H1 _ _ q => .inr ⟨b, rfl, q H1 (Ex.refl H1)⟩
theorem ev_abs {i : Int} (h : Ev ta σ H (.int i)) : Ev (tCB (fun xs H Q => ∃ i, xs = [V.int i] ∧ Q (V.int (if i < 0 then -i else i)) H) (tCons ta tNil)) σ H (.int (if i < 0 then -i else i)) :=
  ev_cb (ea_cons h ea_nil) fun H1 _ _ q => ⟨i, rfl, q H1 (Ex.refl H1)⟩
theorem dp_ints {c : Addr} : ∀ (cs : List Int), DpAll K H (cs.map V.int) (cs.map PyData.int)
  | [] => .nil
  | i :: r => .cons (.int i) (dp_ints (c := c) r)
/-- a list of ints is not the empty one -/
theorem ev_neNil {c : Addr} {cs : List Int} (h : Ev ta σ H (.ref c)) (hc : SqL K H c (cs.map V.int)) : Ev (tOp (rNeD K) ta (tLst tNil)) σ H (.bl (!cs.isEmpty)) :=
  ev_opL (xs := []) h (el_lst ea_nil (Nat.zero_le _)) fun p H1 hp e => fun H2 e2 Q q => by
    refine ⟨.list (cs.map PyData.int), .list [], .lst (ex_l (e.trans e2) hc) (dp_ints (c := c) cs), .lst (sq_of (e2 _ _ hp)) .nil, PySem.W.ke_shaped_ints cs, by decide +kernel, ?_⟩
    have e3 : PyData.eqv (.list (cs.map PyData.int)) (.list []) = cs.isEmpty := by cases cs <;> rfl
    rw [e3]
    exact q H2 (Ex.refl H2)
theorem fmod_pos {a b : Int} (hb : 1 ≤ b) : 0 ≤ a.fmod b ∧ a.fmod b < b := by
  rw [Int.fmod_eq_emod_of_nonneg a (by omega)]
  exact ⟨Int.emod_nonneg _ (by omega), Int.emod_lt_of_pos _ (by omega)⟩
theorem fdiv_pos {a b : Int} (ha : 0 ≤ a) (hb : 1 ≤ b) : 0 ≤ a.fdiv b := by
  rw [Int.fdiv_eq_ediv_of_nonneg a (by omega)]
  exact Int.ediv_nonneg ha (by omega)
theorem mix_a {x turn : Int} (hx0 : 0 ≤ x) (hx : x < 2147483648) (h0 : 0 ≤ turn) (h1 : turn ≤ 1000000) : (x + 85331 * turn + 8287).natAbs < 2 ^ 64 := by omega
theorem mix_b {m turn : Int} (hm0 : 0 ≤ m) (hm : m < 2147483648) (h0 : 0 ≤ turn) (h1 : turn ≤ 1000000) : (m * (2 * turn + 8287) + 109253 * turn * turn + 85331).natAbs < 2 ^ 64 := by
  have a1 : m * (2 * turn + 8287) ≤ 2147483648 * 2008287 := Int.mul_le_mul (by omega) (by omega) (by omega) (by omega)
  have a2 : 0 ≤ m * (2 * turn + 8287) := Int.mul_nonneg hm0 (by omega)
  have b1 : 109253 * turn * turn ≤ 109253000000 * 1000000 := Int.mul_le_mul (by omega) (by omega) (by omega) (by omega)
  have b2 : 0 ≤ 109253 * turn * turn := Int.mul_nonneg (by omega) (by omega)
  generalize m * (2 * turn + 8287) = p at *
  generalize 109253 * turn * turn = r at *
  omega
theorem cell_at (cs : List Int) (turn d : Int) (h0 : 0 ≤ turn) : ∃ z, (cs.isEmpty = false → atI (cs.map V.int) (turn.fmod ((cs.map V.int).length : Int)) = some (.int z)) ∧ (cs.isEmpty = true → z = d) := by
  cases cs with
  | nil => exact ⟨d, fun h => (nomatch h), fun _ => rfl⟩
  | cons x r =>
    have hb := fmod_pos (a := turn) (b := (((x :: r).map V.int).length : Int)) (by rw [List.length_map, List.length_cons]; omega)
    obtain ⟨j, hj⟩ : ∃ j : Nat, turn.fmod (((x :: r).map V.int).length : Int) = (j : Int) := ⟨(turn.fmod (((x :: r).map V.int).length : Int)).toNat, by omega⟩
    rw [hj] at hb ⊢
    have hl : j < (x :: r).length := by
      rw [List.length_map] at hb
      omega
    refine ⟨(x :: r)[j], fun _ => atI_nat ?_, fun h => (nomatch h)⟩
    rw [List.getElem?_map, List.getElem?_eq_getElem hl]
    rfl
end

def spScoop : Sp := fun vs H Q _ => ∃ (t c : Addr) (many : Int) (n : Nat), vs = [.ref t, .int many] ∧ Tub H t c n ∧ n ≤ 1000000 ∧ 1 ≤ many ∧ many ≤ 100000 ∧
  ∀ r H', 0 ≤ r → r < many → Kept t H H' → Tub H' t c (n + 1) → Q (.int r) H'
section
variable {P : Program} {w : World} {K : PySem.W.Frag} {mg : Str → Option Value} {base : Heap}
theorem ok_scoop {f : Addr} {fd : FuncData} {k : Nat} (F : Fun K "_law_levy" "_law_levy" sScoop f fd) (mint : mg "int" = none) (mlen : mg "len" = none) (mabs : mg "abs" = none) : FnOk P w K mg base CX0 (k + 1) f fd ["toll", "many"] spScoop := by
  refine F.ok scScoop (fun vs H Q E h => ?_) (fun cdv A outer s H vs Q E hr h => ?_)
  · obtain ⟨t, c, m, n, rfl, _⟩ := h
    rfl
  · obtain ⟨t, c, many, n, rfl, hT, hn, hm1, hm2, q⟩ := h
    have nd := scScoop.nd
    refine ⟨_, pss_cons (ps_if (pt_cmpR op_gt (pe_ix ix_list (pv 0) pe_int (fun _ _ => rfl)) pe_int (nomark _))
        (pss_cons (ps_set (i := 2) nd rfl (.inl rfl) (pe_callTy call_int1 (by rfl) mint (by decide +kernel) (pa_cons (pe_ix ix_list (pv 0) pe_int (fun _ _ => rfl)) pa_nil)))
        (pss_cons (ps_asg (pe_op op_fdivN (pv 2) (pv 1)) (pg_sub (pv 0) pe_int set_list))
        (pss_one (ps_ret (pe_op op_modN (pe_callTy call_int1 (by rfl) mint (by decide +kernel) (pa_cons (pv 2) pa_nil)) (pv 1)))))) pss_nil)
      (pss_cons (ps_set (i := 3) nd rfl (.inl rfl) (pe_ix ix_list (pv 0) pe_int (fun _ _ => rfl)))
      (pss_cons (ps_asg (pe_op op_add (pv 3) pe_int) (pg_sub (pv 0) pe_int set_list))
      (pss_cons (ps_set (i := 4) nd rfl (.inl rfl) (pe_op op_add (pe_op op_mul pe_int (pv 3)) pe_int))
      (pss_cons (ps_if (pt_cmpR (op_neD hr.units) (pe_ix ix_list (pv 0) pe_int (fun _ _ => rfl)) (pe_lst pa_nil) (nomark _))
        (pss_one (ps_set (i := 4) nd rfl (.inl rfl) (pe_ix ix_list (pe_ix ix_list (pv 0) pe_int (fun _ _ => rfl)) (pe_op op_modN (pe_callTy call_int1 (by rfl) mint (by decide +kernel) (pa_cons (pv 3) pa_nil)) (pe_callB call_len_seq (by rfl) mlen PySem.boot_len (pa_cons (pe_ix ix_list (pv 0) pe_int (fun _ _ => rfl)) pa_nil))) (fun _ _ => rfl)))) pss_nil)
      (pss_cons (ps_if (PW.pt (pw_and (pt_cmpR op_lt (pv 3) (pe_callB call_len_seq (by rfl) mlen PySem.boot_len (pa_cons (pe_ix ix_list (pv 0) pe_int (fun _ _ => rfl)) pa_nil)) (nomark _)) (pw_and1 (pt_cmpR op_ge (pe_callB call_abs (by rfl) mabs (by decide +kernel) (pa_cons (pv 4) pa_nil)) (pe_op op_pow pe_int pe_int) (nomark _)))))
        (pss_cons (ps_set (i := 2) nd rfl (.inl rfl) (pe_op op_add (pe_op op_mul pe_int (pe_op op_sub (pe_callB call_abs (by rfl) mabs (by decide +kernel) (pa_cons (pe_callTy call_int1 (by rfl) mint (by decide +kernel) (pa_cons (pv 4) pa_nil)) pa_nil)) (pe_op op_pow pe_int pe_int))) (pe_callTy call_int1 (by rfl) mint (by decide +kernel) (pa_cons (pe_cmpR op_lt (pv 4) pe_int (nomark _)) pa_nil))))
        (pss_cons (ps_asg (pe_op op_fdivN (pv 2) (pv 1)) (pg_sub (pv 0) pe_int set_list))
        (pss_one (ps_ret (pe_op op_modN (pe_callTy call_int1 (by rfl) mint (by decide +kernel) (pa_cons (pv 2) pa_nil)) (pv 1)))))) pss_nil)
      (pss_cons (ps_set (i := 5) nd rfl (.inl rfl) (pe_op op_modN (pe_callTy call_int1 (by rfl) mint (by decide +kernel) (pa_cons (pe_op op_pow (pe_op op_add (pe_op op_add (pe_op op_modN (pe_callTy call_int1 (by rfl) mint (by decide +kernel) (pa_cons (pv 4) pa_nil)) pe_int) (pe_op op_mul pe_int (pv 3))) pe_int) pe_int) pa_nil)) pe_int))
      (pss_cons (ps_set (i := 5) nd rfl (.inl rfl) (pe_op op_modN (pe_callTy call_int1 (by rfl) mint (by decide +kernel) (pa_cons (pe_op op_pow (pe_op op_add (pe_op op_add (pe_op op_mul (pv 5) (pe_op op_add (pe_op op_mul pe_int (pv 3)) pe_int)) (pe_op op_mul (pe_op op_mul pe_int (pv 3)) (pv 3))) pe_int) pe_int) pa_nil)) pe_int))
      (pss_one (ps_ret (pe_op op_modN (pe_callTy call_int1 (by rfl) mint (by decide +kernel) (pa_cons (pe_op op_fdivN (pv 5) pe_int) pa_nil)) (pv 1))))))))))), ?_⟩
    obtain ⟨cs, turn, rest, ht, hc, hct, hcl, hu0, hun, hr0⟩ := hT
    have tubAt : ∀ {σ : L2.St} {H' : Hp} {j : Nat} {v : V} {xs : List V}, σ[0]? = some (some (.ref t)) → H' t = some (.lst xs) → xs[j]? = some v → Evl.Ev (tOp (rIxL K) (tVar 0) (tC (.int (j : Int)))) σ H' v :=
      fun hs h hv => Evl.ev_op (Evl.ev_var hs) Evl.ev_c (Evl.rv_ixL (Evl.sq_of h) (atI_nat hv))
    have turnS : turn ≤ 1000000 := by omega
    refine Evl.q_when (b := decide (0 < rest)) (Evl.et_test (Evl.ev_op (tubAt (j := 2) rfl ht rfl) Evl.ev_c Evl.rv_I0)) (fun hb H1 e1 => ?_) (fun hb H1 e1 => ?_)
    · refine Evl.q_asg (ev_int (tubAt (j := 2) rfl (e1 _ _ ht) rfl)) fun H2 e2 => ?_
      refine Evl.q_setL (l := t) (j := 2) (e2 _ _ (e1 _ _ ht)) (Evl.ev_op (Evl.ev_var rfl) (Evl.ev_var rfl) (Evl.rv_I ⟨by omega, by omega⟩)) (Evl.ev_var rfl) Evl.ev_c (by show 2 < 3; omega) fun H3 e3 => ?_
      refine Evl.s_ret (Evl.ev_op (ev_int (Evl.ev_var rfl)) (Evl.ev_var rfl) (Evl.rv_I (by omega))) fun H4 e4 => ?_
      have e13 := (e1.trans e2).trans e3
      refine q _ _ (fmod_pos hm1).1 (fmod_pos hm1).2 (((kept_ex e13).trans (Kept.upd t H3 _)).trans (kept_ex e4)) (Tub.ex ?_ e4)
      exact ⟨cs, turn, rest.fdiv many, upd_same, Kept.upd t H3 _ _ _ hct (e13 _ _ hc), hct, hcl, hu0, by omega, fdiv_pos hr0 hm1⟩
    · refine Evl.q_asg (tubAt (j := 1) rfl (e1 _ _ ht) rfl) fun H2 e2 => ?_
      refine Evl.q_setL (l := t) (j := 1) (e2 _ _ (e1 _ _ ht)) (Evl.ev_op (Evl.ev_var rfl) Evl.ev_c Evl.rv_I0) (Evl.ev_var rfl) Evl.ev_c (by show 1 < 3; omega) fun H3 e3 => ?_
      have e13 := (e1.trans e2).trans e3
      have k3 : Kept t H (upd H3 t (.lst [.ref c, .int (turn + 1), .int rest])) := (kept_ex e13).trans (Kept.upd t H3 _)
      have h3 : (upd H3 t (.lst [.ref c, .int (turn + 1), .int rest])) t = some (.lst [.ref c, .int (turn + 1), .int rest]) := upd_same
      show tSeq _ _ _ _ (upd H3 t (.lst [.ref c, .int (turn + 1), .int rest]))
      generalize upd H3 t (.lst [.ref c, .int (turn + 1), .int rest]) = H3' at k3 h3 ⊢
      have hc3 : H3' c = some (.lst (cs.map V.int)) := k3 _ _ hct hc
      obtain ⟨cell, z1, z2⟩ := cell_at cs turn (109253 * turn + 8287) hu0
      refine Evl.q_asg (Evl.ev_op (Evl.ev_op Evl.ev_c (Evl.ev_var rfl) (Evl.rv_I (.inl ⟨by omega, by omega⟩))) Evl.ev_c Evl.rv_I0) fun H4 e4 => ?_
      refine Evl.q_ifAsg (b := !cs.isEmpty) (v := .int cell) (Evl.et_test (ev_neNil (tubAt (j := 0) rfl (e4 _ _ h3) rfl) (Evl.sq_of (e4 _ _ hc3))))
        (fun hb => ?_) (fun hb => ?_) fun H5 e5 => ?_
      · have hce : cs.isEmpty = false := by
          cases hq : cs.isEmpty with
          | true => rw [hq] at hb; cases hb
          | false => rfl
        have hne : ((cs.map V.int).length : Int) ≠ 0 := by
          rw [List.length_map]
          cases cs with
          | nil => cases hce
          | cons x r => rw [List.length_cons]; omega
        exact Evl.ev_op (tubAt (j := 0) rfl (e4 _ _ h3) rfl) (Evl.ev_op (ev_int (Evl.ev_var rfl)) (Evl.ev_len (tubAt (j := 0) rfl (e4 _ _ h3) rfl) (Evl.sq_of (e4 _ _ hc3))) (Evl.rv_I hne)) (Evl.rv_ixL (Evl.sq_of (e4 _ _ hc3)) (z1 hce))
      · have hce : cs.isEmpty = true := by
          cases hq : cs.isEmpty with
          | true => rfl
          | false => rw [hq] at hb; cases hb
        rw [z2 hce]
        rfl
      have e35 := e4.trans e5
      have k5 : Kept t H H5 := k3.trans (kept_ex e35)
      have h5 := e35 _ _ h3
      have hc5 := e35 _ _ hc3
      clear e4 e5 e35 h3 hc3 k3 e1 e2 e3 e13
      refine Evl.q_when (Evl.et_and (Evl.et_test (Evl.ev_op (Evl.ev_var rfl) (Evl.ev_len (tubAt (j := 0) rfl h5 rfl) (Evl.sq_of hc5)) Evl.rv_I0)) fun _ => Evl.et_test (Evl.ev_op (ev_abs (Evl.ev_var rfl)) (Evl.ev_op Evl.ev_c Evl.ev_c (Evl.rv_I ⟨by decide, by decide, by decide⟩)) Evl.rv_I0)) (fun hb H6 e6 => ?_) (fun hb H6 e6 => ?_)
      · have hb2 := (Bool.and_eq_true_iff.mp hb).2
        have hbig : (10 : Int) ^ 18 ≤ (if cell < 0 then -cell else cell) := of_decide_eq_true hb2
        refine Evl.q_asg (Evl.ev_op (Evl.ev_op Evl.ev_c (Evl.ev_op (ev_abs (ev_int (Evl.ev_var rfl))) (Evl.ev_op Evl.ev_c Evl.ev_c (Evl.rv_I ⟨by decide, by decide, by decide⟩)) Evl.rv_I0) (Evl.rv_I (.inl ⟨by decide, by decide⟩))) (ev_intB (Evl.ev_op (Evl.ev_var rfl) Evl.ev_c Evl.rv_I0)) Evl.rv_I0) fun H7 e7 => ?_
        have hr2 : (0 : Int) ≤ 2 * ((if cell < 0 then -cell else cell) - 10 ^ (18 : Int).toNat) + (if decide (cell < 0) = true then 1 else 0) := by
          have e18 : (18 : Int).toNat = 18 := rfl
          rw [e18]
          split <;> omega
        generalize (2 * ((if cell < 0 then -cell else cell) - 10 ^ (18 : Int).toNat) + (if decide (cell < 0) = true then 1 else 0) : Int) = rest2 at hr2 ⊢
        refine Evl.q_setL (l := t) (j := 2) (e7 _ _ (e6 _ _ h5)) (Evl.ev_op (Evl.ev_var rfl) (Evl.ev_var rfl) (Evl.rv_I ⟨by omega, by omega⟩)) (Evl.ev_var rfl) Evl.ev_c (by show 2 < 3; omega) fun H8 e8 => ?_
        refine Evl.s_ret (Evl.ev_op (ev_int (Evl.ev_var rfl)) (Evl.ev_var rfl) (Evl.rv_I (by omega))) fun H9 e9 => ?_
        have e68 := (e6.trans e7).trans e8
        refine q _ _ (fmod_pos hm1).1 (fmod_pos hm1).2 (((k5.trans (kept_ex e68)).trans (Kept.upd t H8 _)).trans (kept_ex e9)) (Tub.ex ?_ e9)
        exact ⟨cs, turn + 1, rest2.fdiv many, upd_same, Kept.upd t H8 _ _ _ hct (e68 _ _ hc5), hct, hcl, by omega, by omega, fdiv_pos hr2 hm1⟩
      · have c1 := fmod_pos (a := cell) (b := 2147483563) (by decide)
        refine Evl.q_asg (Evl.ev_op (ev_int (Evl.ev_op (Evl.ev_op (Evl.ev_op (Evl.ev_op (ev_int (Evl.ev_var rfl)) Evl.ev_c (Evl.rv_I (by decide))) (Evl.ev_op Evl.ev_c (Evl.ev_var rfl) (Evl.rv_I (.inl ⟨by decide, by decide⟩))) Evl.rv_I0) Evl.ev_c Evl.rv_I0) Evl.ev_c (Evl.rv_I ⟨by decide, by decide, mix_a c1.1 (by omega) hu0 turnS⟩))) Evl.ev_c (Evl.rv_I (by decide))) fun H7 e7 => ?_
        have m1 := fmod_pos (a := (cell.fmod 2147483563 + 85331 * turn + 8287) ^ (5 : Int).toNat) (b := 2147483549) (by decide)
        generalize ((cell.fmod 2147483563 + 85331 * turn + 8287) ^ (5 : Int).toNat).fmod 2147483549 = mx at m1 ⊢
        refine Evl.q_asg (Evl.ev_op (ev_int (Evl.ev_op (Evl.ev_op (Evl.ev_op (Evl.ev_op (Evl.ev_var rfl) (Evl.ev_op (Evl.ev_op Evl.ev_c (Evl.ev_var rfl) (Evl.rv_I (.inl ⟨by decide, by decide⟩))) Evl.ev_c Evl.rv_I0) (Evl.rv_I (.inl ⟨by omega, by omega⟩))) (Evl.ev_op (Evl.ev_op Evl.ev_c (Evl.ev_var rfl) (Evl.rv_I (.inl ⟨by decide, by decide⟩))) (Evl.ev_var rfl) (Evl.rv_I (.inl ⟨by omega, by omega⟩))) Evl.rv_I0) Evl.ev_c Evl.rv_I0) Evl.ev_c (Evl.rv_I ⟨by decide, by decide, mix_b m1.1 (by omega) hu0 turnS⟩))) Evl.ev_c (Evl.rv_I (by decide))) fun H8 e8 => ?_
        refine Evl.s_ret (Evl.ev_op (ev_int (Evl.ev_op (Evl.ev_var rfl) Evl.ev_c (Evl.rv_I ⟨by decide, by decide⟩))) (Evl.ev_var rfl) (Evl.rv_I (by omega))) fun H9 e9 => ?_
        have e69 := ((e6.trans e7).trans e8).trans e9
        exact q _ _ (fmod_pos hm1).1 (fmod_pos hm1).2 (k5.trans (kept_ex e69)) ⟨cs, turn + 1, rest, e69 _ _ h5, e69 _ _ hc5, hct, hcl, by omega, by omega, hr0⟩
end

theorem scPick : FnScope ["toll", "some"] ["toll", "some"] (defScope sPick) := ⟨rfl, rfl, rfl, by decide +kernel, rfl, by decide +kernel, by decide +kernel⟩
theorem scTub : FnScope ["script", "cell"] ["script"] (defScope sTub) := ⟨rfl, rfl, rfl, by decide +kernel, rfl, by decide +kernel, by decide +kernel⟩
/-- an item at a drawn place -/
theorem at_drawn {xs : List V} {r : Int} (h0 : 0 ≤ r) (h1 : r < (xs.length : Int)) : ∃ (j : Nat) (v : V), xs[j]? = some v ∧ atI xs r = some v := by
  obtain ⟨j, rfl⟩ : ∃ j : Nat, r = (j : Int) := ⟨r.toNat, by omega⟩
  have hj : j < xs.length := by omega
  exact ⟨j, xs[j], List.getElem?_eq_getElem hj, atI_nat (List.getElem?_eq_getElem hj)⟩
def spPick (K : PySem.W.Frag) : Sp := fun vs H Q _ => ∃ (t c l : Addr) (xs : List V) (n : Nat), vs = [.ref t, .ref l] ∧ Tub H t c n ∧ n < 1000000 ∧ l ≠ t ∧ SqL K H l xs ∧ 1 ≤ xs.length ∧ xs.length ≤ 10000 ∧
  ∀ (j : Nat) (v : V) (H' : Hp), xs[j]? = some v → Kept t H H' → Tub H' t c (n + 1) → Q v H'
/-- the drawer as it is made: new -/
def spTub (K : PySem.W.Frag) : Sp := fun vs H Q _ => ∃ (a : Addr) (ns : List Int), vs = [.ref a] ∧ SqL K H a (ns.map V.int) ∧ ns.length ≤ 1000 ∧ ∀ t c H', H t = none → H c = none → Same H H' → Tub H' t c 0 → Q (.ref t) H'
theorem given_all {α : Type} (ns : List α) (d : α) (f : α → V) : Evl.given ns.length (fun _ => true) (fun i => f (ns.getD i d)) = ns.map f := by
  unfold Evl.given
  rw [List.filter_eq_self.mpr (fun _ _ => rfl)]
  refine List.ext_getElem (by simp) fun i h1 h2 => ?_
  have h3 : i < ns.length := by simpa using h2
  simp [List.getD_eq_getElem?_getD, h3]
theorem erase_map : ∀ (l : List Int) (j : Nat), (l.map V.int).eraseIdx j = (l.eraseIdx j).map V.int
  | [], j => by simp
  | _ :: _, 0 => rfl
  | a :: r, j + 1 => by
    have ih := erase_map r j
    simp [ih]
/-! ### going on behind an argument, a list made, a call -/
theorem ret_lst {t : TA} {D : Ends} {σ : L2.St} {H : Hp} (h : t σ H fun xs H1 => xs.length ≤ sizeLine ∧ ∀ p, H1 p = none → D.rt (.ref p) (upd H1 p (.lst xs))) : tRet (tLst t) D σ H := h
theorem go_l {te : TE} {σ : L2.St} {H : Hp} {Q : VK} {xs : List V} (h : Evl.EvL te σ H xs) (k : ∀ p H1, H p = none → Evl.Ex H H1 → H1 p = some (.lst xs) → Q (.ref p) H1) : te σ H Q := h H (Evl.Ex.refl H) Q k
theorem go_v {te : TE} {σ : L2.St} {H : Hp} {Q : VK} {v : V} (h : Evl.Ev te σ H v) (k : ∀ H1, Evl.Ex H H1 → Q v H1) : te σ H Q := h H (Evl.Ex.refl H) Q k
theorem cons_l {ta : TE} {tr : TA} {σ : L2.St} {H : Hp} {Q : List V → Hp → Prop} {xs : List V} (h : Evl.EvL ta σ H xs) (k : ∀ p H1, H p = none → Evl.Ex H H1 → H1 p = some (.lst xs) → tr σ H1 fun vs H2 => Q (.ref p :: vs) H2) : tCons ta tr σ H Q := h H (Evl.Ex.refl H) _ k
theorem cons_v {ta : TE} {tr : TA} {σ : L2.St} {H : Hp} {Q : List V → Hp → Prop} {v : V} (h : Evl.Ev ta σ H v) (k : ∀ H1, Evl.Ex H H1 → tr σ H1 fun vs H2 => Q (v :: vs) H2) : tCons ta tr σ H Q := h H (Evl.Ex.refl H) _ k
theorem et_yes {σ : L2.St} {H : Hp} : Evl.EvT tYes σ H true := fun H1 _ _ q => q H1 (Evl.Ex.refl H1)
theorem cut60 (xs : List V) : cutV xs none (some 61) = xs.take 61 := by
  unfold cutV
  rw [HT.sIx_none, show HT.sIx xs.length xs.length (some 61) = min 61 xs.length from HT.sIx_nat _ _ 61, List.drop_zero, Nat.sub_zero]
  by_cases h : 61 ≤ xs.length
  · rw [Nat.min_eq_left h]
  · rw [Nat.min_eq_right (by omega), List.take_length, List.take_of_length_le (by omega)]
section
variable {P : Program} {w : World} {K : PySem.W.Frag} {mg : Str → Option Value} {base : Heap}
theorem ok_pick {f fS : Addr} {fd fdS : FuncData} {k : Nat} (F : Fun K "_law_pick" "_law_pick" sPick f fd) (FS : Fun K "_law_levy" "_law_levy" sScoop fS fdS) (GS : FnOk P w K mg base CX0 k fS fdS ["toll", "many"] spScoop) (bS : Binds K fdS ["toll", "many"] [])
    (gS : mg "_law_levy" = some (.ref fS)) (mlen : mg "len" = none) : FnOk P w K mg base CX0 (k + 1) f fd ["toll", "some"] (spPick K) := by
  refine F.ok scPick (fun vs H Q E h => ?_) (fun cdv A outer s H vs Q E hr h => ?_)
  · obtain ⟨t, c, l, xs, n, rfl, _⟩ := h
    rfl
  · obtain ⟨t, c, l, xs, n, rfl, hT, hn, hlt, hS, h1, h2, q⟩ := h
    refine ⟨_, pss_one (ps_ret (pe_ix ix_list (pv 1) (pe_call GS hr (by rfl) gS FS.kp bS .nil pass0 (pa_cons (pv 0) (pa_cons (pe_callB call_len_seq (by rfl) mlen PySem.boot_len (pa_cons (pv 1) pa_nil)) pa_nil))) (fun _ _ => rfl))), ?_⟩
    refine ⟨.ref l, rfl, .ref t, rfl, .ref l, rfl, l, xs, rfl, .inl hS, t, c, (xs.length : Int), n, rfl, hT, by omega, by omega, by omega, fun r H' r0 r1 hk hT' => ?_⟩
    obtain ⟨j, v, hj, ha⟩ := at_drawn r0 r1
    exact ⟨l, xs, r, v, rfl, rfl, hk.seq hlt hS, ha, q j v H' hj hk hT'⟩
theorem ok_tub {f : Addr} {fd : FuncData} {k : Nat} (F : Fun K "_law_toll" "_law_toll" sTub f fd) (mint : mg "int" = none) : FnOk P w K mg base CX0 (k + 1) f fd ["script"] (spTub K) := by
  refine F.ok scTub (fun vs H Q E h => ?_) (fun cdv A outer s H vs Q E hr h => ?_)
  · obtain ⟨a, ns, rfl, _⟩ := h
    rfl
  · obtain ⟨a, ns, rfl, hS, hl, q⟩ := h
    have nd := scTub.nd
    refine ⟨_, pss_one (ps_ret (pe_lst (pa_cons (pe_lc (own := [("cell", 1)]) (g := gName 1) (tt := tYes) rfl nd (pi_list (pe_slice sl_list (pv 0) po_none (po_some pe_int))) (blkOk_by (N := ["script", "cell"]) (sc := defScope sTub) (by decide +kernel)) (fun _ _ _ _ _ => pg_name (i := 1) nd rfl (Or.inl rfl)) (fun _ _ _ _ _ => pts_nil) (fun _ _ _ _ _ => pe_callTy call_int1 (by rfl) mint (by decide +kernel) (pa_cons (pv 1) pa_nil))) (pa_cons pe_int (pa_cons pe_int pa_nil))))), ?_⟩
    have e0 : cutV (ns.map V.int) none (some 61) = (ns.take 61).map V.int := by rw [cut60, List.map_take]
    refine ret_lst (cons_l (Evl.el_lcNL (K := K) (H := H) (j := 1) (xs := (ns.take 61).map V.int) (fun _ => true) (fun i => V.int ((ns.take 61).getD i 0)) ?_ ?_ ?_ ?_ ?_) (fun p H1 hp e1 h1 => ?_))
    · rw [← e0]
      exact Evl.el_sl (Evl.ev_var rfl) Evl.eo_none (Evl.eo_some Evl.ev_c) hS
    · rw [List.length_map, List.length_take]
      omega
    · exact fun x => rfl
    · exact fun i x H1 _ _ => et_yes
    · intro i x H1 _ hx _
      have hx2 : x = V.int ((ns.take 61).getD i 0) := by
        rw [List.getElem?_map] at hx
        cases hz : (ns.take 61)[i]? with
        | none => rw [hz] at hx; cases hx
        | some z =>
          rw [hz] at hx
          rw [List.getD_eq_getElem?_getD, hz]
          exact (Option.some.inj hx).symm
      subst hx2
      exact ev_int (Evl.ev_var rfl)
    · rw [List.length_map, given_all (ns.take 61) 0 V.int] at h1
      refine ⟨by show 3 ≤ sizeLine; decide, fun t ht => ?_⟩
      refine q t p _ (Evl.fresh_back e1 ht) hp (fun b o hb => ?_) ⟨ns.take 61, 0, 0, upd_same, ?_, ne_of_none h1 ht, by rw [List.length_take]; omega, Int.le_refl _, Int.le_refl _, Int.le_refl _⟩
      · rw [upd_ne (ne_of_none (e1 _ _ hb) ht)]
        exact e1 _ _ hb
      · rw [upd_ne (ne_of_none h1 ht)]
        exact h1
end

end P59
end S_Lb
section S_Wf
namespace Hk
open PySem PySem.Spec PyProof.Rows L2
theorem args_minD (a v : Value) : argsOk "min" ⟨[a], [(Str.ofString "default", v)]⟩ := by unfold argsOk; kernel_rfl
section
variable {prog : Program} {w : World} {A : Around} {E : Value → Shared → Prop} {s : Shared}
/-- min of an empty list, with what is told for none -/
theorem min_none {l : Addr} {d : Value} {Q : Value → Shared → Prop} (hh : A.handled = none) (hl : s.heap.IsList l #[]) (k : ∀ h' tk, (∀ b o, s.heap.get? b = some o → h'.get? b = some o) → Q d { s with heap := h', toks := tk }) :
    wpAny (model prog w) A (call (.builtin "min") [.ref l] [(Str.ofString "default", d)]) Q E s := by
  refine PyProof.Rows.kmk_tree PySem.F.kind_min PySem.F.plain_min PySem.F.entry_min (args_minD _ _) ?_
  show wpAny _ A.in1 (Builtin.Builtins.bindParams "min" ["key", "default"] 0 ⟨[], [(Str.ofString "default", d)]⟩ >>= _) _ _ s
  refine wpAny_bind (wpAny_of_eq (show Builtin.Builtins.bindParams "min" ["key", "default"] 0 ⟨[], [(Str.ofString "default", d)]⟩ = pure [none, some d] from rfl) (wpAny_bind (wpAny_pure (wpAny_bind (wpAny_pyIter_list hl (wpAny_bind (wpAny_newList ?_ (Nat.zero_le _))))))))
  rw [show (toString "min" ++ toString ".loop" : String) = "min.loop" by decide]
  have ll : l < s.heap.objs.size := by
    obtain ⟨o, ho, _⟩ := hl
    exact Heap.lt_size ho
  refine wpAny_pure ⟨plainId_quiet PySem.F.plain_min_loop _, ?_⟩
  have up : ∀ b o, s.heap.get? b = some o → ((s.heap.push { cls := .type "list_iterator", data := .fields #[.ref l, .int 0 0] }).push (seqObj "list" #[] 0)).get? b = some o := fun b o e => Heap.get?_push_of_some _ (Heap.get?_push_of_some _ e)
  have gI : ((s.heap.push { cls := .type "list_iterator", data := .fields #[.ref l, .int 0 0] }).push (seqObj "list" #[] 0)).get? s.heap.objs.size = some { cls := .type "list_iterator", data := .fields #[.ref l, .int 0 0] } := Heap.get?_push_of_some _ (Heap.get?_push_size _ rfl)
  have gS : ((s.heap.push { cls := .type "list_iterator", data := .fields #[.ref l, .int 0 0] }).push (seqObj "list" #[] 0)).get? (s.heap.push { cls := .type "list_iterator", data := .fields #[.ref l, .int 0 0] }).objs.size = some (seqObj "list" #[] 0) := Heap.get?_push_size _ rfl
  refine codeAny_builtin PySem.F.entry_min_loop ?_
  rw [Around.under_plainId PySem.F.plain_min_loop _]
  refine wpAny_bind (wpAny_seqItems gS rfl (wpAny_bind (wpAny_tryCatch (wpAny_pyNext_list_end (i := 0) (items := #[]) hh ⟨_, gI, rfl, rfl⟩ (let ⟨o, ho, r⟩ := hl; ⟨o, up _ _ ho, r⟩) rfl fun h' ext => ?_))))
  show wpAny _ _ (do rule (toString "min" ++ toString ".default"); (ret d : Sem Fin)) _ _ _
  exact wpAny_bind (wpAny_rule (wpAny_pure (k _ _ fun b o e => ext b o (Nat.ne_of_lt (Heap.lt_size e)) (up b o e))))
end
def rMinN (K : PySem.W.Frag) : List V → List V → Hp → VK → Prop := fun xs zs H Q => ∃ (l : Addr) (z : V), xs = [.ref l] ∧ zs = [z] ∧ SqL K H l [] ∧ Q z H
theorem call_minN {X : Cx} (hc : X.calm = true) : CallRK X (.builtin "min") ["default"] (rMinN X.K) := by
  intro pins s σ H xs zs us ws Q I r r2 h
  obtain ⟨l, z, rfl, rfl, hS, q⟩ := h
  cases r with
  | cons rx rr =>
    cases rr
    cases rx
    cases r2 with
    | cons rz rr =>
      cases rr
      obtain ⟨its, rv, pl, hz⟩ := I.list hS
      have e : its = [] := by cases rv; rfl
      subst e
      exact min_none (I.ok.hd hc) pl.isList fun h' tk kp => ⟨z, H, I.kept (t' := tk) kp, rz, q⟩
end Hk
end S_Wf
section S_Wg
namespace Hk
open PySem PySem.Spec PyProof.Rows L2 Tl
section
open Evl
variable {K : PySem.W.Frag} {σ : L2.St} {H H' B : Hp} {ta tb te : TE} {x y z v : V}
theorem s_retN {te : TE} {D : Ends} {R : V → Hp → Prop} (h : EvN te σ H R) (k : ∀ v H1, Ex H H1 → (∀ H3, Ex H H3 → Since H H1 H3 → R v H3) → D.rt v H1) : tRet te D σ H := h H (Ex.refl H) D.rt k
theorem s_retB {te : TE} {D : Ends} {R : V → Hp → Prop} {B : Hp} (hB : Ex B H) (h : EvN te σ B R) (k : ∀ v H1, Ex H H1 → (∀ H3, Ex B H3 → Since H H1 H3 → R v H3) → D.rt v H1) : tRet te D σ H := h H hB D.rt k
theorem q_asgN {te : TE} {tz : TS} {i : Nat} {D : Ends} {R : V → Hp → Prop} {B : Hp} (hB : Ex B H) (h : EvN te σ B R) (k : ∀ v H1, Ex H H1 → (∀ H3, Ex B H3 → Since H H1 H3 → R v H3) → tz D (σ.set i (some v)) H1) : tSeq (tAsg te (gName i)) tz D σ H := h H hB _ k
def SpN (sp : Sp) (vs : List V) (H : Hp) (R : V → Hp → Prop) : Prop := ∀ H1, Ex H H1 → ∀ Q : VK, (∀ v H2, Ex H1 H2 → (∀ H3, Ex H H3 → Since H1 H2 H3 → R v H3) → Q v H2) → ∀ E : XK, sp vs H1 Q E
theorem en_call {sp : Sp} {dvs vs : List V} {E : XK} {ta : TA} {R : V → Hp → Prop} (h : EvA ta σ H vs) (hs : SpN sp (vs ++ dvs) H R) : EvN (tCall sp dvs E ta) σ H R := fun H1 e Q q =>
  h H1 e _ fun H2 e2 => hs H2 (e.trans e2) Q (fun v H3 e3 hv => q v H3 (e2.trans e3) fun H4 h4 s4 => hv H4 h4 fun a o ha hc => s4 a o (fresh_back e2 ha) hc) E
theorem en_tup {ta : TE} {a : Addr} {xs : List V} (h : Ev ta σ H (.ref a)) (hs : SqL K H a xs) : EvN (tCB (fun xs H Q => ∃ p ys, xs = [V.ref p] ∧ ((SqL K H p ys ∧ ∀ l, H l = none → Q (V.ref l) (upd H l (HO.tup ys))) ∨ (SqT K H p ys ∧ Q (V.ref p) H))) (tCons ta tNil)) σ H
    (fun u H' => ∃ t, u = .ref t ∧ H' t = some (.tup xs)) := fun H1 e Q q =>
  h H1 e _ fun H2 e2 => ⟨a, xs, rfl, .inl ⟨ex_l (e.trans e2) hs, fun t ht => q _ _ (e2.trans (Ex.new ht)) fun H3 _ s3 => ⟨t, rfl, s3 _ _ (fresh_back e2 ht) upd_same⟩⟩⟩
theorem ei_rng2c {σ : L2.St} {H : Hp} {ta : TA} {i j : Int} {n : Nat} (hn : (j - i).toNat = n) (h : Evl.EvA ta σ H [.int i, .int j]) (h0 : -100000 ≤ i ∧ i ≤ 100000) (h1 : -100000 ≤ j ∧ j ≤ 100000) : EvI (iRng2 ta) σ H n (YFn fun k => .int (i + k)) := by
  subst hn
  exact ei_rng2 h h0 h1
theorem ei_rng1c {σ : L2.St} {H : Hp} {ta : TA} {j : Int} {n : Nat} (hn : j.toNat = n) (h : Evl.EvA ta σ H [.int j]) (h0 : 0 ≤ j) (h1 : j ≤ 100000) : EvI (iRng1 ta) σ H n (YFn fun k => .int (0 + k)) := by
  subst hn
  exact ei_rng1 h h0 h1
end
end Hk
end S_Wg
section S_Lc
namespace P59
open PySem PySem.Spec PyProof.Rows L2 Tl Hk
/-- a value, and whether it is a list of integers within bounds -/
inductive RowR (K : PySem.W.Frag) (H : Hp) (lo hi : V) : V → Bool → Prop where
  | no {x : V} {n : String} (h : Ty7 K H x n) (h1 : n ≠ "list") (h2 : n ≠ "tuple") : RowR K H lo hi x false
  | lst {a : Addr} {xs : List V} (h : SqL K H a xs) (hl : xs.length ≤ 4000) (hi_ : ∀ v ∈ xs, ∃ n, Ty7 K H v n) : RowR K H lo hi (.ref a) (xs.all fun v => wi v lo hi)
  | tup {a : Addr} {xs : List V} (h : SqT K H a xs) (hl : xs.length ≤ 4000) (hi_ : ∀ v ∈ xs, ∃ n, Ty7 K H v n) : RowR K H lo hi (.ref a) (xs.all fun v => wi v lo hi)
theorem RowR.ex {K : PySem.W.Frag} {H H' : Hp} {lo hi x : V} {r : Bool} (h : RowR K H lo hi x r) (e : Evl.Ex H H') : RowR K H' lo hi x r := by
  cases h with
  | no h h1 h2 => exact .no (h.ex e) h1 h2
  | lst h hl hi => exact .lst (Evl.ex_l e h) hl fun v hv => (hi v hv).imp fun n hn => hn.ex e
  | tup h hl hi => exact .tup (Evl.ex_t e h) hl fun v hv => (hi v hv).imp fun n hn => hn.ex e
def spRow (K : PySem.W.Frag) : Sp := fun vs H Q _ => ∃ (x lo hi : V) (r : Bool), vs = [x, lo, hi] ∧ RowR K H lo hi x r ∧ Bnd lo ∧ Bnd hi ∧ ∀ H1, Evl.Ex H H1 → Q (.bl r) H1
def spWord (K : PySem.W.Frag) : Sp := fun vs H Q _ => ∃ (x : V) (r : Bool), vs = [x] ∧ RowR K H (.int 0) .non x r ∧ ∀ H1, Evl.Ex H H1 → Q (.bl r) H1
theorem scIsWord : FnScope ["value"] ["value"] (defScope sIsWord) := ⟨rfl, rfl, rfl, by decide +kernel, rfl, by decide +kernel, by decide +kernel⟩
theorem scRow : FnScope ["value", "least", "most", "item"] ["value", "least", "most"] (defScope sRow) := ⟨rfl, rfl, rfl, by decide +kernel, rfl, by decide +kernel, by decide +kernel⟩
section
variable {P : Program} {w : World} {K : PySem.W.Frag} {mg : Str → Option Value} {base : Heap}
theorem ok_row {f fW fL : Addr} {fd fdW fdL : FuncData} {k : Nat} (F : Fun K "is_row" "is_row" sRow f fd)
    (FW : Fun K "is_within" "is_within" sWithin fW fdW) (GW : FnOk P w K mg base CX0 k fW fdW ["value", "least", "most"] (spWithin K)) (bW : Binds K fdW ["value", "least", "most"] []) (gW : mg "is_within" = some (.ref fW))
    (FL : Fun K "is_list" "is_list" sList fL fdL) (GL : FnOk P w K mg base CX0 k fL fdL ["value"] (spList K)) (bL : Binds K fdL ["value"] []) (gL : mg "is_list" = some (.ref fL)) (mall : mg "all" = none) :
    FnOk P w K mg base CX0 (k + 1) f fd ["value", "least", "most"] (spRow K) := by
  refine F.ok scRow (fun vs H Q E h => ?_) (fun cdv A outer s H vs Q E hr h => ?_)
  · obtain ⟨x, lo, hi, r, rfl, _⟩ := h
    rfl
  · obtain ⟨x, lo, hi, r, rfl, h, hlo, hhi, q⟩ := h
    have nd := scRow.nd
    have isl : ∀ {n : String}, Ty7 K H x n → Evl.Ev (tCall (spList K) [] E0 (tCons (tVar 0) tNil)) (start ["value", "least", "most", "item"] [x, lo, hi]) H (.bl (decide (n = "list") || decide (n = "tuple"))) :=
      fun h7 => Evl.ev_call (Evl.ea_cons (Evl.ev_var rfl) Evl.ea_nil) (spv_list h7)
    have items : ∀ {H1 : Hp} {xs : List V} {i : Nat} {v : V}, Evl.Ex H H1 → (∀ v ∈ xs, ∃ n, Ty7 K H v n) → xs[i]? = some v → Evl.Ev (tCall (spWithin K) [] E0 (tCons (tVar 3) (tCons (tVar 1) (tCons (tVar 2) tNil)))) [none, some lo, some hi, some v] H1 (.bl (wi (xs.getD i .non) lo hi)) :=
      fun {H1 xs i v} e hi' hv => by
        obtain ⟨n, hn⟩ := hi' v (List.mem_of_getElem? hv)
        have ev : xs.getD i .non = v := by rw [List.getD_eq_getElem?_getD, hv]; rfl
        rw [ev]
        exact Evl.ev_call (Evl.ea_cons (Evl.ev_var rfl) (Evl.ea_cons (Evl.ev_var rfl) (Evl.ea_cons (Evl.ev_var rfl) Evl.ea_nil))) (spv_within (hn.ex e) hlo hhi)
    have ebs : ∀ xs : List V, Evl.given xs.length (fun _ => true) (fun i => V.bl (wi (xs.getD i .non) lo hi)) = (xs.map fun v => wi v lo hi).map V.bl := fun xs => by
      rw [given_all xs .non fun v => V.bl (wi v lo hi), List.map_map]
      rfl
    have eall : ∀ xs : List V, (true && (xs.map fun v => wi v lo hi).all id) = xs.all fun v => wi v lo hi := fun xs => by
      rw [Bool.true_and, List.all_map]
      rfl
    cases h with
    | @no x n h7 h1 h2 =>
      refine ⟨_, pss_one (ps_ret (pe_and (pe_call GL hr (by rfl) gL FL.kp bL .nil pass0 (pa_cons (pv 0) pa_nil)) (pe_one (pe_callB (cr_all rfl) (by rfl) mall (by decide +kernel) (pa_cons
          (pe_lc (own := [("item", 3)]) (g := gName 3) (tt := tYes) rfl nd (pi_list (pv 0)) (blkOk_by (N := ["value", "least", "most", "item"]) (sc := defScope sRow) (by decide +kernel)) (fun _ _ _ _ _ => pg_name (i := 3) nd rfl (Or.inl rfl)) (fun _ _ _ _ _ => pts_nil)
            (fun _ _ _ _ _ => pe_call GW (hr) (by rfl) gW FW.kp bW .nil pass0 (pa_cons (pv 3) (pa_cons (pv 1) (pa_cons (pv 2) pa_nil))))) pa_nil))))), ?_⟩
      have eb : (decide (n = "list") || decide (n = "tuple")) = false := by simp [h1, h2]
      exact Evl.s_ret (Evl.ev_is (Evl.ev_andV (b := false) (isl h7) fun z => by rw [eb] at z; cases z) (by rw [eb] <;> rfl)) q
    | @lst a xs hS hl hi0 =>
      refine ⟨_, pss_one (ps_ret (pe_and (pe_call GL hr (by rfl) gL FL.kp bL .nil pass0 (pa_cons (pv 0) pa_nil)) (pe_one (pe_callB (cr_all rfl) (by rfl) mall (by decide +kernel) (pa_cons
          (pe_lc (own := [("item", 3)]) (g := gName 3) (tt := tYes) rfl nd (pi_list (pv 0)) (blkOk_by (N := ["value", "least", "most", "item"]) (sc := defScope sRow) (by decide +kernel)) (fun _ _ _ _ _ => pg_name (i := 3) nd rfl (Or.inl rfl)) (fun _ _ _ _ _ => pts_nil)
            (fun _ _ _ _ _ => pe_call GW (hr) (by rfl) gW FW.kp bW .nil pass0 (pa_cons (pv 3) (pa_cons (pv 1) (pa_cons (pv 2) pa_nil))))) pa_nil))))), ?_⟩
      refine Evl.s_ret (Evl.ev_is (Evl.ev_andV (isl (.lst hS)) fun _ => ev_allN (bs := xs.map fun v => wi v lo hi) ?_) (congrArg V.bl (eall xs))) q
      rw [← ebs]
      exact Evl.el_lcL (fun _ => true) _ (Evl.ev_var rfl) hS (by omega) (fun _ => rfl) (fun _ _ _ _ _ => et_yes) fun i v H1 e1 hv _ => items e1 hi0 hv
    | @tup a xs hS hl hi0 =>
      refine ⟨_, pss_one (ps_ret (pe_and (pe_call GL hr (by rfl) gL FL.kp bL .nil pass0 (pa_cons (pv 0) pa_nil)) (pe_one (pe_callB (cr_all rfl) (by rfl) mall (by decide +kernel) (pa_cons
          (pe_lc (own := [("item", 3)]) (g := gName 3) (tt := tYes) rfl nd (pi_tup (pv 0)) (blkOk_by (N := ["value", "least", "most", "item"]) (sc := defScope sRow) (by decide +kernel)) (fun _ _ _ _ _ => pg_name (i := 3) nd rfl (Or.inl rfl)) (fun _ _ _ _ _ => pts_nil)
            (fun _ _ _ _ _ => pe_call GW (hr) (by rfl) gW FW.kp bW .nil pass0 (pa_cons (pv 3) (pa_cons (pv 1) (pa_cons (pv 2) pa_nil))))) pa_nil))))), ?_⟩
      refine Evl.s_ret (Evl.ev_is (Evl.ev_andV (isl (.tup hS)) fun _ => ev_allN (bs := xs.map fun v => wi v lo hi) ?_) (congrArg V.bl (eall xs))) q
      rw [← ebs]
      exact el_lcT (fun _ => true) _ (Evl.ev_var rfl) hS (by omega) (fun _ => rfl) (fun _ _ _ _ _ => et_yes) fun i v H1 e1 hv _ => items e1 hi0 hv
theorem ok_isWord {f fR : Addr} {fd fdR : FuncData} {k : Nat} (F : Fun K "is_word" "is_word" sIsWord f fd)
    (FR : Fun K "is_row" "is_row" sRow fR fdR) (GR : FnOk P w K mg base CX0 k fR fdR ["value", "least", "most"] (spRow K)) (bR : Binds K fdR ["value", "least", "most"] []) (gR : mg "is_row" = some (.ref fR)) :
    FnOk P w K mg base CX0 (k + 1) f fd ["value"] (spWord K) := by
  refine F.ok scIsWord (fun vs H Q E h => ?_) (fun cdv A outer s H vs Q E hr h => ?_)
  · obtain ⟨x, r, rfl, _⟩ := h
    rfl
  · obtain ⟨x, r, rfl, h, q⟩ := h
    refine ⟨_, pss_one (ps_ret (pe_call GR hr (by rfl) gR FR.kp bR .nil pass0 (pa_cons (pv 0) (pa_cons pe_int (pa_cons pe_non pa_nil))))), ?_⟩
    exact Evl.s_ret (Evl.ev_call (Evl.ea_cons (Evl.ev_var rfl) (Evl.ea_cons Evl.ev_c (Evl.ea_cons Evl.ev_c Evl.ea_nil))) fun H1 e Q q E => ⟨x, .int 0, .non, r, rfl, h.ex e, trivial, trivial, q⟩) q
end
end P59
end S_Lc
section S_Ld
namespace P59
open PySem PySem.Spec PyProof.Rows L2 Tl Hk
theorem scLot : FnScope ["value"] ["value"] (defScope sLot) := ⟨rfl, rfl, rfl, by decide +kernel, rfl, by decide +kernel, by decide +kernel⟩
/-- whether these items are a lot -/
def lotV (xs : List V) : Bool := xs.all (fun v => wi v (.int 1) .non) && decide xs.Nodup
/-- a value, and whether it is a lot -/
inductive LotR (K : PySem.W.Frag) (H : Hp) : V → Bool → Prop where
  | no {x : V} {n : String} (h : Ty7 K H x n) (h1 : n ≠ "list") (h2 : n ≠ "tuple") : LotR K H x false
  | lst {a : Addr} {xs : List V} (h : SqL K H a xs) (hl : xs.length ≤ 4000) (hi : ∀ v ∈ xs, ∃ n, Ty7 K H v n) : LotR K H (.ref a) (lotV xs)
  | tup {a : Addr} {xs : List V} (h : SqT K H a xs) (hl : xs.length ≤ 4000) (hi : ∀ v ∈ xs, ∃ n, Ty7 K H v n) : LotR K H (.ref a) (lotV xs)
theorem LotR.ex {K : PySem.W.Frag} {H H' : Hp} {x : V} {r : Bool} (h : LotR K H x r) (e : Evl.Ex H H') : LotR K H' x r := by
  cases h with
  | no h h1 h2 => exact .no (h.ex e) h1 h2
  | lst h hl hi => exact .lst (Evl.ex_l e h) hl fun v hv => (hi v hv).imp fun n hn => hn.ex e
  | tup h hl hi => exact .tup (Evl.ex_t e h) hl fun v hv => (hi v hv).imp fun n hn => hn.ex e
def spLot (K : PySem.W.Frag) : Sp := fun vs H Q _ => ∃ (x : V) (r : Bool), vs = [x] ∧ LotR K H x r ∧ ∀ H1, Evl.Ex H H1 → Q (.bl r) H1
theorem spv_lot {K : PySem.W.Frag} {H : Hp} {x : V} {r : Bool} (h : LotR K H x r) : Evl.SpV (spLot K) [x] H (.bl r) := fun H1 e Q q E => ⟨x, r, rfl, h.ex e, q⟩
theorem all_ints : ∀ {xs : List V}, xs.all (fun v => wi v (.int 1) .non) = true → ∃ ns : List Int, xs = ns.map V.int
  | [], _ => ⟨[], rfl⟩
  | x :: r, h => by
    rw [List.all_cons, Bool.and_eq_true_iff] at h
    obtain ⟨ns, e⟩ := all_ints h.2
    cases x with
    | int i => exact ⟨i :: ns, by rw [e]; rfl⟩
    | _ => exact absurd h.1 (by intro z; cases z)
theorem nodup_int (ns : List Int) : (ns.map V.int).Nodup ↔ ns.Nodup := by
  induction ns with
  | nil => exact ⟨fun _ => List.nodup_nil, fun _ => List.nodup_nil⟩
  | cons a r ih =>
    rw [List.map_cons, List.nodup_cons, List.nodup_cons, ih]
    refine and_congr (not_congr ?_) Iff.rfl
    rw [List.mem_map]
    exact ⟨fun ⟨b, hb, e⟩ => V.int.inj e ▸ hb, fun h => ⟨a, h, rfl⟩⟩
theorem spv_row {K : PySem.W.Frag} {H : Hp} {x lo hi : V} {r : Bool} (h : RowR K H lo hi x r) (h1 : Bnd lo) (h2 : Bnd hi) : Evl.SpV (spRow K) [x, lo, hi] H (.bl r) := fun H1 e Q q E => ⟨x, lo, hi, r, rfl, h.ex e, h1, h2, q⟩
/-- whether these items are unlike integers from lo on -/
def unV (lo : V) (xs : List V) : Bool := xs.all (fun v => wi v lo .non) && decide xs.Nodup
inductive UnR (K : PySem.W.Frag) (H : Hp) (lo : V) : V → Bool → Prop where
  | no {x : V} {n : String} (h : Ty7 K H x n) (h1 : n ≠ "list") (h2 : n ≠ "tuple") : UnR K H lo x false
  | lst {a : Addr} {xs : List V} (h : SqL K H a xs) (hl : xs.length ≤ 4000) (hi : ∀ v ∈ xs, ∃ n, Ty7 K H v n) : UnR K H lo (.ref a) (unV lo xs)
  | tup {a : Addr} {xs : List V} (h : SqT K H a xs) (hl : xs.length ≤ 4000) (hi : ∀ v ∈ xs, ∃ n, Ty7 K H v n) : UnR K H lo (.ref a) (unV lo xs)
theorem UnR.ex {K : PySem.W.Frag} {H H' : Hp} {lo x : V} {r : Bool} (h : UnR K H lo x r) (e : Evl.Ex H H') : UnR K H' lo x r := by
  cases h with
  | no h h1 h2 => exact .no (h.ex e) h1 h2
  | lst h hl hi => exact .lst (Evl.ex_l e h) hl fun v hv => (hi v hv).imp fun n hn => hn.ex e
  | tup h hl hi => exact .tup (Evl.ex_t e h) hl fun v hv => (hi v hv).imp fun n hn => hn.ex e
def spUn (K : PySem.W.Frag) : Sp := fun vs H Q _ => ∃ (x lo : V) (r : Bool), vs = [x, lo] ∧ UnR K H lo x r ∧ Bnd lo ∧ ∀ H1, Evl.Ex H H1 → Q (.bl r) H1
theorem spv_un {K : PySem.W.Frag} {H : Hp} {x lo : V} {r : Bool} (h : UnR K H lo x r) (h1 : Bnd lo) : Evl.SpV (spUn K) [x, lo] H (.bl r) := fun H1 e Q q E => ⟨x, lo, r, rfl, h.ex e, h1, q⟩
theorem ints_of {lo : V} : ∀ {xs : List V}, xs.all (fun v => wi v lo .non) = true → ∃ ns : List Int, xs = ns.map V.int
  | [], _ => ⟨[], rfl⟩
  | x :: r, h => by
    rw [List.all_cons, Bool.and_eq_true_iff] at h
    obtain ⟨ns, e⟩ := ints_of h.2
    cases x with
    | int i => exact ⟨i :: ns, by rw [e]; rfl⟩
    | _ => exact absurd h.1 (by intro z; cases z)
theorem un_end {xs : List V} {ns : List Int} {c : Nat} (e : xs = ns.map V.int) (hc : c = ns.length ↔ ns.Nodup) : decide (V.int (c : Int) = V.int (xs.length : Int)) = decide xs.Nodup := by
  subst e
  refine decide_eq_decide.mpr ?_
  rw [nodup_int, ← hc, List.length_map]
  exact ⟨fun z => by have := V.int.inj z; omega, fun z => by rw [z]⟩
theorem scUn : FnScope ["value", "least"] ["value", "least"] (defScope sUn) := ⟨rfl, rfl, rfl, by decide +kernel, rfl, by decide +kernel, by decide +kernel⟩
section
variable {P : Program} {w : World} {K : PySem.W.Frag} {mg : Str → Option Value} {base : Heap}
theorem ok_unlike {f fR : Addr} {fd fdR : FuncData} {k : Nat} (F : Fun K "are_unlike" "are_unlike" sUn f fd)
    (FR : Fun K "is_row" "is_row" sRow fR fdR) (GR : FnOk P w K mg base CX0 k fR fdR ["value", "least", "most"] (spRow K)) (bR : Binds K fdR ["value", "least", "most"] []) (gR : mg "is_row" = some (.ref fR))
    (mlen : mg "len" = none) (mset : mg "set" = none) : FnOk P w K mg base CX0 (k + 1) f fd ["value", "least"] (spUn K) := by
  refine F.ok scUn (fun vs H Q E h => ?_) (fun cdv A outer s H vs Q E hr h => ?_)
  · obtain ⟨x, lo, r, rfl, _⟩ := h
    rfl
  · obtain ⟨x, lo, r, rfl, h, hlo, q⟩ := h
    cases h with
    | @no x n h7 h1 h2 =>
      refine ⟨_, pss_one (ps_ret (pe_and (pe_call GR hr (by rfl) gR FR.kp bR .nil pass0 (pa_cons (pv 0) (pa_cons (pv 1) (pa_cons pe_non pa_nil)))) (pe_one (pe_cmpR op_eq (pe_lenSetN (by rfl) mlen (by rfl) mset (pv 0)) (pe_callB call_len_seq (by rfl) mlen PySem.boot_len (pa_cons (pv 0) pa_nil)) (nomark _))))), ?_⟩
      exact Evl.s_ret (Evl.ev_andV (b := false) (Evl.ev_call (Evl.ea_cons (Evl.ev_var rfl) (Evl.ea_cons (Evl.ev_var rfl) (Evl.ea_cons Evl.ev_c Evl.ea_nil))) (spv_row (.no h7 h1 h2) hlo trivial)) fun z => nomatch z) q
    | @lst a xs hS hl hi =>
      refine ⟨_, pss_one (ps_ret (pe_and (pe_call GR hr (by rfl) gR FR.kp bR .nil pass0 (pa_cons (pv 0) (pa_cons (pv 1) (pa_cons pe_non pa_nil)))) (pe_one (pe_cmpR op_eq (pe_lenSetN (by rfl) mlen (by rfl) mset (pv 0)) (pe_callB call_len_seq (by rfl) mlen PySem.boot_len (pa_cons (pv 0) pa_nil)) (nomark _))))), ?_⟩
      refine Evl.s_ret (v := .bl (unV lo xs)) (Evl.ev_andV (Evl.ev_call (Evl.ea_cons (Evl.ev_var rfl) (Evl.ea_cons (Evl.ev_var rfl) (Evl.ea_cons Evl.ev_c Evl.ea_nil))) (spv_row (.lst hS hl hi) hlo trivial)) fun ha H1 e Q' q' => ?_) q
      obtain ⟨ns, en⟩ := ints_of ha
      refine ⟨.ref a, rfl, a, ns, rfl, en ▸ Evl.ex_l e hS, by rw [en, List.length_map] at hl; exact hl, fun c hc => ⟨.ref a, rfl, a, xs, rfl, .inl (Evl.ex_l e hS), rfl, ?_⟩⟩
      rw [un_end en hc]
      exact q' H1 (Evl.Ex.refl _)
    | @tup a xs hS hl hi =>
      refine ⟨_, pss_one (ps_ret (pe_and (pe_call GR hr (by rfl) gR FR.kp bR .nil pass0 (pa_cons (pv 0) (pa_cons (pv 1) (pa_cons pe_non pa_nil)))) (pe_one (pe_cmpR op_eq (pe_lenSetU (by rfl) mlen (by rfl) mset (pv 0)) (pe_callB call_len_seq (by rfl) mlen PySem.boot_len (pa_cons (pv 0) pa_nil)) (nomark _))))), ?_⟩
      refine Evl.s_ret (v := .bl (unV lo xs)) (Evl.ev_andV (Evl.ev_call (Evl.ea_cons (Evl.ev_var rfl) (Evl.ea_cons (Evl.ev_var rfl) (Evl.ea_cons Evl.ev_c Evl.ea_nil))) (spv_row (.tup hS hl hi) hlo trivial)) fun ha H1 e Q' q' => ?_) q
      obtain ⟨ns, en⟩ := ints_of ha
      refine ⟨.ref a, rfl, a, ns, rfl, en ▸ Evl.ex_t e hS, by rw [en, List.length_map] at hl; exact hl, fun c hc => ⟨.ref a, rfl, a, xs, rfl, .inr (Evl.ex_t e hS), rfl, ?_⟩⟩
      rw [un_end en hc]
      exact q' H1 (Evl.Ex.refl _)
theorem LotR.un {H : Hp} {x : V} {r : Bool} (h : LotR K H x r) : UnR K H (.int 1) x r := by
  cases h with
  | no h h1 h2 => exact .no h h1 h2
  | lst h hl hi => exact .lst h hl hi
  | tup h hl hi => exact .tup h hl hi
theorem ok_lot {f fU : Addr} {fd fdU : FuncData} {k : Nat} (F : Fun K "is_lot" "is_lot" sLot f fd) (FU : Fun K "are_unlike" "are_unlike" sUn fU fdU) (GU : FnOk P w K mg base CX0 k fU fdU ["value", "least"] (spUn K)) (bU : Binds K fdU ["value", "least"] []) (gU : mg "are_unlike" = some (.ref fU)) :
    FnOk P w K mg base CX0 (k + 1) f fd ["value"] (spLot K) := by
  refine F.ok scLot (fun vs H Q E h => ?_) (fun cdv A outer s H vs Q E hr h => ?_)
  · obtain ⟨x, r, rfl, _⟩ := h
    rfl
  · obtain ⟨x, r, rfl, h, q⟩ := h
    refine ⟨_, pss_one (ps_ret (pe_call GU hr (by rfl) gU FU.kp bU .nil pass0 (pa_cons (pv 0) (pa_cons pe_int pa_nil)))), ?_⟩
    exact Evl.s_ret (Evl.ev_call (Evl.ea_cons (Evl.ev_var rfl) (Evl.ea_cons Evl.ev_c Evl.ea_nil)) (spv_un h.un trivial)) q
end
end P59
end S_Ld
section S_Yz
namespace Tl
open PySem PySem.Spec PyProof.Rows L2
/-- the pairs of a zip: keys by ints -/
abbrev zipK (ks : List Int) (ys : List V) : List (L2.Key × V) := (ks.map Sum.inl).zip ys
def tDictZip (K : PySem.W.Frag) (ta : TA) : TE := fun σ H Q => ta σ H fun vs H1 => ∃ (a b : Addr) (ks : List Int) (ys : List V), vs = [.ref a, .ref b] ∧ SqT K H1 a (ks.map V.int) ∧ SqT K H1 b ys ∧ ys.length = ks.length ∧
  ∀ p, H1 p = none → Q (.ref p) (upd H1 p (.dK (mergeK [] (zipK ks ys))))
theorem kv_zip {P : Program} {w : World} : ∀ {ks : List Int} {ys : List V} {us vs : List Value}, Vals (ks.map V.int) us → Vals ys vs → KV (zipK ks ys) ((ks.map (Sum.inl : Int → L2.Key)).zip vs) ∧ ∀ (i : Nat) (k v : Value), us[i]? = some k → vs[i]? = some v → ∃ q, ((ks.map (Sum.inl : Int → L2.Key)).zip vs)[i]? = some (q, v) ∧ (mixKind P w).is q k = true
  | [], ys, us, vs, r1, r2 => by
    cases r1
    exact ⟨.nil, fun i k v h => by simp at h⟩
  | k :: ks, [], us, vs, r1, r2 => by
    cases r2
    exact ⟨.nil, fun i k v _ h => by simp at h⟩
  | k :: ks, y :: ys, _, _, r1, r2 => by
    rw [List.map_cons] at r1
    cases r1 with
    | @cons _ u _ us hu t1 =>
      cases r2 with
      | @cons _ v _ vs hv t2 =>
        obtain ⟨a1, a2⟩ := kv_zip (P := P) (w := w) t1 t2
        refine ⟨.cons ⟨rfl, hv⟩ a1, fun i k' v' h1 h2 => ?_⟩
        cases i with
        | zero =>
          cases h1
          cases h2
          exact ⟨_, rfl, kV_is (P := P) (w := w) (k := Sum.inl k) hu⟩
        | succ i => exact a2 i k' v' (by simpa using h1) (by simpa using h2)
theorem pe_dictZip {X : Cx} {e e2 : Expr} {ta : TA} {p p2 q pos : Pos} (hg : Gl X "dict") (hm : X.mg "dict" = none) (hg2 : Gl X "zip") (hm2 : X.mg "zip" = none) (ha : PA X [e, e2] ta) (hc : X.calm = true := by rfl)
    (ns : starEach [e, e2] X.env = (false, eval e X.env) :: starEach [e2] X.env := by rfl) (np : (backTo q (starEach [e2] X.env)).any (·.1) = false := by rfl)
    (na : starEach [Expr.Call (.Name "zip" p2) [e, e2] [] q] X.env = (false, eval (Expr.Call (.Name "zip" p2) [e, e2] [] q) X.env) :: starEach [] X.env := by rfl) :
    PE X (.Call (.Name "dict" p) [.Call (.Name "zip" p2) [e, e2] [] q] [] pos) (tDictZip X.K ta) := by
  constructor
  intro pins s σ H Q I h
  refine Call_ (ld_blt I hg hm (show bootBuiltins "dict" = some (.type "dict") by decide +kernel) (PyProof.Rows.callWith_type1 (args_cons (Call_ (ld_blt I hg2 hm2 boot_zip (PyProof.Rows.callWith_type1 (thn (ha.run q pins s σ H _ I h) fun us s1 hv => ?_) ns np))) na) na rfl))
  obtain ⟨vs, H1, I1, r1, a, b, ks, ys, rfl, hA, hB, hl, q1⟩ := hv
  obtain ⟨u1, u2, rfl, ra, rb⟩ := vals2 r1
  cases ra
  cases rb
  obtain ⟨ua, va, pa, za⟩ := I1.tuple hA
  obtain ⟨ub, vb, pb, zb⟩ := I1.tuple hB
  have la : a < s1.heap.objs.size := by obtain ⟨o, ho, _⟩ := pa; exact Heap.lt_size ho
  have lb : b < s1.heap.objs.size := by obtain ⟨o, ho, _⟩ := pb; exact Heap.lt_size ho
  have D : ZipApart (s1.heap.objs.size + 4) (s1.heap.objs.size + 2) (s1.heap.objs.size + 3) s1.heap.objs.size (s1.heap.objs.size + 1) a b := PySem.W.ktu_apart _ _ _ la lb
  have n1 : ua.length = ks.length := by rw [← va.length, List.length_map]
  have n2 : ub.length = ks.length := by rw [← vb.length, hl]
  obtain ⟨rel, fits⟩ := kv_zip (P := X.prog) (w := X.w) va vb
  refine RZ.call_zipT pa pb fun g hz hTI hTO hi1 hi2 hsz hk => args_nil ?_
  have ok : ZOk (s1.heap.objs.size + 4) (s1.heap.objs.size + 2) (s1.heap.objs.size + 3) s1.heap.objs.size (s1.heap.objs.size + 1) a b ua.toArray ub.toArray g :=
    ⟨hz, hTI, ⟨_, _, hTO⟩, ⟨hi1, Heap.IsTuple.at pa fun o => hk _ o⟩, hi2, Heap.IsTuple.at pb fun o => hk _ o⟩
  have I2 : Inv X pins σ H1 { s1 with heap := g } := I1.kept (t' := s1.toks) hk
  refine call_dict_pairs (knd := mixKind X.prog X.w) (kvs := (ks.map (Sum.inl : Int → L2.Key)).zip ub) (pair_arg_zip (P := X.prog) (w := X.w) D (xs := ua.toArray) (ys := ub.toArray) (by simp [n1, n2])) (I1.ok.hd hc) ok ⟨by simp [n1, n2], fun i k v h => fits i k v (by simpa using h.1) (by simpa using h.2)⟩ (by
    rw [List.length_map] at za
    simp only [List.size_toArray]
    rw [n1]
    exact za) fun g2 tk hd hk2 => ?_
  have gz : g.objs.size = s1.heap.objs.size + 5 := hsz
  have hlen : (mergeK [] (zipK ks ys)).length ≤ sizeLine := by
    refine Nat.le_trans (length_mergeK _ []) ?_
    rw [List.length_nil, Nat.zero_add, List.length_zip, List.length_map, hl, Nat.min_self]
    rw [List.length_map] at za
    exact za
  have hm3 : (g.objs.size == sysModules) = false := beq_eq_false_iff_ne.mpr (Nat.ne_of_gt (by rw [gz]; exact Nat.lt_add_right 5 I1.big))
  have hold : ∀ b o, s1.heap.get? b = some o → g2.get? b = some o := fun b o e => by
    have lt := Heap.lt_size e
    have e5 : ∀ k, b ≠ s1.heap.objs.size + k := fun k z => Nat.lt_irrefl _ (Nat.lt_of_le_of_lt (Nat.le_add_right s1.heap.objs.size k) (z ▸ lt))
    refine hk2 b o (fun z => ?_) (hk b o e)
    simp only [List.mem_cons, List.not_mem_nil, or_false] at z
    rcases z with z | z | z | z
    · exact e5 4 z
    · exact e5 3 z
    · exact e5 0 z
    · exact e5 1 z
  have le : s1.heap.objs.size ≤ g.objs.size := by rw [gz]; exact Nat.le_add_right _ _
  exact ⟨.ref g.objs.size, upd H1 g.objs.size (.dK (mergeK [] (zipK ks ys))), I1.laid (t' := tk) hold le (show ObjOk X.prog X.w _ _ _ (.dK (mergeK [] (zipK ks ys))) from ⟨hlen, hm3, merged [] ((ks.map (Sum.inl : Int → L2.Key)).zip ub), KV.merge rel .nil, hd⟩), rfl, q1 _ (I1.hok.fresh le)⟩
end Tl
end S_Yz
section S_Le
namespace P59
open PySem PySem.Spec PyProof.Rows L2 Tl Hk
theorem lot_yes {ns : List Int} (h1 : ∀ x ∈ ns, 1 ≤ x) (h2 : ns.Nodup) : lotV (ns.map V.int) = true := by
  unfold lotV
  rw [decide_eq_true ((nodup_int ns).mpr h2), Bool.and_true, List.all_eq_true]
  intro v hv
  obtain ⟨i, hi, rfl⟩ := List.mem_map.mp hv
  show (decide (1 ≤ i) && true) = true
  rw [decide_eq_true (h1 i hi)]
  rfl
theorem in_ints (x : Int) (ns : List Int) : inV (.int x) (ns.map V.int) = decide (x ∈ ns) := by
  unfold inV
  induction ns with
  | nil => rfl
  | cons a r ih =>
    rw [List.map_cons, List.any_cons, ih]
    have e : eqV (.int a) (.int x) = decide (x = a) := by
      show decide (a = x) = decide (x = a)
      exact decide_eq_decide.mpr eq_comm
    rw [e, ← Bool.decide_or]
    exact decide_eq_decide.mpr List.mem_cons.symm
theorem flat_ints (ns : List Int) : (ns.map V.int).all flatV = true := by
  rw [List.all_eq_true]
  intro v hv
  obtain ⟨i, _, rfl⟩ := List.mem_map.mp hv
  rfl
/-- turns that a web may have -/
structure OkT (ts : List (List Int)) : Prop where
  pos : 1 ≤ ts.length
  most : ts.length ≤ 1000
  pl : ∀ (i : Nat) (ns : List Int), ts[i]? = some ns → ns.Nodup ∧ (∀ x ∈ ns, 1 ≤ x ∧ x ≤ (ts.length : Int)) ∧ ((i : Int) + 1) ∉ ns
  sym : ∀ (i : Nat) (ns : List Int) (o : Int), ts[i]? = some ns → o ∈ ns → ∃ ms, ts[(o - 1).toNat]? = some ms ∧ ((i : Int) + 1) ∈ ms
  few : (ts.map List.length).sum ≤ 30000
theorem nodup_len {n : Nat} : ∀ {ns : List Int}, ns.Nodup → (∀ x ∈ ns, 1 ≤ x ∧ x ≤ (n : Int)) → ns.length ≤ n := by
  induction n with
  | zero =>
    intro ns _ h
    cases ns with
    | nil => exact Nat.le_refl _
    | cons x r => have := h x List.mem_cons_self; omega
  | succ n ih =>
    intro ns hn h
    by_cases hm : ((n + 1 : Nat) : Int) ∈ ns
    · have h2 := ih (hn.erase ((n + 1 : Nat) : Int)) fun x hx => by
        have := hn.mem_erase_iff.mp hx
        have := h x this.2
        omega
      rw [List.length_erase_of_mem hm] at h2
      omega
    · have h2 := ih hn fun x hx => by
        have := h x hx
        have : x ≠ ((n + 1 : Nat) : Int) := fun z => hm (z ▸ hx)
        omega
      omega
theorem OkT.short {ts : List (List Int)} (T : OkT ts) {i : Nat} {ns : List Int} (h : ts[i]? = some ns) : ns.length ≤ 1000 := by
  obtain ⟨a, b, _⟩ := T.pl i ns h
  exact Nat.le_trans (nodup_len a b) T.most
/-- the lists (tuples) of ints at as -/
def RowsL (H : Hp) (as : List Addr) (ts : List (List Int)) : Prop := as.length = ts.length ∧ ∀ (i : Nat) (a : Addr) (ns : List Int), as[i]? = some a → ts[i]? = some ns → H a = some (.lst (ns.map V.int))
def RowsT (H : Hp) (as : List Addr) (ts : List (List Int)) : Prop := as.length = ts.length ∧ ∀ (i : Nat) (a : Addr) (ns : List Int), as[i]? = some a → ts[i]? = some ns → H a = some (.tup (ns.map V.int))
/-- a list of lists, a tuple of tuples -/
def LL (H : Hp) (l : Addr) (ts : List (List Int)) : Prop := ∃ as : List Addr, H l = some (.lst (as.map V.ref)) ∧ RowsL H as ts
def TT (H : Hp) (l : Addr) (ts : List (List Int)) : Prop := ∃ as : List Addr, H l = some (.tup (as.map V.ref)) ∧ RowsT H as ts
theorem RowsL.ex {A B : Hp} {as : List Addr} {ts : List (List Int)} (h : RowsL A as ts) (e : Evl.Ex A B) : RowsL B as ts := ⟨h.1, fun i a ns h1 h2 => e _ _ (h.2 i a ns h1 h2)⟩
theorem RowsT.ex {A B : Hp} {as : List Addr} {ts : List (List Int)} (h : RowsT A as ts) (e : Evl.Ex A B) : RowsT B as ts := ⟨h.1, fun i a ns h1 h2 => e _ _ (h.2 i a ns h1 h2)⟩
theorem LL.ex {A B : Hp} {l : Addr} {ts : List (List Int)} (h : LL A l ts) (e : Evl.Ex A B) : LL B l ts := h.imp fun as h => ⟨e _ _ h.1, h.2.ex e⟩
theorem TT.ex {A B : Hp} {l : Addr} {ts : List (List Int)} (h : TT A l ts) (e : Evl.Ex A B) : TT B l ts := h.imp fun as h => ⟨e _ _ h.1, h.2.ex e⟩
theorem refs_getD {as : List Addr} {i : Nat} {a : Addr} (h : as[i]? = some a) : (as.map V.ref).getD i .non = .ref a := by
  rw [List.getD_eq_getElem?_getD, List.getElem?_map, h]
  rfl
theorem ints_getD {ns : List Int} {i : Nat} (h : i < ns.length) : (ns.map V.int).getD i .non = .int (ns.getD i 0) := by
  rw [List.getD_eq_getElem?_getD, List.getElem?_map, List.getD_eq_getElem?_getD, List.getElem?_eq_getElem h]
  rfl
theorem both_at {α β : Type} {as : List α} {bs : List β} (h : as.length = bs.length) {i : Nat} (hi : i < as.length) : ∃ a b, as[i]? = some a ∧ bs[i]? = some b := ⟨as[i], bs[i]'(h ▸ hi), List.getElem?_eq_getElem hi, List.getElem?_eq_getElem _⟩
section
open Evl
variable {K : PySem.W.Frag} {σ : L2.St} {H : Hp}
theorem ev_allH {ta : TE} {n : Nat} (h : EvNL ta σ H (Holds (fun _ v _ => v = .bl true) n)) : Ev (tCB (rAll K) (tCons ta tNil)) σ H (.bl true) := fun H1 e Q q =>
  h H1 e _ fun p xs H2 hp e2 h2 hL => by
    obtain ⟨_, a2⟩ := hL H2 (e.trans e2) fun a o _ _ h => h
    have ex : xs = (List.replicate xs.length true).map V.bl := by
      rw [List.map_replicate]
      exact List.eq_replicate_iff.mpr ⟨rfl, fun v hv => by
        obtain ⟨i, hi, rfl⟩ := List.mem_iff_getElem.mp hv
        exact a2 i _ (List.getElem?_eq_getElem hi)⟩
    refine ⟨p, List.replicate xs.length true, rfl, sq_of (by rw [← ex]; exact h2), ?_⟩
    have : (List.replicate xs.length true).all id = true := List.all_eq_true.mpr fun b hb => (List.mem_replicate.mp hb).2
    rw [this]
    exact q H2 e2
theorem ev_allR {ta : TE} {β : Type} {bs : List β} (h : EvNL ta σ H (Row2 (fun _ v _ => v = .bl true) bs)) : Ev (tCB (rAll K) (tCons ta tNil)) σ H (.bl true) :=
  ev_allH (n := bs.length) fun H1 e Q q => h H1 e Q fun p xs H2 hp e2 h2 hL => q p xs H2 hp e2 h2 fun H3 h3 k => by
    obtain ⟨a1, a2⟩ := hL H3 h3 k
    exact ⟨a1, fun i v hv => by
      have hi := (List.getElem?_eq_some_iff.mp hv).1
      exact a2 i (bs[i]'(by omega)) v (List.getElem?_eq_getElem _) hv⟩
end
theorem scIsTurn : FnScope ["turn", "place", "many", "other"] ["turn", "place", "many"] (defScope sIsTurn) := ⟨rfl, rfl, rfl, by decide +kernel, rfl, by decide +kernel, by decide +kernel⟩
theorem scAre : FnScope ["turns", "many", "at", "turn", "tied", "other"] ["turns"] (defScope sAreTurns) := ⟨rfl, rfl, rfl, by decide +kernel, rfl, by decide +kernel, by decide +kernel⟩
def spIsTurn (K : PySem.W.Frag) : Sp := fun vs H Q _ => ∃ (a : Addr) (ns : List Int) (p m : Int), vs = [.ref a, .int p, .int m] ∧ SqL K H a (ns.map V.int) ∧ ns.length ≤ 4000 ∧ ns.Nodup ∧ (∀ x ∈ ns, 1 ≤ x ∧ x ≤ m) ∧ p ∉ ns ∧ ∀ H1, Evl.Ex H H1 → Q (.bl true) H1
theorem spv_isTurn {K : PySem.W.Frag} {H : Hp} {a : Addr} {ns : List Int} {p m : Int} (h : SqL K H a (ns.map V.int)) (hl : ns.length ≤ 4000) (hn : ns.Nodup) (hb : ∀ x ∈ ns, 1 ≤ x ∧ x ≤ m) (hp : p ∉ ns) : Evl.SpV (spIsTurn K) [.ref a, .int p, .int m] H (.bl true) :=
  fun H1 e Q q E => ⟨a, ns, p, m, rfl, Evl.ex_l e h, hl, hn, hb, hp, q⟩
section
variable {P : Program} {w : World} {K : PySem.W.Frag} {mg : Str → Option Value} {base : Heap}
theorem ok_isTurn {f fO : Addr} {fd fdO : FuncData} {k : Nat} (F : Fun K "_is_turn" "_is_turn" sIsTurn f fd)
    (FO : Fun K "is_lot" "is_lot" sLot fO fdO) (GO : FnOk P w K mg base CX0 k fO fdO ["value"] (spLot K)) (bO : Binds K fdO ["value"] []) (gO : mg "is_lot" = some (.ref fO)) (mall : mg "all" = none) :
    FnOk P w K mg base CX0 (k + 1) f fd ["turn", "place", "many"] (spIsTurn K) := by
  refine F.ok scIsTurn (fun vs H Q E h => ?_) (fun cdv A outer s H vs Q E hr h => ?_)
  · obtain ⟨a, ns, p, m, rfl, _⟩ := h
    rfl
  · obtain ⟨a, ns, p, m, rfl, hS, hl, hn, hb, hp, q⟩ := h
    have nd := scIsTurn.nd
    refine ⟨_, pss_one (ps_ret (pe_and (pe_call GO hr (by rfl) gO FO.kp bO .nil pass0 (pa_cons (pv 0) pa_nil)) (pe_and (pe_cmpR op_notIn_seq (pv 1) (pv 0) (by rfl)) (pe_one (pe_callB (cr_all rfl) (by rfl) mall (by decide +kernel) (pa_cons
      (pe_lc (own := [("other", 3)]) (g := gName 3) (tt := tYes) rfl nd (pi_list (pv 0)) (blkOk_by (N := ["turn", "place", "many", "other"]) (sc := defScope sIsTurn) (by decide +kernel)) (fun _ _ _ _ _ => pg_name (i := 3) nd rfl (Or.inl rfl)) (fun _ _ _ _ _ => pts_nil)
        (fun _ _ _ _ _ => pe_cmpR op_le (pv 3) (pv 2) (nomark _))) pa_nil)))))), ?_⟩
    have hlot := lot_yes (ns := ns) (fun x hx => (hb x hx).1) hn
    refine Evl.s_ret (v := .bl true) (Evl.ev_is (Evl.ev_andV (a := true) (b := true) (Evl.ev_is (Evl.ev_call (Evl.ea_cons (Evl.ev_var rfl) Evl.ea_nil) (spv_lot (.lst hS (by rw [List.length_map]; exact hl) fun v hv => by
      obtain ⟨i, _, rfl⟩ := List.mem_map.mp hv
      exact ⟨_, .int i⟩))) (by rw [hlot])) fun _ => Evl.ev_is (Evl.ev_andV (a := true) (b := true) (Evl.ev_is (Evl.ev_op (Evl.ev_var rfl) (Evl.ev_var rfl) (Evl.rv_niL hS rfl (flat_ints ns))) (by rw [in_ints, decide_eq_false hp] <;> rfl)) fun _ => ?_) rfl) rfl) fun H1 e1 => q H1 e1
    refine ev_allH (n := ns.length) ?_
    have e0 : ns.length = (ns.map V.int).length := by rw [List.length_map]
    rw [e0]
    refine en_lc (ei_list (Evl.ev_var rfl) hS) aims_at (fun _ => rfl) (by rw [List.length_map]; omega) _ fun i hi => en_v ?_
    rw [List.length_map] at hi
    have hm := (hb _ (List.getElem_mem hi)).2
    refine Evl.ev_is (Evl.ev_op (x := .int ns[i]) (Evl.ev_is (Evl.ev_var rfl) ?_) (Evl.ev_var rfl) Evl.rv_I0) (by rw [decide_eq_true hm])
    rw [ints_getD hi, List.getD_eq_getElem?_getD, List.getElem?_eq_getElem hi]
    rfl
end
end P59
end S_Le
section S_Lf
namespace P59
open PySem PySem.Spec PyProof.Rows L2 Tl Hk
def spAre (K : PySem.W.Frag) : Sp := fun vs H Q _ => ∃ (l : Addr) (ts : List (List Int)), vs = [.ref l] ∧ LL H l ts ∧ OkT ts ∧ ∀ H1, Evl.Ex H H1 → Q (.bl true) H1
theorem spv_are {K : PySem.W.Frag} {H : Hp} {l : Addr} {ts : List (List Int)} (h : LL H l ts) (T : OkT ts) : Evl.SpV (spAre K) [.ref l] H (.bl true) := fun H1 e Q q E => ⟨l, ts, rfl, h.ex e, T, q⟩
/-- the places each row tells, one by one -/
theorem len_rows (ts : List (List Int)) : ∀ n, n ≤ ts.length → (rows (fun i => (ts.getD i []).length) (fun _ _ => true) (fun i j => (i, j)) n).length = ((ts.take n).map List.length).sum
  | 0, _ => rfl
  | n + 1, h => by
    rw [rows_succ, List.length_append, len_rows ts n (by omega)]
    have e : (els (fun i => (ts.getD i []).length) (fun _ _ => true) (fun i j => (i, j)) n).length = (ts.getD n []).length := by
      unfold els
      rw [List.length_map, List.filter_eq_self.mpr (fun _ _ => rfl), List.length_range]
    have e2 : ts.getD n [] = ts[n]'(by omega) := by rw [List.getD_eq_getElem?_getD, List.getElem?_eq_getElem (by omega)] <;> rfl
    rw [e, List.take_add_one, List.getElem?_eq_getElem (by omega), e2, List.map_append, List.sum_append]
    simp
theorem rows_most {β : Type} {m : Nat → Nat} {f : Nat → Nat → Bool} {b : Nat → Nat → β} : ∀ n, (rows m f b n).length ≤ (rows m (fun _ _ => true) (fun i j => (i, j)) n).length
  | 0 => Nat.le_refl _
  | n + 1 => by
    rw [rows_succ, rows_succ, List.length_append, List.length_append]
    refine Nat.add_le_add (rows_most n) ?_
    unfold els
    rw [List.length_map, List.length_map, List.filter_eq_self.mpr (fun _ _ => rfl)]
    exact List.length_filter_le _ _
theorem OkT.rows {ts : List (List Int)} (T : OkT ts) {β : Type} {f : Nat → Nat → Bool} {b : Nat → Nat → β} : (rows (fun i => (ts.getD i []).length) f b ts.length).length ≤ 90000 := by
  refine Nat.le_trans (rows_most _) ?_
  rw [len_rows ts _ (Nat.le_refl _), List.take_length]
  exact Nat.le_trans T.few (by decide)
section
open Evl
theorem go_nl {te : TE} {σ : L2.St} {H : Hp} {L : List V → Hp → Prop} {Q : VK} (h : EvNL te σ H L) (k : ∀ p xs H1, H p = none → Ex H H1 → H1 p = some (.lst xs) → L xs H1 → Q (.ref p) H1) : te σ H Q := h H (Ex.refl H) Q fun p xs H1 hp e h1 hL => k p xs H1 hp e h1 (hL H1 e fun _ _ _ _ h => h)
theorem go_n {te : TE} {σ : L2.St} {H : Hp} {R : V → Hp → Prop} {Q : VK} (h : EvN te σ H R) (k : ∀ v H1, Ex H H1 → R v H1 → Q v H1) : te σ H Q := h H (Ex.refl H) Q fun v H1 e hR => k v H1 e (hR H1 e fun _ _ _ h => h)
theorem q_asgNL {te : TE} {tz : TS} {i : Nat} {σ : L2.St} {H : Hp} {D : Ends} {L : List V → Hp → Prop} (h : EvNL te σ H L) (k : ∀ p xs H1, H p = none → Ex H H1 → H1 p = some (.lst xs) → L xs H1 → tz D (σ.set i (some (.ref p))) H1) : tSeq (tAsg te (gName i)) tz D σ H :=
  go_nl h k
end
section
variable {P : Program} {w : World} {K : PySem.W.Frag} {mg : Str → Option Value} {base : Heap}
set_option maxHeartbeats 2000000 in
theorem ok_are {f fW fL fI : Addr} {fd fdW fdL fdI : FuncData} {k : Nat} (F : Fun K "_are_turns" "_are_turns" sAreTurns f fd)
    (FW : Fun K "is_within" "is_within" sWithin fW fdW) (GW : FnOk P w K mg base CX0 k fW fdW ["value", "least", "most"] (spWithin K)) (bW : Binds K fdW ["value", "least", "most"] []) (gW : mg "is_within" = some (.ref fW))
    (FL : Fun K "is_list" "is_list" sList fL fdL) (GL : FnOk P w K mg base CX0 k fL fdL ["value"] (spList K)) (bL : Binds K fdL ["value"] []) (gL : mg "is_list" = some (.ref fL))
    (FI : Fun K "_is_turn" "_is_turn" sIsTurn fI fdI) (GI : FnOk P w K mg base CX0 k fI fdI ["turn", "place", "many"] (spIsTurn K)) (bI : Binds K fdI ["turn", "place", "many"] []) (gI : mg "_is_turn" = some (.ref fI))
    {tM : Tok} (gM : mg "MOST_PLACES" = some (.int 1000 tM)) (mall : mg "all" = none) (mlen : mg "len" = none) (menum : mg "enumerate" = none) :
    FnOk P w K mg base CX0 (k + 1) f fd ["turns"] (spAre K) := by
  refine F.ok scAre (fun vs H Q E h => ?_) (fun cdv A outer s H vs Q E hr h => ?_)
  · obtain ⟨l, ts, rfl, _⟩ := h
    rfl
  · obtain ⟨l, ts, rfl, hL, hT, q⟩ := h
    have nd := scAre.nd
    refine ⟨_, pss_cons (ps_if (PW.pt (pw_or (pt_not (pt_val (pe_call GL hr (by rfl) gL FL.kp bL .nil pass0 (pa_cons (pv 0) pa_nil)))) (pw_or1 (pt_not (pt_val (pe_call GW hr (by rfl) gW FW.kp bW .nil pass0
          (pa_cons (pe_callB call_len_seq (by rfl) mlen PySem.boot_len (pa_cons (pv 0) pa_nil)) (pa_cons pe_int (pa_cons (pe_glob (v := .int 1000) (by rfl) gM ⟨_, rfl⟩) pa_nil))))))))) (pss_one (ps_ret pe_bl)) pss_nil)
      (pss_cons (ps_set (i := 1) nd rfl (.inr rfl) (pe_callB call_len_seq (by rfl) mlen PySem.boot_len (pa_cons (pv 0) pa_nil)))
      (pss_cons (ps_if (pt_not (pt_val (pe_callB (cr_all rfl) (by rfl) mall (by decide +kernel) (pa_cons
          (pe_lc (own := [("at", 2), ("turn", 3)]) (g := gTup K 2 (gCons (gName 2) (gCons (gName 3) gNil))) (tt := tYes) rfl nd (pi_enum (by rfl) menum (pa_cons (pv 0) pa_nil)) (blkOk_by (N := ["turns", "many", "at", "turn", "tied", "other"]) (sc := defScope sAreTurns) (by decide +kernel))
            (fun _ _ _ _ _ => pg_tup (by rfl) (pgs_cons (pg_name (i := 2) nd rfl (Or.inl rfl)) (pgs_cons (pg_name (i := 3) nd rfl (Or.inl rfl)) pgs_nil))) (fun _ _ _ _ _ => pts_nil)
            (fun _ _ _ _ _ => pe_call GI hr (by rfl) gI FI.kp bI .nil pass0 (pa_cons (pv 3) (pa_cons (pe_op op_add (pv 2) pe_int) (pa_cons (pv 1) pa_nil))))) pa_nil)))) (pss_one (ps_ret pe_bl)) pss_nil)
      (pss_cons (ps_set (i := 4) nd rfl (.inr rfl) (pe_lc (own := [("turn", 3)]) (g := gName 3) (tt := tYes) rfl nd (pi_list (pv 0)) (blkOk_by (N := ["turns", "many", "at", "turn", "tied", "other"]) (sc := defScope sAreTurns) (by decide +kernel))
            (fun _ _ _ _ _ => pg_name (i := 3) nd rfl (Or.inl rfl)) (fun _ _ _ _ _ => pts_nil)
            (fun _ _ _ _ _ => pe_dc (own := [("other", 5)]) (wi := iList K (tVar 3)) (g := gName 5) (tt := tYes) rfl nd (pi_list (pv 3)) (blkOk_by (N := ["turns", "many", "at", "turn", "tied", "other"]) (sc := { kind := .function, names := [(".0", .local), ("turn", .local)], isGenerator := false, isCoroutine := false }) (by decide +kernel))
              (fun _ _ _ _ _ => pg_name (i := 5) nd rfl (Or.inl rfl)) (fun _ _ _ _ _ => pts_nil) (fun _ _ _ _ _ => pv 5) (fun _ _ _ _ _ => pe_bl))))
      (pss_one (ps_ret (pe_callB (cr_all rfl) (by rfl) mall (by decide +kernel) (pa_cons
          (pe_lc2 (own := [("at", 2), ("turn", 3), ("other", 5)]) (vs1 := [5]) (wi1 := iList K (tVar 3)) (g := gTup K 2 (gCons (gName 2) (gCons (gName 3) gNil))) (g1 := gName 5) (tt := tYes) (tt1 := tYes) rfl nd (pi_enum (by rfl) menum (pa_cons (pv 0) pa_nil)) (blkOk_by (N := ["turns", "many", "at", "turn", "tied", "other"]) (sc := defScope sAreTurns) (by decide +kernel)) (by decide)
            (fun _ _ _ _ _ => pg_tup (by rfl) (pgs_cons (pg_name (i := 2) nd rfl (Or.inl rfl)) (pgs_cons (pg_name (i := 3) nd rfl (Or.inl rfl)) pgs_nil))) (fun _ _ _ _ _ => pts_nil)
            (fun _ _ _ _ _ => pi_list (pv 3)) (fun _ _ _ _ _ => pg_name (i := 5) nd rfl (Or.inl rfl)) (fun _ _ _ _ _ => pts_nil)
            (fun _ _ _ _ _ => pe_cmp (pc_din (hu_of hr) (pe_op op_add (pv 2) pe_int) (pe_ix (r := rIxL K) ix_list (pv 4) (pe_op op_sub (pv 5) pe_int) (fun _ _ => rfl))) rfl)) pa_nil))))))), ?_⟩
    obtain ⟨as, hl, ha, hrow⟩ := hL
    have hmap : (as.map V.ref).length = ts.length := by rw [List.length_map, ha]
    have item : ∀ i, i < ts.length → ∃ a ns, as[i]? = some a ∧ ts[i]? = some ns ∧ H a = some (.lst (ns.map V.int)) := fun i hi => by
      obtain ⟨a, ns, h1, h2⟩ := both_at ha (show i < as.length by omega)
      exact ⟨a, ns, h1, h2, hrow i a ns h1 h2⟩
    have p1 := hT.pos
    have p2 := hT.most
    refine Evl.q_when (b := false) (Evl.et_is (Evl.et_or (b := false) (Evl.et_is (Evl.et_not (Evl.et_B (Evl.ev_call (Evl.ea_cons (Evl.ev_var rfl) Evl.ea_nil) (spv_list (.lst (Evl.sq_of hl)))))) (b := false) (by decide)) fun _ =>
      Evl.et_is (Evl.et_not (Evl.et_B (Evl.ev_call (Evl.ea_cons (Evl.ev_len (Evl.ev_var rfl) (Evl.sq_of hl)) (Evl.ea_cons Evl.ev_c (Evl.ea_cons Evl.ev_c Evl.ea_nil))) (spv_within (.int _) True.intro True.intro)))) (b := false) ?_) rfl) (fun z => by cases z) fun _ H1 e1 => ?_
    · show (!(decide ((1 : Int) ≤ ((as.map V.ref).length : Int)) && decide (((as.map V.ref).length : Int) ≤ 1000))) = false
      rw [decide_eq_true (by omega), decide_eq_true (by omega)]
      rfl
    refine Evl.q_asg (Evl.ev_len (Evl.ev_var rfl) (Evl.sq_of (e1 _ _ hl))) fun H2 e2 => ?_
    have e02 := e1.trans e2
    refine Evl.q_when (b := false) (Evl.et_is (Evl.et_not (Evl.et_B (ev_allH (n := (as.map V.ref).length) (en_lc (ei_enum (Evl.ea_cons (Evl.ev_var rfl) Evl.ea_nil) (Evl.sq_of (e02 _ _ hl))) aims_enum (fun _ => rfl) (by omega) _ fun i hi => en_v ?_)))) rfl) (fun z => by cases z) fun _ H3 e3 => ?_
    · obtain ⟨a, ns, h1, h2, h3⟩ := item i (by omega)
      obtain ⟨t1, t2, t3⟩ := hT.pl i ns h2
      have := hT.short h2
      refine Evl.ev_call (Evl.ea_cons (x := .ref a) (Evl.ev_is (Evl.ev_var rfl) (refs_getD h1)) (Evl.ea_cons (Evl.ev_op (Evl.ev_var rfl) Evl.ev_c Evl.rv_I0) (Evl.ea_cons (Evl.ev_var rfl) Evl.ea_nil))) (spv_isTurn (Evl.sq_of (e02 _ _ h3)) (by omega) t1 (fun x hx => ?_) t3)
      rw [hmap]
      exact t2 x hx
    have e03 := e02.trans e3
    refine q_asgNL (L := Holds (fun i v H' => ∃ ns d, ts[i]? = some ns ∧ v = .ref d ∧ H' d = some (.dK (dOf (fun j => ns.getD j 0) ns.length))) (as.map V.ref).length) (en_lc (ei_list (Evl.ev_var rfl) (Evl.sq_of (e03 _ _ hl))) aims_at (fun _ => rfl) (by omega) _ fun i hi => ?_) fun p xs H4 hp e4 h4 hL4 => ?_
    · obtain ⟨a, ns, h1, h2, h3⟩ := item i (by omega)
      have hs := hT.short h2
      have e0 : (ns.map V.int).length = ns.length := List.length_map ..
      refine fun H5 e5 Q q => en_dc (kf := fun j => ns.getD j 0) (n := (ns.map V.int).length) (ei_list (Evl.ev_is (Evl.ev_var rfl) (refs_getD h1)) (Evl.sq_of (e03 _ _ h3))) aims_at (fun _ => rfl) (by omega) (fun j hj => Evl.ev_is (Evl.ev_var rfl) (ints_getD (by omega))) (fun j hj => Evl.ev_c) H5 e5 Q fun v H6 e6 hv => q v H6 e6 fun H7 e7 s7 => ?_
      obtain ⟨d, rfl, hd⟩ := hv H7 e7 s7
      exact ⟨ns, d, h2, rfl, by rw [← e0]; exact hd⟩
    have e04 := e03.trans e4
    obtain ⟨l4, h4at⟩ := hL4
    refine Evl.s_ret (ev_allR (bs := rows (fun i => (ts.getD i []).length) (fun _ _ => true) (fun i j => (i, j)) (as.map V.ref).length) ?_) fun H5 e5 => q H5 (e04.trans e5)
    refine en_lc2 (Y1 := fun i => YAt ((ts.getD i []).map V.int)) (s1 := fun i j σ => σ.set 5 (some (((ts.getD i []).map V.int).getD j .non))) (ei_enum (Evl.ea_cons (Evl.ev_var rfl) Evl.ea_nil) (Evl.sq_of (e04 _ _ hl))) aims_enum (fun _ => rfl) (fun i hi => ?_) (fun i => ?_) (fun i j => rfl) _ _ _ (fun i j hi hj => et_yes) (fun i j hi hj _ => en_v ?_) ?_
    · obtain ⟨a, ns, h1, h2, h3⟩ := item i (by omega)
      have ed : ts.getD i [] = ns := by rw [List.getD_eq_getElem?_getD, h2]; rfl
      rw [ed]
      have e0 : (ns.map V.int).length = ns.length := List.length_map ..
      rw [← e0]
      exact ei_list (Evl.ev_is (Evl.ev_var rfl) (refs_getD h1)) (Evl.sq_of (e04 _ _ h3))
    · have e0 : ((ts.getD i []).map V.int).length = (ts.getD i []).length := List.length_map ..
      have := aims_at (xs := (ts.getD i []).map V.int) (j := 5)
      rw [e0] at this
      exact this
    · obtain ⟨a, ns, h1, h2, h3⟩ := item i (by omega)
      have ed : ts.getD i [] = ns := by rw [List.getD_eq_getElem?_getD, h2]; rfl
      rw [ed] at hj ⊢
      obtain ⟨t1, t2, t3⟩ := hT.pl i ns h2
      have hm : ns[j] ∈ ns := List.getElem_mem hj
      have hb := t2 _ hm
      obtain ⟨ms, hms, hmem⟩ := hT.sym i ns ns[j] h2 hm
      have hx : (ns[j] - 1).toNat < xs.length := by rw [l4]; omega
      obtain ⟨ns2, d, k1, k2, k3⟩ := h4at _ _ (List.getElem?_eq_getElem hx)
      rw [hms] at k1
      cases k1
      have ej : ns.getD j 0 = ns[j] := by rw [List.getD_eq_getElem?_getD, List.getElem?_eq_getElem hj]; rfl
      have hin : (valV (dOf (fun j => ms.getD j 0) ms.length) (.inl ((i : Int) + 1))).isSome = true := by
        rw [dOf_at]
        obtain ⟨j2, hj2, e2⟩ := List.mem_iff_getElem.mp hmem
        exact ⟨j2, hj2, by rw [List.getD_eq_getElem?_getD, List.getElem?_eq_getElem hj2, ← e2]; rfl⟩
      refine Evl.ev_is (ev_din (d := d) (Evl.ev_op (Evl.ev_var rfl) Evl.ev_c Evl.rv_I0) (Evl.ev_op (Evl.ev_var rfl) (Evl.ev_op (x := .int ns[j]) (Evl.ev_is (Evl.ev_var rfl) (by rw [ints_getD hj, ej])) Evl.ev_c Evl.rv_I0) (Evl.rv_ixL (Evl.sq_of h4) ?_)) k3) (by rw [hin])
      have en : ns[j] - 1 = ((ns[j] - 1).toNat : Int) := by omega
      rw [en]
      exact atI_nat (by rw [← k2]; exact List.getElem?_eq_getElem hx)
    · rw [hmap]
      exact hT.rows
end
end P59
end S_Lf
section S_Lg
namespace P59
open PySem PySem.Spec PyProof.Rows L2 Tl Hk
/-! ### sorted -/
def ins (x : Int) : List Int → List Int
  | [] => [x]
  | y :: r => if x ≤ y then x :: y :: r else y :: ins x r
def srt : List Int → List Int
  | [] => []
  | x :: r => ins x (srt r)
theorem ins_perm (x : Int) : ∀ l, (ins x l).Perm (x :: l)
  | [] => .refl _
  | y :: r => by
    unfold ins
    split
    · exact .refl _
    · exact ((ins_perm x r).cons y).trans (.swap x y r)
theorem srt_perm : ∀ l, (srt l).Perm l
  | [] => .refl _
  | x :: r => (ins_perm x _).trans ((srt_perm r).cons x)
theorem ins_up (x : Int) : ∀ l, l.Pairwise (· ≤ ·) → (ins x l).Pairwise (· ≤ ·)
  | [], _ => List.pairwise_singleton _ _
  | y :: r, h => by
    have h2 := List.pairwise_cons.mp h
    unfold ins
    split
    · rename_i hxy
      refine List.pairwise_cons.mpr ⟨fun a ha => ?_, h⟩
      rcases List.mem_cons.mp ha with e | e
      · rw [e]; exact hxy
      · exact Int.le_trans hxy (h2.1 a e)
    · rename_i hxy
      refine List.pairwise_cons.mpr ⟨fun a ha => ?_, ins_up x r h2.2⟩
      rcases List.mem_cons.mp ((ins_perm x r).mem_iff.mp ha) with e | e
      · rw [e]; omega
      · exact h2.1 a e
theorem srt_up : ∀ l, (srt l).Pairwise (· ≤ ·)
  | [] => List.Pairwise.nil
  | x :: r => ins_up x _ (srt_up r)
theorem up_uniq : ∀ {a b : List Int}, a.Perm b → a.Pairwise (· ≤ ·) → b.Pairwise (· ≤ ·) → a = b
  | [], b, p, _, _ => (List.nil_perm.mp p).symm
  | x :: r, [], p, _, _ => absurd p.length_eq (by simp)
  | x :: r, y :: q, p, h1, h2 => by
    have a1 := List.pairwise_cons.mp h1
    have a2 := List.pairwise_cons.mp h2
    have e : x = y := by
      have m1 : x ∈ y :: q := p.mem_iff.mp List.mem_cons_self
      have m2 : y ∈ x :: r := p.mem_iff.mpr List.mem_cons_self
      rcases List.mem_cons.mp m1 with e | e
      · exact e
      · rcases List.mem_cons.mp m2 with z | z
        · exact z.symm
        · exact Int.le_antisymm (a1.1 y z) (a2.1 x e)
    subst e
    rw [up_uniq (List.Perm.cons_inv p) a1.2 a2.2]
theorem srt_of {a b : List Int} (p : a.Perm b) (h : a.Pairwise (· ≤ ·)) : a = srt b := up_uniq (p.trans (srt_perm b).symm) h (srt_up b)
section
open Evl
variable {K : PySem.W.Frag} {σ : L2.St} {H : Hp}
theorem el_sorted {ta : TE} {a : Addr} {ns : List Int} (h : Ev ta σ H (.ref a)) (hs : SqL K H a (ns.map V.int) ∨ SqT K H a (ns.map V.int)) : EvL (tCB (rSortedU K) (tCons ta tNil)) σ H ((srt ns).map V.int) := fun H1 e Q q =>
  h H1 e _ fun H2 e2 => ⟨a, ns, rfl, hs.imp (ex_l (e.trans e2)) (ex_t (e.trans e2)), fun ms p hp hu hn => by
    rw [srt_of hp hu]
    exact q p _ (fresh_back e2 hn) (e2.trans (Ex.new hn)) upd_same⟩
theorem s_retN {te : TE} {D : Ends} {R : V → Hp → Prop} (h : EvN te σ H R) (k : ∀ v H1, Ex H H1 → (∀ H3, Ex H H3 → Since H H1 H3 → R v H3) → D.rt v H1) : tRet te D σ H := h H (Ex.refl H) D.rt k
theorem s_retB {te : TE} {D : Ends} {R : V → Hp → Prop} {B : Hp} (hB : Ex B H) (h : EvN te σ B R) (k : ∀ v H1, Ex H H1 → (∀ H3, Ex B H3 → Since H H1 H3 → R v H3) → D.rt v H1) : tRet te D σ H := h H hB D.rt k
theorem q_asgN {te : TE} {tz : TS} {i : Nat} {D : Ends} {R : V → Hp → Prop} {B : Hp} (hB : Ex B H) (h : EvN te σ B R) (k : ∀ v H1, Ex H H1 → (∀ H3, Ex B H3 → Since H H1 H3 → R v H3) → tz D (σ.set i (some v)) H1) : tSeq (tAsg te (gName i)) tz D σ H := h H hB _ k
theorem q_fldN {ta te : TE} {tz : TS} {D : Ends} {R : V → Hp → Prop} {B : Hp} {f : Str} (hB : Ex B H) (h : EvN te σ B R) (k : ∀ v H1, Ex H H1 → (∀ H3, Ex B H3 → Since H H1 H3 → R v H3) →
    ta σ H1 fun x H2 => ∃ a C dx fs, x = .ref a ∧ H2 a = some (.ins C dx fs) ∧ Cls K C ∧ NoAttr K C f ∧ fs.length < 1000 ∧ tz D σ (upd H2 a (.ins C dx (putF f v fs)))) : tSeq (sFld K ta te f) tz D σ H := h H hB _ k
/-- C: what came between A and B makes R hold -/
def SpN (sp : Sp) (vs : List V) (H : Hp) (R : V → Hp → Prop) : Prop := ∀ H1, Ex H H1 → ∀ Q : VK, (∀ v H2, Ex H1 H2 → (∀ H3, Ex H H3 → Since H1 H2 H3 → R v H3) → Q v H2) → ∀ E : XK, sp vs H1 Q E
theorem en_call {sp : Sp} {dvs vs : List V} {E : XK} {ta : TA} {R : V → Hp → Prop} (h : EvA ta σ H vs) (hs : SpN sp (vs ++ dvs) H R) : EvN (tCall sp dvs E ta) σ H R := fun H1 e Q q =>
  h H1 e _ fun H2 e2 => hs H2 (e.trans e2) Q (fun v H3 e3 hv => q v H3 (e2.trans e3) fun H4 h4 s4 => hv H4 h4 fun a o ha hc => s4 a o (fresh_back e2 ha) hc) E
/-- tuple(list made now) -/
theorem en_tupNL {ta : TE} {L : List V → Hp → Prop} (h : EvNL ta σ H L) : EvN (tCB (fun xs H Q => ∃ p ys, xs = [V.ref p] ∧ ((SqL K H p ys ∧ ∀ l, H l = none → Q (V.ref l) (upd H l (HO.tup ys))) ∨ (SqT K H p ys ∧ Q (V.ref p) H))) (tCons ta tNil)) σ H
    (fun u H' => ∃ t xs, u = .ref t ∧ H' t = some (.tup xs) ∧ L xs H') := fun H1 e Q q =>
  h H1 e _ fun p xs H2 hp e2 h2 hL => ⟨p, xs, rfl, .inl ⟨sq_of h2, fun t ht => q _ _ (e2.trans (Ex.new ht)) fun H3 h3 s3 => ⟨t, xs, rfl, s3 _ _ (fresh_back e2 ht) upd_same, hL H3 h3 fun a o _ ha hb => by
    refine s3 a o ha ?_
    rw [upd_ne (ne_of_none hb ht)]
    exact hb⟩⟩⟩
/-- tuple(list that stands) -/
theorem en_tup {ta : TE} {a : Addr} {xs : List V} (h : Ev ta σ H (.ref a)) (hs : SqL K H a xs) : EvN (tCB (fun xs H Q => ∃ p ys, xs = [V.ref p] ∧ ((SqL K H p ys ∧ ∀ l, H l = none → Q (V.ref l) (upd H l (HO.tup ys))) ∨ (SqT K H p ys ∧ Q (V.ref p) H))) (tCons ta tNil)) σ H
    (fun u H' => ∃ t, u = .ref t ∧ H' t = some (.tup xs)) := fun H1 e Q q =>
  h H1 e _ fun H2 e2 => ⟨a, xs, rfl, .inl ⟨ex_l (e.trans e2) hs, fun t ht => q _ _ (e2.trans (Ex.new ht)) fun H3 _ s3 => ⟨t, rfl, s3 _ _ (fresh_back e2 ht) upd_same⟩⟩⟩
end
/-- the ties: by rows, the lesser place first -/
def tiesOf (ts : List (List Int)) : List (Int × Int) := rows (fun i => (srt (ts.getD i [])).length) (fun i j => decide ((i : Int) + 1 < (srt (ts.getD i [])).getD j 0)) (fun i j => ((i : Int) + 1, (srt (ts.getD i [])).getD j 0)) ts.length
def Tie (p : Int × Int) (v : V) (H : Hp) : Prop := ∃ a, v = .ref a ∧ H a = some (.tup [.int p.1, .int p.2])
/-- the tuple of the ties -/
def TiesAt (H : Hp) (t : Addr) (ts : List (List Int)) : Prop := ∃ xs, H t = some (.tup xs) ∧ Row2 Tie (tiesOf ts) xs H
theorem TiesAt.ex {A B : Hp} {t : Addr} {ts : List (List Int)} (h : TiesAt A t ts) (e : Evl.Ex A B) : TiesAt B t ts := by
  obtain ⟨xs, h1, h2, h3⟩ := h
  refine ⟨xs, e _ _ h1, h2, fun k b v hb hv => ?_⟩
  obtain ⟨a, h4, h5⟩ := h3 k b v hb hv
  exact ⟨a, h4, e _ _ h5⟩
theorem scTies : FnScope ["turns", "at", "turn", "other"] ["turns"] (defScope sTies) := ⟨rfl, rfl, rfl, by decide +kernel, rfl, by decide +kernel, by decide +kernel⟩
def spTies : Sp := fun vs H Q _ => ∃ (l : Addr) (ts : List (List Int)) (B : Hp), vs = [.ref l] ∧ Evl.Ex B H ∧ TT B l ts ∧ OkT ts ∧ ∀ v H1, Evl.Ex H H1 → (∀ H3, Evl.Ex B H3 → Since H H1 H3 → ∃ t, v = .ref t ∧ TiesAt H3 t ts) → Q v H1
section
variable {P : Program} {w : World} {K : PySem.W.Frag} {mg : Str → Option Value} {base : Heap}
theorem srt_len (ns : List Int) : (srt ns).length = ns.length := (srt_perm ns).length_eq
set_option maxHeartbeats 2000000 in
theorem ok_ties {f : Addr} {fd : FuncData} {k : Nat} (F : Fun K "_ties_of" "_ties_of" sTies f fd) (mtup : mg "tuple" = none) (msort : mg "sorted" = none) (menum : mg "enumerate" = none) :
    FnOk P w K mg base CX0 (k + 1) f fd ["turns"] spTies := by
  refine F.ok scTies (fun vs H Q E h => ?_) (fun cdv A outer s H vs Q E hr h => ?_)
  · obtain ⟨l, ts, B, rfl, _⟩ := h
    rfl
  · obtain ⟨l, ts, B, rfl, hB, hL, hT, q⟩ := h
    have nd := scTies.nd
    refine ⟨_, pss_one (ps_ret (pe_callTy call_tuple_of (by rfl) mtup (by decide +kernel) (pa_cons
        (pe_lc2 (own := [("at", 1), ("turn", 2), ("other", 3)]) (vs1 := [3]) (wi1 := iList K (tCB (rSortedU K) (tCons (tVar 2) tNil))) (g := gTup K 2 (gCons (gName 1) (gCons (gName 2) gNil))) (g1 := gName 3) (tt := tYes) rfl nd (pi_enumT (by rfl) menum (pa_cons (pv 0) pa_nil)) (blkOk_by (N := ["turns", "at", "turn", "other"]) (sc := defScope sTies) (by decide +kernel)) (by decide)
          (fun _ _ _ _ _ => pg_tup (by rfl) (pgs_cons (pg_name (i := 1) nd rfl (Or.inl rfl)) (pgs_cons (pg_name (i := 2) nd rfl (Or.inl rfl)) pgs_nil))) (fun _ _ _ _ _ => pts_nil)
          (fun _ _ _ _ _ => pi_list (pe_callB cr_sortedU (by rfl) msort (by decide +kernel) (pa_cons (pv 2) pa_nil))) (fun _ _ _ _ _ => pg_name (i := 3) nd rfl (Or.inl rfl))
          (fun _ _ _ _ _ => pts_one (pt_cmpR op_gt (pv 3) (pe_op op_add (pv 1) pe_int) (nomark _)))
          (fun _ _ _ _ _ => pe_tup (pa_cons (pe_op op_add (pv 1) pe_int) (pa_cons (pv 3) pa_nil)))) pa_nil))), ?_⟩
    obtain ⟨as, hl, ha, hrow⟩ := hL
    have hmap : (as.map V.ref).length = ts.length := by rw [List.length_map, ha]
    have item : ∀ i, i < ts.length → ∃ a ns, as[i]? = some a ∧ ts[i]? = some ns ∧ B a = some (.tup (ns.map V.int)) := fun i hi => by
      obtain ⟨a, ns, h1, h2⟩ := both_at ha (show i < as.length by omega)
      exact ⟨a, ns, h1, h2, hrow i a ns h1 h2⟩
    have p2 := hT.most
    refine s_retB (R := fun u H' => ∃ t xs, u = .ref t ∧ H' t = some (.tup xs) ∧ Row2 Tie (tiesOf ts) xs H') hB ?_ fun v H1 e1 hv => q v H1 e1 fun H3 e3 s3 => ?_
    rotate_left
    · obtain ⟨t, xs, rfl, h1, h2⟩ := hv H3 e3 s3
      exact ⟨t, rfl, xs, h1, h2⟩
    · refine en_tupNL ?_
      unfold tiesOf
      rw [← hmap]
      refine en_lc2 (Y1 := fun i => YAt ((srt (ts.getD i [])).map V.int)) (s1 := fun i j σ => σ.set 3 (some (((srt (ts.getD i [])).map V.int).getD j .non))) (ei_enumT (Evl.ea_cons (Evl.ev_var rfl) Evl.ea_nil) (Evl.st_of hl)) aims_enum (fun _ => rfl) (fun i hi => ?_) (fun i => ?_) (fun i j => rfl) _ _ _ (fun i j hi hj => ?_) (fun i j hi hj _ => ?_) ?_
      · obtain ⟨a, ns, h1, h2, h3⟩ := item i (by omega)
        have ed : ts.getD i [] = ns := by rw [List.getD_eq_getElem?_getD, h2]; rfl
        rw [ed]
        have e0 : ((srt ns).map V.int).length = (srt ns).length := List.length_map ..
        rw [← e0]
        exact ei_listN (el_sorted (Evl.ev_is (Evl.ev_var rfl) (refs_getD h1)) (.inr (Evl.st_of h3)))
      · have e0 : ((srt (ts.getD i [])).map V.int).length = (srt (ts.getD i [])).length := List.length_map ..
        have := aims_at (xs := (srt (ts.getD i [])).map V.int) (j := 3)
        rw [e0] at this
        exact this
      · exact Evl.et_test (Evl.ev_op (x := .int ((srt (ts.getD i [])).getD j 0)) (Evl.ev_is (Evl.ev_var rfl) (ints_getD hj)) (Evl.ev_op (Evl.ev_var rfl) Evl.ev_c Evl.rv_I0) Evl.rv_I0)
      · refine fun H5 e5 Q q => en_u (xs := [.int ((i : Int) + 1), .int ((srt (ts.getD i [])).getD j 0)]) (Evl.eu_tup (Evl.ea_cons (Evl.ev_op (Evl.ev_var rfl) Evl.ev_c Evl.rv_I0) (Evl.ea_cons (Evl.ev_is (Evl.ev_var rfl) (ints_getD hj)) Evl.ea_nil)) (by show 2 ≤ 100000; omega)) H5 e5 Q fun v H6 e6 hv => q v H6 e6 fun H7 e7 s7 => hv H7 e7 s7
      · rw [hmap]
        have := hT.rows (f := fun i j => decide ((i : Int) + 1 < (srt (ts.getD i [])).getD j 0)) (b := fun i j => (((i : Int) + 1, (srt (ts.getD i [])).getD j 0) : Int × Int))
        have e0 : (fun i => (ts.getD i []).length) = (fun i => (srt (ts.getD i [])).length) := funext fun i => (srt_len _).symm
        rw [e0] at this
        exact this
end
end P59
end S_Lg
section S_Lh
namespace P59
open PySem PySem.Spec PyProof.Rows L2 Tl Hk
abbrev sWebI : Stmt := inClass sWeb 0
abbrev sWebE : Stmt := inClass sWeb 1
abbrev rTup (K : PySem.W.Frag) : List V → Hp → VK → Prop := fun xs H Q => ∃ p ys, xs = [V.ref p] ∧ ((SqL K H p ys ∧ ∀ l, H l = none → Q (V.ref l) (upd H l (HO.tup ys))) ∨ (SqT K H p ys ∧ Q (V.ref p) H))
/-- the attributes, in the order of their stores -/
def wf (t : Addr) (n : Nat) (ti : Addr) : List (Str × V) := putF "ties" (.ref ti) (putF "many" (.int n) (putF "turns" (.ref t) []))
theorem kTM : ¬ (("turns" : Str) = "many") := by decide +kernel
theorem kTT : ¬ (("turns" : Str) = "ties") := by decide +kernel
theorem kMT : ¬ (("many" : Str) = "ties") := by decide +kernel
theorem wf_t (t : Addr) (n : Nat) (ti : Addr) : (wf t n ti).lookup ("turns" : Str) = some (.ref t) := by
  unfold wf
  rw [lookup_putF, if_neg kTT, lookup_putF, if_neg kTM, lookup_putF, if_pos rfl]
theorem wf_m (t : Addr) (n : Nat) (ti : Addr) : (wf t n ti).lookup ("many" : Str) = some (.int n) := by
  unfold wf
  rw [lookup_putF, if_neg kMT, lookup_putF, if_pos rfl]
theorem wf_i (t : Addr) (n : Nat) (ti : Addr) : (wf t n ti).lookup ("ties" : Str) = some (.ref ti) := by
  unfold wf
  rw [lookup_putF, if_pos rfl]
/-- a Web stands at x with these turns -/
def WebAt (C : Addr) (H : Hp) (x : Addr) (ts : List (List Int)) : Prop := ∃ dx t ti, H x = some (.ins C dx (wf t ts.length ti)) ∧ TT H t ts ∧ TiesAt H ti ts
theorem WebAt.ex {C : Addr} {A B : Hp} {x : Addr} {ts : List (List Int)} (h : WebAt C A x ts) (e : Evl.Ex A B) : WebAt C B x ts := by
  obtain ⟨dx, t, ti, h1, h2, h3⟩ := h
  exact ⟨dx, t, ti, e _ _ h1, h2.ex e, h3.ex e⟩
/-- the heap without x -/
def less (H : Hp) (x : Addr) : Hp := fun a => if a = x then none else H a
theorem less_ex (H : Hp) (x : Addr) : Evl.Ex (less H x) H := fun a o h => by
  unfold less at h
  by_cases e : a = x
  · rw [if_pos e] at h; cases h
  · rw [if_neg e] at h; exact h
theorem less_at {H : Hp} {x a : Addr} {o : HO} (h : less H x a = some o) : a ≠ x := fun e => by
  unfold less at h
  rw [if_pos e] at h
  cases h
theorem less_none (H : Hp) (x : Addr) : less H x x = none := if_pos rfl
theorem less_of {H : Hp} {x a : Addr} {o : HO} (h : H a = some o) (hn : a ≠ x) : less H x a = some o := by
  unfold less
  rw [if_neg hn]
  exact h
/-- tuple([tuple(turn) for turn in turns]) -/
theorem en_tuples {K : PySem.W.Frag} {σ : L2.St} {B : Hp} {i j : Nat} {l : Addr} {ts : List (List Int)} (hs2 : σ[i]? = some (some (.ref l))) (hw : ∀ x, wipe ((wipe σ [j]).set j (some x)) [j] = wipe σ [j]) (hj : ∀ x, ((wipe σ [j]).set j (some x))[j]? = some (some x))
    (hL : LL B l ts) (hz : ts.length ≤ 40000) : EvN (tCB (rTup K) (tCons (tLc (iList K (tVar i)) (gName j) tYes (tCB (rTup K) (tCons (tVar j) tNil)) [j]) tNil)) σ B (fun u H' => ∃ t, u = .ref t ∧ TT H' t ts) := by
  obtain ⟨as, hl, ha, hrow⟩ := hL
  have hmap : (as.map V.ref).length = ts.length := by rw [List.length_map, ha]
  have h1 : EvN (tCB (rTup K) (tCons (tLc (iList K (tVar i)) (gName j) tYes (tCB (rTup K) (tCons (tVar j) tNil)) [j]) tNil)) σ B (fun u H' => ∃ t xs, u = .ref t ∧ H' t = some (.tup xs) ∧ Holds (fun i v H' => ∃ ns, ts[i]? = some ns ∧ ∃ a, v = .ref a ∧ H' a = some (.tup (ns.map V.int))) (as.map V.ref).length xs H') := by
    refine en_tupNL (en_lc (ei_list (Evl.ev_var hs2) (Evl.sq_of hl)) aims_at (fun _ => hw _) (by omega) _ fun k hk => ?_)
    obtain ⟨a, ns, h1, h2⟩ := both_at ha (show k < as.length by omega)
    exact fun H5 e5 Q q => en_tup (Evl.ev_is (Evl.ev_var (hj _)) (refs_getD h1)) (Evl.sq_of (hrow k a ns h1 h2)) H5 e5 Q fun v H6 e6 hv => q v H6 e6 fun H7 e7 s7 => ⟨ns, h2, hv H7 e7 s7⟩
  exact fun H5 e5 Q q => h1 H5 e5 Q fun v H6 e6 hv => q v H6 e6 fun H7 e7 s7 => by
    obtain ⟨t, xs, rfl, k1, k2, k3⟩ := hv H7 e7 s7
    have hex : ∃ bs : List Addr, xs = bs.map V.ref := by
      have : ∀ v ∈ xs, ∃ a, v = V.ref a := fun v hv => by
        obtain ⟨i, hi, rfl⟩ := List.mem_iff_getElem.mp hv
        obtain ⟨_, _, a, h, _⟩ := k3 i _ (List.getElem?_eq_getElem hi)
        exact ⟨a, h⟩
      clear k1 k2 k3 hv
      induction xs with
      | nil => exact ⟨[], rfl⟩
      | cons v r ih =>
        obtain ⟨a, rfl⟩ := this v List.mem_cons_self
        obtain ⟨bs, rfl⟩ := ih fun u hu => this u (List.mem_cons_of_mem _ hu)
        exact ⟨a :: bs, rfl⟩
    obtain ⟨bs, rfl⟩ := hex
    refine ⟨t, rfl, bs, k1, by rw [List.length_map] at k2; omega, fun i a ns h1 h2 => ?_⟩
    obtain ⟨ns2, h3, b, h4, h5⟩ := k3 i (.ref a) (by rw [List.getElem?_map, h1]; rfl)
    rw [h2] at h3
    cases h3
    cases h4
    exact h5
structure TWeb (K : PySem.W.Frag) (mg : Str → Option Value) (C : Addr) : Prop where
  cl : Cls K C
  nT : NoAttr K C "turns"
  nM : NoAttr K C "many"
  nI : NoAttr K C "ties"
  mgC : mg "Web" = some (.ref C)
theorem scWebI : FnScope ["self", "turns", "turn"] ["self", "turns"] (defScope sWebI) := ⟨rfl, rfl, rfl, by decide +kernel, rfl, by decide +kernel, by decide +kernel⟩
def spWebI (C : Addr) : Sp := fun vs H Q _ => ∃ (x dx l : Addr) (ts : List (List Int)) (B : Hp), vs = [.ref x, .ref l] ∧ H x = some (.ins C dx []) ∧ Evl.Ex B H ∧ B x = none ∧ LL B l ts ∧ OkT ts ∧
  ∀ H', Evl.Ex (less H x) H' → (∀ H3, Evl.Ex B H3 → Since H H' H3 → H3 x = H' x → WebAt C H3 x ts) → Q .non H'
/-- what stands at B, and what came between A and H -/
def plus (B A H : Hp) : Hp := fun a => if (B a).isSome = true ∨ (A a).isNone = true then H a else none
theorem plus_le {B A H : Hp} : Evl.Ex (plus B A H) H := fun a o h => by
  unfold plus at h
  split at h
  · exact h
  · cases h
theorem plus_base {B A H : Hp} (h : Evl.Ex B H) : Evl.Ex B (plus B A H) := fun a o hb => by
  unfold plus
  rw [if_pos (.inl (by rw [hb]; rfl))]
  exact h _ _ hb
theorem plus_new {B A H : Hp} : Since A H (plus B A H) := fun a o hn h => by
  unfold plus
  rw [if_pos (.inr (by rw [hn]; rfl))]
  exact h
theorem plus_none {B A H : Hp} {a : Addr} (h1 : B a = none) (h2 : (A a).isSome = true) : plus B A H a = none := by
  unfold plus
  rw [if_neg]
  rintro (h | h)
  · rw [h1] at h; cases h
  · cases hq : A a with
    | none => rw [hq] at h2; cases h2
    | some o => rw [hq] at h; cases h
/-- it stands in each heap that has both -/
theorem plus_in {B A H H3 : Hp} (hB : Evl.Ex B H) (h1 : Evl.Ex B H3) (h2 : Since A H H3) : Evl.Ex (plus B A H) H3 := fun a o h => by
  unfold plus at h
  split at h
  · rename_i c
    rcases c with c | c
    · cases hq : B a with
      | none => rw [hq] at c; cases c
      | some o' =>
        have := hB _ _ hq
        rw [h] at this
        cases this
        exact h1 _ _ hq
    · refine h2 _ _ ?_ h
      cases hq : A a with
      | none => rfl
      | some o' => rw [hq] at c; cases c
  · cases h
theorem ex_less {A B : Hp} {x : Addr} {o : HO} (h : Evl.Ex A B) (hx : A x = none) : Evl.Ex A (upd B x o) := h.mut hx
section
variable {P : Program} {w : World} {K : PySem.W.Frag} {mg : Str → Option Value} {base : Heap}
set_option maxHeartbeats 2000000 in
theorem ok_webI {C f fA fT : Addr} {fd fdA fdT : FuncData} {k : Nat} (F : Fun K "__init__" "Web.__init__" sWebI f fd) (T : TWeb K mg C)
    (FA : Fun K "_are_turns" "_are_turns" sAreTurns fA fdA) (GA : FnOk P w K mg base CX0 k fA fdA ["turns"] (spAre K)) (bA : Binds K fdA ["turns"] []) (gA : mg "_are_turns" = some (.ref fA))
    (FT : Fun K "_ties_of" "_ties_of" sTies fT fdT) (GT : FnOk P w K mg base CX0 k fT fdT ["turns"] spTies) (bT : Binds K fdT ["turns"] []) (gT : mg "_ties_of" = some (.ref fT))
    (mtup : mg "tuple" = none) (mlen : mg "len" = none) :
    FnOk P w K mg base CX0 (k + 1) f fd ["self", "turns"] (spWebI C) := by
  refine F.ok scWebI (fun vs H Q E h => ?_) (fun cdv A outer s H vs Q E hr h => ?_)
  · obtain ⟨x, dx, l, ts, B, rfl, _⟩ := h
    rfl
  · obtain ⟨x, dx, l, ts, B, rfl, hx, b0, n0, hL, hT, q⟩ := h
    have nd := scWebI.nd
    refine ⟨_, pss_cons (ps_if (pt_not (pt_val (pe_call GA hr (by rfl) gA FA.kp bA .nil pass0 (pa_cons (pv 1) pa_nil)))) (pss_one (ps_never)) pss_nil)
      (pss_cons (ps_fld (pv 0) (pe_callTy call_tuple_of (by rfl) mtup (by decide +kernel) (pa_cons
          (pe_lc (own := [("turn", 2)]) (g := gName 2) (tt := tYes) (te := tCB (rTup K) (tCons (tVar 2) tNil)) rfl nd (pi_list (pv 1)) (blkOk_by (N := ["self", "turns", "turn"]) (sc := defScope sWebI) (by decide +kernel)) (fun _ _ _ _ _ => pg_name (i := 2) nd rfl (Or.inl rfl)) (fun _ _ _ _ _ => pts_nil)
            (fun _ _ _ _ _ => pe_callTy call_tuple_of (by rfl) mtup (by decide +kernel) (pa_cons (pv 2) pa_nil))) pa_nil)) rfl)
      (pss_cons (ps_fld (pv 0) (pe_callB call_len_seq (by rfl) mlen PySem.boot_len (pa_cons (pe_fld (pv 0) rfl) pa_nil)) rfl)
      (pss_one (ps_fld (pv 0) (pe_call GT hr (by rfl) gT FT.kp bT .nil pass0 (pa_cons (pe_fld (pv 0) rfl) pa_nil)) rfl)))), ?_⟩
    refine Evl.q_when (b := false) (Evl.et_is (Evl.et_not (Evl.et_B (Evl.ev_call (Evl.ea_cons (Evl.ev_var rfl) Evl.ea_nil) (spv_are (hL.ex b0) hT)))) rfl) (fun z => by cases z) fun _ H1 e1 => ?_
    obtain ⟨as, hl, ha, hrow⟩ := hL
    have hmap : (as.map V.ref).length = ts.length := by rw [List.length_map, ha]
    have p2 := hT.most
    have item : ∀ i, i < ts.length → ∃ a ns, as[i]? = some a ∧ ts[i]? = some ns ∧ B a = some (.lst (ns.map V.int)) := fun i hi => by
      obtain ⟨a, ns, h1, h2⟩ := both_at ha (show i < as.length by omega)
      exact ⟨a, ns, h1, h2, hrow i a ns h1 h2⟩
    -- self.turns
    refine q_fldN (b0.trans e1) (en_tuples (K := K) (i := 1) (j := 2) rfl (fun _ => rfl) (fun _ => rfl) ⟨as, hl, ha, hrow⟩ (by omega)) fun u H2 e2 hu => ?_
    obtain ⟨t, rfl, tt2⟩ := hu H2 ((b0.trans e1).trans e2) fun _ _ _ h => h
    have hx2 := e2 _ _ (e1 _ _ hx)
    refine ⟨_, rfl, x, C, dx, [], rfl, hx2, T.cl, T.nT, (by show 0 < 1000; decide), ?_⟩
    -- self.many
    have xt : x ≠ t := fun z => by
      obtain ⟨as2, h2, _⟩ := tt2
      rw [← z, hx2] at h2
      cases h2
    obtain ⟨as2, ht2, hl2, hr2⟩ := id tt2
    refine ⟨_, rfl, x, C, dx, _, .ref t, rfl, upd_same, T.cl, T.nT, (by rw [lookup_putF, if_pos rfl]), t, as2.map V.ref, rfl, .inr (Evl.st_of (by rw [upd_ne xt.symm]; exact ht2)), _, rfl, x, C, dx, _, rfl, upd_same, T.cl, T.nM, (by show 1 < 1000; decide), ?_⟩
    have hml : ((as2.map V.ref).length : Int) = (ts.length : Int) := by rw [List.length_map, hl2]
    rw [hml]
    -- self.ties
    have n2 : plus B H1 H2 x = none := plus_none n0 (by rw [e1 _ _ hx]; rfl)
    have b3 : Evl.Ex (plus B H1 H2) (upd (upd H2 x (.ins C dx (putF "turns" (.ref t) []))) x (.ins C dx (putF "many" (.int ts.length) (putF "turns" (.ref t) [])))) := (plus_le.mut n2).mut n2
    have tt2l : TT (plus B H1 H2) t ts := by
      obtain ⟨t', et, h⟩ := hu (plus B H1 H2) (plus_base ((b0.trans e1).trans e2)) plus_new
      cases et
      exact h
    refine ⟨_, rfl, x, C, dx, _, .ref t, rfl, upd_same, T.cl, T.nT, (by rw [lookup_putF, if_neg kTM, lookup_putF, if_pos rfl]), ?_⟩
    refine ⟨t, ts, plus B H1 H2, rfl, b3, tt2l, hT, fun v H4 e4 hv => ?_⟩
    obtain ⟨ti, rfl, ti4⟩ := hv H4 (b3.trans e4) fun _ _ _ h => h
    have hx4 := e4 _ _ upd_same
    refine ⟨_, rfl, x, C, dx, _, rfl, hx4, T.cl, T.nI, (by show 2 < 1000; decide), ?_⟩
    have lx := less_none H x
    have exA : Evl.Ex (less H x) H4 := (((((less_ex H x).trans e1).trans e2).mut lx).mut lx).trans e4
    refine q _ (exA.mut lx) fun H3 h3 s3 hx3 => ?_
    have at3 : ∀ a o, a ≠ x → H a = none → H4 a = some o → H3 a = some o := fun a o hne hn h4 => s3 a o hn (by rw [upd_ne hne]; exact h4)
    have fromH1 : ∀ a, H1 a = none → H a = none := fun a h => Evl.fresh_back e1 h
    have up24 : ∀ a o, a ≠ x → H2 a = some o → H4 a = some o := fun a o hne h => e4 _ _ (by rw [upd_ne hne, upd_ne hne]; exact h)
    refine ⟨dx, t, ti, by rw [hx3, upd_same] <;> rfl, ?_, ?_⟩
    · obtain ⟨t', et, h⟩ := hu H3 h3 fun a o hn h2 => at3 a o (fun z => by rw [z, e1 _ _ hx] at hn; cases hn) (fromH1 a hn) (up24 a o (fun z => by rw [z, e1 _ _ hx] at hn; cases hn) h2)
      cases et
      exact h
    · have hp1 : Evl.Ex (plus B H1 H2) H3 := plus_in ((b0.trans e1).trans e2) h3 fun a o hn h2 => at3 a o (fun z => by rw [z, e1 _ _ hx] at hn; cases hn) (fromH1 a hn) (up24 a o (fun z => by rw [z, e1 _ _ hx] at hn; cases hn) h2)
      obtain ⟨t', et, h⟩ := hv H3 hp1 fun a o hn h4 => by
        have hne : a ≠ x := fun z => by rw [z, upd_same] at hn; cases hn
        rw [upd_ne hne, upd_ne hne] at hn
        exact at3 a o hne (fromH1 a (Evl.fresh_back e2 hn)) h4
      cases et
      exact h
end
section
open Evl
variable {K : PySem.W.Frag} {σ : L2.St} {B : Hp}
/-- Web(turns) -/
theorem en_make {C : Addr} {ta : TE} {E : XK} {ts : List (List Int)} (h : EvN ta σ B (fun u H' => ∃ l, u = .ref l ∧ LL H' l ts)) (hT : OkT ts) : EvN (tMake C (spWebI C) [] E (tCons ta tNil)) σ B (fun u H' => ∃ x, u = .ref x ∧ WebAt C H' x ts) := fun H1 e Q q =>
  h H1 e _ fun v H2 e2 hv => by
    obtain ⟨l, rfl, hl⟩ := hv (plus B H1 H2) (plus_base (e.trans e2)) plus_new
    intro x dx nx ndx nex
    have px : plus B H1 H2 x = none := fresh_back plus_le nx
    have pd : plus B H1 H2 dx = none := fresh_back plus_le ndx
    have lx := less_none (upd (upd H2 dx (.own x)) x (.ins C dx [])) x
    refine ⟨x, dx, l, ts, plus B H1 H2, rfl, upd_same, (plus_le.mut pd).mut px, px, hl, hT, fun H' ex' hw => ⟨rfl, ?_⟩⟩
    have e2' : Ex H2 H' := fun a o h => ex' a o (less_of (by rw [upd_ne (ne_of_none h nx), upd_ne (ne_of_none h ndx)]; exact h) (ne_of_none h nx))
    have h1x : H1 x = none := fresh_back e2 nx
    obtain ⟨_, _, _, hx', _⟩ := hw H' ((plus_le).trans e2') (fun _ _ _ h => h) rfl
    refine q _ H' (e2.trans e2') fun H3 h3 s3 => ⟨x, rfl, hw H3 (plus_in (e.trans e2) h3 fun a o hn h2 => s3 a o hn (e2' _ _ h2)) (fun a o hn h2 => ?_) ?_⟩
    · refine s3 a o (fresh_back e2 ?_) h2
      by_cases ax : a = x
      · rw [ax]; exact nx
      · by_cases ad : a = dx
        · rw [ad]; exact ndx
        · rw [upd_ne ax, upd_ne ad] at hn
          exact hn
    · rw [hx', s3 _ _ h1x hx']
end
end P59
end S_Lh
section S_Li
namespace P59
open PySem PySem.Spec PyProof.Rows L2 Tl Hk
/-! ### data of tuples of tuples -/
def dT (ts : List (List Int)) : PyData := .tuple (ts.map fun ns => .tuple (ns.map PyData.int))
theorem dT_lay : ∀ ts : List (List Int), PyData.canLayAll0 (ts.map fun ns => .tuple (ns.map PyData.int)) = true
  | [] => rfl
  | ns :: r => by
    show (PyData.canLay0 (.tuple (ns.map PyData.int)) && PyData.canLayAll0 (r.map fun ns => .tuple (ns.map PyData.int))) = true
    rw [dT_lay r, Bool.and_true]
    exact PySem.W.ke_canLayAll0 ns
theorem dT_deep : ∀ ts : List (List Int), PyData.depthAll (ts.map fun ns => .tuple (ns.map PyData.int)) ≤ 1
  | [] => Nat.zero_le _
  | ns :: r => by
    show max (PyData.depth (.tuple (ns.map PyData.int))) (PyData.depthAll (r.map fun ns => .tuple (ns.map PyData.int))) ≤ 1
    have h1 : PyData.depth (.tuple (ns.map PyData.int)) = 1 := by
      show PyData.depthAll (ns.map PyData.int) + 1 = 1
      rw [PySem.W.ke_depthAll]
    have := dT_deep r
    omega
theorem dT_shaped (ts : List (List Int)) : SeqAt.shaped (dT ts) = true := by
  unfold SeqAt.shaped
  rw [Bool.and_eq_true_iff]
  refine ⟨dT_lay ts, decide_eq_true ?_⟩
  show PyData.depthAll (ts.map fun ns => .tuple (ns.map PyData.int)) + 1 ≤ 64
  have := dT_deep ts
  omega
theorem dT_same (ts : List (List Int)) : PyData.eqv (dT ts) (dT ts) = true := SeqAt.eqv_refl _ (SeqAt.canLay_of_shaped (dT_shaped ts))
theorem dpAll_of {K : PySem.W.Frag} {H : Hp} : ∀ {vs : List V} {ds : List PyData}, vs.length = ds.length → (∀ (i : Nat) (v : V) (d : PyData), vs[i]? = some v → ds[i]? = some d → Dp K H v d) → DpAll K H vs ds
  | [], [], _, _ => .nil
  | v :: vs, d :: ds, hl, h => .cons (h 0 v d rfl rfl) (dpAll_of (by simpa using hl) fun i v d h1 h2 => h (i + 1) v d (by simpa using h1) (by simpa using h2))
theorem TT.dp {K : PySem.W.Frag} {H : Hp} {t : Addr} {ts : List (List Int)} (h : TT H t ts) : Dp K H (.ref t) (dT ts) := by
  obtain ⟨as, h1, h2, h3⟩ := h
  refine .tup (Evl.st_of h1) (dpAll_of (by simp [h2]) fun i v d hv hd => ?_)
  rw [List.getElem?_map] at hv hd
  cases ha : as[i]? with
  | none => rw [ha] at hv; cases hv
  | some a =>
    cases hn : ts[i]? with
    | none => rw [hn] at hd; cases hd
    | some ns =>
      rw [ha] at hv
      rw [hn] at hd
      cases hv
      cases hd
      exact .tup (Evl.st_of (h3 i a ns ha hn)) (dp_ints (c := a) ns)
theorem scWantWeb : FnScope ["web"] ["web"] (defScope sWantWeb) := ⟨rfl, rfl, rfl, by decide +kernel, rfl, by decide +kernel, by decide +kernel⟩
/-- what isinstance asks of the class -/
structure TIns (K : PySem.W.Frag) (C : Addr) : Prop where
  ha : PySem.W.findIn K (.ref C) "__class__" = some (some (.builtin "object.__class__"))
  hn : PySem.W.specialIn K (.builtin "object.__class__") "__get__" = some (some (.builtin "getset_descriptor.__get__"))
  ht : PySem.W.takesIn K (.builtin "object.__class__") = some true
  hm : PySem.W.mroIn K C (.type "object") = some true
  kit : PySem.W.kitOne K (.ref C) (.ref C) = some true
theorem rc_web {K : PySem.W.Frag} {mg : Str → Option Value} {C : Addr} {H : Hp} {x : Addr} {ts : List (List Int)} (T : TWeb K mg C) (I : TIns K C) (h : WebAt C H x ts) : Evl.RC (rIsi K) [.ref x, .ref C] H (.bl true) := fun H1 e _ q => by
  obtain ⟨dx, t, ti, h1, _⟩ := h.ex e
  exact ⟨.ref x, .ref C, .ref C, .ref C, true, rfl, .own C, .base (.ins h1 T.cl I.ha I.hn I.ht I.hm), I.kit, q H1 (Evl.Ex.refl H1)⟩
section
open Evl
variable {K : PySem.W.Frag} {σ : L2.St} {H : Hp}
theorem ev_fld {ta : TE} {C x dx : Addr} {fs : List (Str × V)} {f : Str} {v : V} (h : Ev ta σ H (.ref x)) (hx : H x = some (.ins C dx fs)) (cl : Cls K C) (na : NoAttr K C f) (hl : fs.lookup f = some v) : Ev (tFld K ta f) σ H v := fun H1 e Q q =>
  h H1 e _ fun H2 e2 => ⟨x, C, dx, fs, v, rfl, e2 _ _ (e _ _ hx), cl, na, hl, q H2 e2⟩
end
end P59
end S_Li
section S_Wi
/-! a lambda with one parameter, its default a constant, handed to a def that calls it without arguments -/
namespace LamX
open PySem PySem.Spec PyProof.Rows L2
/-- the function object of such a lambda: dv its defaults -/
abbrev dfFd (q : Str) (ps : Arguments) (bd : Expr) (sc : Scope) (cl : List (Str × Addr)) (dv pm cv ct : Value) : FuncData :=
  { PySem.W.kla_fn "<lambda>" q ps bd sc cl pm cv ct with defaults := dv }
abbrev dfObj (fd : FuncData) : Obj := { cls := .type "function", data := .func fd }
abbrev dfTup (v : Value) : Obj := { cls := .type "tuple", data := .seq #[v] }
abbrev dfArgs (x : Str) (ap : Pos) (e : Expr) : Arguments := { posonlyargs := [], args := [{ arg := x, annotation := none, pos := ap }], vararg := none, kwonlyargs := [], kw_defaults := [], kwarg := none, defaults := [e] }
section
variable {M : Model} {A : Around} {E : Value → Shared → Prop} {s : Shared} {q : Str} {ap : Arguments} {bd : Expr} {sc : Scope} {env : Env} {c P : Addr} {tr : Array Value} {pos : Pos} {fl : Nat} {mg : Str → Option Value}
  {cl : List (Str × Addr)} {dv : Value} {Q : Value → Shared → Prop}
theorem clo_tup {its : List Value} {b : Bool} {jp : Value → Sem Value} (h : ∀ (v : Value) (hh : Heap), (∀ a o, s.heap.get? a = some o → hh.get? a = some o) → s.heap.objs.size ≤ hh.objs.size → wpAny M A (jp v) Q E { s with heap := hh }) :
    wpAny M A (if b = true then pure Value.none >>= jp else newTextTuple its >>= jp) Q E s := by
  cases b with
  | true => exact wpAny_bind (wpAny_pure (h .none s.heap (fun _ _ e => e) (Nat.le_refl _)))
  | false => exact wpAny_bind (wpAny_newTextTuple (h _ _ (fun _ _ e => Heap.get?_push_of_some _ e) (by rw [Heap.size_push]; omega)))
/-- the object is made: its code object is new -/
theorem df_miss (h1 : closureFor sc env = pure cl) (h2 : env.globals = mainGlobals) (h3 : s.heap.Ns mainGlobals mg) (h4 : env.code = .ref c) (h5 : PySem.W.CodeHd s.heap c P) (h6 : s.heap.get? P = some (PySem.W.tabObj tr)) (h7 : TriplesOk tr.toList)
    (h8 : codeAmong pos tr.toList = none) (h9 : mainGlobals ≠ P) (hb : s.heap.BuiltinsAt mg P)
    (k : ∀ c' ct hh tk, Heap.ExtBut P s.heap hh → s.heap.objs.size ≤ c' → c' < hh.objs.size → hh.CodeRec (.ref c') q → hh.get? P = some (PySem.W.tabObj (tr ++ #[rawInt pos.line, rawInt pos.col, .ref c'])) →
      Q (.ref hh.objs.size) { s with heap := hh.push (dfObj (dfFd q ap bd sc cl dv ((mg "__name__").getD .none) (.ref c') ct)), toks := tk }) : wpAny M A (makeTail "<lambda>" q ap (.expr bd) sc env dv .none none pos fl) Q E s := by
  obtain ⟨bm, ob, b1, b2, _, b3, b4, b5, b6, b7⟩ := hb
  unfold makeTail
  rw [h1, h2]
  refine wpAny_bind (wpAny_pure ?_)
  refine clo_tup fun ct h0 k0 sz => ?_
  refine wpAny_bind (wpAny_functionCodeX h4 ((h5.keeps k0).code (k0 _ _ h6) h7) ((h5.keeps k0).tab (k0 _ _ h6)) h8 fun c' hh tk hx ge lt _ hrec htb _ => ?_)
  have g' := (h3.keeps k0).extBut hx h9
  have x' : Heap.ExtBut P s.heap hh := fun b o n e => hx b o n (k0 b o e)
  refine wpAny_bind (wpAny_builtinsFor g' b1 b2 (x' _ _ b3 b4) b5 b6 b7 (wpAny_bind (wpAny_nsGet g' ?_)))
  exact wpAny_bind (wpAny_pure (wpAny_newObj_type (k c' ct hh tk x' (Nat.le_trans sz ge) lt hrec htb.2) (by size_fits)))
/-- its code object stands in the table -/
theorem df_hit {cv : Value} (h1 : closureFor sc env = pure cl) (h2 : env.globals = mainGlobals) (h3 : s.heap.Ns mainGlobals mg) (h4 : env.code = .ref c) (h5 : PySem.W.CodeHd s.heap c P) (h6 : s.heap.get? P = some (PySem.W.tabObj tr)) (h7 : TriplesOk tr.toList)
    (h8 : codeAmong pos tr.toList = some cv) (hb : s.heap.BuiltinsAt mg P)
    (k : ∀ (ct : Value) (hh : Heap) (tk : Tok), (∀ a o, s.heap.get? a = some o → hh.get? a = some o) → s.heap.objs.size ≤ hh.objs.size → Q (.ref hh.objs.size) { s with heap := hh.push (dfObj (dfFd q ap bd sc cl dv ((mg "__name__").getD .none) cv ct)), toks := tk }) :
    wpAny M A (makeTail "<lambda>" q ap (.expr bd) sc env dv .none none pos fl) Q E s := by
  obtain ⟨bm, ob, b1, b2, _, b3, b4, b5, b6, b7⟩ := hb
  unfold makeTail
  rw [h1, h2]
  refine wpAny_bind (wpAny_pure ?_)
  refine clo_tup fun ct h0 k0 sz => ?_
  refine wpAny_bind (wpAny_functionCode_hit h4 ((h5.keeps k0).code (k0 _ _ h6) h7) h8 ?_)
  refine wpAny_bind (wpAny_builtinsFor (h3.keeps k0) b1 b2 (k0 _ _ b4) b5 b6 b7 (wpAny_bind (wpAny_nsGet (h3.keeps k0) ?_)))
  exact wpAny_bind (wpAny_pure (wpAny_newObj_type (k ct h0 s.toks k0 sz) (by size_fits)))
end
section
variable {X : Cx} {pins : List (Addr × Obj)} {σ : L2.St} {H : Hp} {s : Shared}
/-- the whole making -/
theorem lam_makeD {T : List (Addr × Str)} {c P : Addr} {x : Str} {ap : Pos} {e : Expr} {bd : Expr} {sc : Scope} {pos : Pos} {E : Value → Shared → Prop} {Q : Value → Shared → Prop} (I : Inv X pins σ H s) (TB : TabB X.base X.mg c P) (hcode : X.env.code = .ref c) (he : e.isPlainConst = true)
    (hm : (P, X.env.qual ++ "<lambda>") ∈ T) (hu : ∀ p ∈ T, p.1 = P → p.2 = X.env.qual ++ "<lambda>") (hT : Tabs T H) (hfree : ∀ y ∈ sc.names, y.2 = .free → ∃ c, X.env.cells.lookup y.1 = some c)
    (k : ∀ (f c' d : Addr) (v pm ct : Value) (H1 : Hp) (s' : Shared), Inv X pins σ H1 s' → ExtN H H1 → Tabs T H1 → s'.heap.get? f = some (dfObj (dfFd (X.env.qual ++ "<lambda>") (dfArgs x ap e) bd sc (cloFrom X.env.cells sc.names []) (.ref d) pm (.ref c') ct)) →
      s'.heap.get? d = some (dfTup v) → H1 f = none → H1 d = none → f ∉ frs X.stack → d ∉ frs X.stack → H1 c' = some (CodeO c' (X.env.qual ++ "<lambda>")) → Q (.ref f) s') :
    wpAny (model X.prog X.w) X.A (eval (.Lambda (dfArgs x ap e) bd sc pos) X.env) Q E s := by
  obtain ⟨tr, hP, ht, ha⟩ := hT _ hm
  rw [arm_eval_Lambda]
  show wpAny (model X.prog X.w) X.A (do let dv ← evalAll (evalEach [e] X.env); let kdv ← holding dv (evalAllOpt []); makeFunction "<lambda>" (X.env.qual ++ "<lambda>") (dfArgs x ap e) (.expr bd) sc X.env dv kdv [] pos pos.line) Q E s
  refine wpAny_bind (wpAny_evalAll_consts [e] s _ (fun z hz => by rw [List.mem_singleton.mp hz]; exact he) fun vs tk cv => ?_)
  obtain ⟨v, rfl⟩ : ∃ v, vs = [v] := by
    match vs, cv with
    | [v], _ => exact ⟨v, rfl⟩
    | _ :: _ :: _, cv => exact cv.2.elim
  refine wpAny_bind (wpAny_holding (wpAny_pure ?_))
  rw [makeFunction_eq]
  simp only [List.zip_nil_left, List.filterMap_nil, List.isEmpty_nil, List.isEmpty_cons, if_true, if_false, Bool.false_eq_true, pure_bind]
  refine wpAny_bind (wpAny_newTextTuple ?_)
  have nofr : ∀ f, s.heap.objs.size ≤ f → f ∉ frs X.stack := fun f hf z => by
    rcases List.mem_cons.mp (I.stkSub _ z) with e' | e'
    · have w := I.lt
      rw [← e'] at w
      exact Nat.lt_irrefl _ (Nat.lt_of_lt_of_le w hf)
    · exact I.nofs hf e'
  have hd : H s.heap.objs.size = none := I.hok.fresh (Nat.le_refl _)
  have dP : s.heap.objs.size ≠ P := fun z => by rw [z, hP] at hd; cases hd
  have I0 : Inv X pins σ H { s with heap := s.heap.push (dfTup v), toks := tk } := I.kept fun b o z => Heap.get?_push_of_some _ z
  have d0 : (s.heap.push (dfTup v)).get? s.heap.objs.size = some (dfTup v) := Heap.get?_push_size _ rfl
  have sz0 : s.heap.objs.size ≤ (s.heap.push (dfTup v)).objs.size := by rw [Heap.size_push]; omega
  have bP : (s.heap.push (dfTup v)).BuiltinsAt X.mg P := TB.bm.keeps I0.bk
  have hP' : (s.heap.push (dfTup v)).get? P = some { cls := .none, data := .fields tr } := I0.hok P _ hP
  cases hc : codeAmong pos tr.toList with
  | none =>
    refine df_miss (s := { s with heap := s.heap.push (dfTup v), toks := tk }) (mg := X.mg) (c := c) (P := P) (tr := tr) (closure_ok hfree) I.ok.glob (I.mod.glob.keeps I0.bk) hcode (TB.code.keeps I0.bk) hP' ht hc TB.gP bP fun c' ct hh tk' hx ge lt hrec htb => ?_
    obtain ⟨c2, oc, vs, t, e2, hoc, hdt, hv⟩ := hrec
    cases e2
    have ge' : (s.heap.push (dfTup v)).objs.size ≤ c' := ge
    have nC : H c' = none := I.hok.fresh (Nat.le_trans sz0 ge')
    have szh : (s.heap.push (dfTup v)).objs.size ≤ hh.objs.size := Nat.le_trans ge' (Nat.le_of_lt lt)
    have dc : s.heap.objs.size ≠ c' := fun z => by rw [← z, Heap.size_push] at ge'; omega
    have df : s.heap.objs.size ≠ hh.objs.size := fun z => by rw [← z, Heap.size_push] at szh; omega
    have I1 := inv_table (t' := tk') (more := #[rawInt pos.line, rawInt pos.col, .ref c']) (h' := hh.push (dfObj (dfFd (X.env.qual ++ "<lambda>") (dfArgs x ap e) bd sc (cloFrom X.env.cells sc.names []) (.ref s.heap.objs.size) ((X.mg "__name__").getD .none) (.ref c') ct))) I0 hP
      (fun b o hb z => Heap.get?_push_of_some _ (hx b o hb z)) (Heap.get?_push_of_some _ htb) ge ⟨oc, vs, t, Heap.get?_push_of_some _ hoc, hdt, hv⟩
    have hE : ExtN H (upd (upd H P (.tbl (tr ++ #[rawInt pos.line, rawInt pos.col, .ref c']))) c' (CodeO c' (X.env.qual ++ "<lambda>"))) := fun b o z n => by
      have bP' : b ≠ P := fun y => n tr (Option.some.inj (z.symm.trans (by rw [y]; exact hP)))
      rw [upd_ne (ne_of_none z nC), upd_ne bP']
      exact z
    have eL : (tr ++ #[rawInt pos.line, rawInt pos.col, .ref c']).toList = tr.toList ++ [rawInt pos.line, rawInt pos.col, .ref c'] := by simp
    have off : ∀ {b : Addr}, b ≠ c' → b ≠ P → H b = none → upd (upd H P (.tbl (tr ++ #[rawInt pos.line, rawInt pos.col, .ref c']))) c' (CodeO c' (X.env.qual ++ "<lambda>")) b = none := fun n1 n2 n3 => by rw [upd_ne n1, upd_ne n2]; exact n3
    refine k hh.objs.size c' s.heap.objs.size v ((X.mg "__name__").getD .none) ct _ _ I1 hE (fun p hp => ?_) (Heap.get?_push_size _ rfl) (Heap.get?_push_of_some _ (hx _ _ dP d0)) (off (Nat.ne_of_gt lt) (Nat.ne_of_gt (Nat.lt_of_lt_of_le (Heap.lt_size hP') szh)) (I.hok.fresh (Nat.le_trans sz0 szh))) (off dc dP hd) (nofr _ (Nat.le_trans sz0 szh)) (nofr _ (Nat.le_refl _)) upd_same
    by_cases hb : p.1 = P
    · rw [hu p hp hb, hb]
      refine ⟨_, by rw [upd_ne (ne_of_none hP nC), upd_same], by rw [eL]; exact PySem.TriplesOk_snoc _ _ _ _ ht, fun p' cv' hcv => ?_⟩
      rw [eL] at hcv
      rcases among_app _ ht hcv with z | z
      · obtain ⟨c0, y1, y2⟩ := ha p' cv' z
        exact ⟨c0, y1, hE _ _ y2 codeO_ne⟩
      · exact ⟨c', z, upd_same⟩
    · obtain ⟨tr2, a1, a2, a3⟩ := hT p hp
      refine ⟨tr2, by rw [upd_ne (ne_of_none a1 nC), upd_ne hb]; exact a1, a2, fun p' cv' hcv => ?_⟩
      obtain ⟨c0, y1, y2⟩ := a3 p' cv' hcv
      exact ⟨c0, y1, hE _ _ y2 codeO_ne⟩
  | some cv =>
    obtain ⟨c', y, hco⟩ := ha pos cv hc
    subst y
    refine df_hit (s := { s with heap := s.heap.push (dfTup v), toks := tk }) (mg := X.mg) (c := c) (P := P) (tr := tr) (closure_ok hfree) I.ok.glob (I.mod.glob.keeps I0.bk) hcode (TB.code.keeps I0.bk) hP' ht hc bP fun ct hh tk' hx szh => ?_
    have I1 : Inv X pins σ H { s with heap := hh.push (dfObj (dfFd (X.env.qual ++ "<lambda>") (dfArgs x ap e) bd sc (cloFrom X.env.cells sc.names []) (.ref s.heap.objs.size) ((X.mg "__name__").getD .none) (.ref c') ct)), toks := tk' } := I0.kept fun b o z => Heap.get?_push_of_some _ (hx b o z)
    exact k hh.objs.size c' s.heap.objs.size v ((X.mg "__name__").getD .none) ct H _ I1 (ExtN.refl H) hT (Heap.get?_push_size _ rfl) (Heap.get?_push_of_some _ (hx _ _ d0)) (I.hok.fresh (Nat.le_trans sz0 szh)) hd (nofr _ (Nat.le_trans sz0 szh)) (nofr _ (Nat.le_refl _)) hco
end
/-- its names: the parameter x alone is its own -/
structure LamSD (sc scope : Scope) (x : Str) : Prop where
  kind : scope.kind = .function
  co : scope.isCoroutine = false
  gen : scope.isGenerator = false
  own : ∀ y ∈ scope.names, (y.2 = .local → y.1 = x) ∧ y.2 ≠ .cell
  loc : scope.names.lookup x = some .local
  free : ∀ y ∈ scope.names, y.2 = .free → sc.names.lookup y.1 = some .cell ∨ sc.names.lookup y.1 = some .free
def lamSDB (sc scope : Scope) (x : Str) : Bool :=
  decide (scope.kind = .function) && (!scope.isCoroutine && (!scope.isGenerator && (decide (scope.names.lookup x = some .local) && scope.names.all fun y => (!decide (y.2 = .local) || decide (y.1 = x)) && (!decide (y.2 = .cell) && (!decide (y.2 = .free) || (decide (sc.names.lookup y.1 = some .cell) || decide (sc.names.lookup y.1 = some .free)))))))
theorem lamSD_by {sc scope : Scope} {x : Str} (h : lamSDB sc scope x = true) : LamSD sc scope x := by
  unfold lamSDB at h
  simp only [Bool.and_eq_true, Bool.or_eq_true, Bool.not_eq_true', decide_eq_true_eq, decide_eq_false_iff_not, List.all_eq_true] at h
  obtain ⟨a1, a2, a3, a4, a5⟩ := h
  exact ⟨a1, a2, a3, fun y hy => ⟨fun e => (a5 y hy).1.elim (fun n => absurd e n) id, (a5 y hy).2.1⟩, a4, fun y hy e => (a5 y hy).2.2.elim (fun n => absurd e n) id⟩
theorem LamSD.has {X : Cx} {scope : Scope} {x : Str} (L : LamSD X.env.scope scope x) (ok : X.Ok) : ∀ y ∈ scope.names, y.2 = .free → ∃ c, X.env.cells.lookup y.1 = some c := fun y hy e =>
  (L.free y hy e).elim (fun z => ok.has _ (.inl z)) fun z => ok.has _ (.inr z)
section
variable {X : Cx} {pins : List (Addr × Obj)} {σ : L2.St} {H HZ : Hp} {s s1 : Shared}
theorem lam_startD {A : Around} {outer : List Env} {E : XK} {scope : Scope} {f c' : Addr} {h₁ : Heap} {tk : Nat} {x : Str} {v : Value} (I : Inv X pins σ H s) (L : LamSD X.env.scope scope x) (hx : x ∉ X.N) (z0 : Env0 X.prog X.w X.K X.mg X.base A outer s1 HZ) (z1 : A.handled = none)
    (un : Un (frs X.stack) [] H HZ s.heap s1.heap) (ns : h₁.Ns s1.heap.objs.size fun y => ([(x, v)] : List (Str × Value)).reverse.lookup y) (kp : ∀ b o, s1.heap.get? b = some o → h₁.get? b = some o) :
    Inv (lamCx X A outer s1 HZ E scope f c') [] σ HZ { s1 with heap := h₁, toks := tk } := by
  have hfree := L.has I.ok
  have cm : ∀ {y c}, (cloFrom X.env.cells scope.names []).lookup y = some c → X.env.cells.lookup y = some c := fun {y c} e => by
    rcases cloFrom_mem (PySem.mem_of_lookup e) with m | ⟨m1, m2⟩
    · cases m
    · obtain ⟨c1, hc⟩ := hfree _ m1 rfl
      have hc : X.env.cells.lookup y = some c1 := hc
      obtain rfl : c = c1 := by rw [m2, hc] <;> rfl
      exact hc
  have look : ∀ {y}, scope.names.lookup y = some .free → ∃ c, (cloFrom X.env.cells scope.names []).lookup y = some c := fun {y} m =>
    mem_lookup (cloFrom_has (cells := X.env.cells) (acc := []) (show (y, NameKind.free) ∈ scope.names from PySem.mem_of_lookup m))
  have cellK : ∀ {c : Addr} {u : Option Value}, H c = none → s.heap.IsCell c u → h₁.IsCell c u := fun {c u} n ⟨o, ho, hd⟩ => by
    obtain ⟨sl, w⟩ := un.any ho n (by simp)
    exact ⟨_, kp _ _ w, hd⟩
  have noA : ∀ b : Addr, b ∉ (lamCx X A outer s1 HZ E scope f c').ex := fun b m => absurd (show b ∈ ([] : List Addr) from m) (by simp)
  refine ⟨⟨z0.mod, L.kind, rfl, rfl, Nat.le_refl _, fun y m c e1 e2 => I.ok.inj y m c (cm e1) (cm e2), fun y hy => ?_, fun y c m _ => ?_, fun _ => z1, Around.frames_deeper z0.frames, .inr ⟨rfl, rfl⟩, fun b m => absurd m (noA b), z0.bs, z0.bsz, fun b _ _ => noA b,
      fun b m => absurd m (noA b), z0.funs, z0.frf⟩,
    rfl, z0.bare, Un.kept kp, ⟨_, ns, fun i y u e1 e2 e3 => ?_⟩, fun y c e => ?_, z0.hok.fresh (Nat.le_refl _), fun y c e => ?_, fun p hp => absurd (show p ∈ ([] : List (Addr × Obj)) ++ [] from hp) (by simp), z0.hok.kept kp, I.len⟩
  · have hy : scope.names.lookup y = some .cell ∨ scope.names.lookup y = some .free := hy
    exact hy.elim (fun m => absurd rfl (L.own _ (PySem.mem_of_lookup m)).2) look
  · cases (show false = true from m)
  · have e1' : X.N[i]? = some y := e1
    have e3 : Vis scope y := e3
    rcases e3 with m | m | m
    · have m' := (L.own _ (PySem.mem_of_lookup m)).1 rfl
      exact absurd (m' ▸ List.mem_of_getElem? e1') hx
    · exact absurd rfl (L.own _ (PySem.mem_of_lookup m)).2
    · obtain ⟨mm, hn, hl⟩ := I.loc
      have vis : Vis X.env.scope y := (L.free _ (PySem.mem_of_lookup m) rfl).elim (fun m => .inr (.inl m)) (fun m => .inr (.inr m))
      obtain ⟨u', r, w⟩ := hl i y u e1 e2 vis
      obtain ⟨c2, m2⟩ := look m
      refine ⟨u', r, .inr ⟨.inr m, c2, m2, ?_⟩⟩
      have c1 := cm m2
      rcases w with ⟨k', _⟩ | ⟨_, c3, e', w⟩
      · have k' : X.env.scope.names.lookup y = some .local := k'
        rcases L.free _ (PySem.mem_of_lookup m) rfl with k2 | k2 <;> rw [show X.env.scope.names.lookup y = _ from k2] at k' <;> cases k'
      · rw [c1] at e'
        cases e'
        exact cellK (I.freeC y _ c1) w
  · obtain ⟨u', w⟩ := I.cell y c (cm e)
    exact ⟨u', cellK (I.freeC y c (cm e)) w⟩
  · obtain ⟨u, o, ho, hd⟩ := I.cell y c (cm e)
    exact un.free c o ho (I.freeC y c (cm e)) (by simp)
/-- how the call without arguments binds -/
def BindsD (x : Str) (ps : Arguments) (bd : Expr) (sc : Scope) : Prop := ∀ (q : Str) (cl : List (Str × Addr)) (d : Addr) (v pm cv ct : Value), ∃ k, bindArgs (dfFd q ps bd sc cl (.ref d) pm cv ct) ⟨[], []⟩ = seqItems? (.ref d) >>= k ∧ k (some #[v]) = pure [(x, v)]
theorem pe_actD {CXg : CXT} {Eg : XK} {Ng : List Str} {qg : Str} {sg : Scope} {g f c' d : Addr} {cdg pm ct v : Value} {ps : Arguments} {bd : Expr} {scope : Scope} {k i : Nat} {a x : Str} {pn : List (Addr × Obj)} {xe : Value → Shared → Prop} {W : WX} {E : XK} {tb : TE} {p1 p2 : Pos}
    (I : Inv X pins σ H s) (L : LamSD X.env.scope scope x) (hx : x ∉ X.N) (hf : s.heap.get? f = some (dfObj (dfFd (X.env.qual ++ "<lambda>") ps bd scope (cloFrom X.env.cells scope.names []) (.ref d) pm (.ref c') ct))) (hdv : s.heap.get? d = some (dfTup v)) (nf : H f = none) (nd : H d = none) (ff : f ∉ frs X.stack) (fd : d ∉ frs X.stack)
    (hbind : BindsD x ps bd scope)
    (tk : Takes ((cxOf CXg X.prog X.w X.K X.mg X.base Ng qg sg g cdg X.A X.stack s H Eg).tr pn xe) W) (hW : ∀ cls d σ' H', E cls d H' → W cls d σ' H') (hr : Room (k + 1) (X.A.deeper (envOfC qg sg s.heap.objs.size g cdg)))
    (hbody : ∀ (A : Around) (outer : List Env) (s : Shared) (H : Hp), Room k (A.deeper (lamEnv X scope s.heap.objs.size f c')) → PE (lamCx X A outer s H E scope f c') bd tb)
    (hN : Ng[i]? = some a) (hv : Vis sg a) (hd : (a == ("__debug__" : Str)) = false := by decide) (hcd : (a == ("__classdict__" : Str)) = false := by decide) :
    PE ((cxOf CXg X.prog X.w X.K X.mg X.base Ng qg sg g cdg X.A X.stack s H Eg).tr pn xe) (.Call (.Name a p1) [] [] p2)
      (fun σZ HZ Q => σZ[i]? = some (some (.ref f)) ∧ HZ c' = some (CodeO c' (X.env.qual ++ "<lambda>")) ∧ tb σ HZ Q) := by
  refine ⟨fun pinsZ sZ σZ HZ Q IZ ⟨hs, hc, ht⟩ => ?_⟩
  refine wpAny_Call_Name_kw (thn ((pe_var (pos := p1) (i := i) hN hv hd hcd).run pinsZ sZ σZ HZ (fun u H1 => u = .ref f ∧ H1 = HZ) IZ ⟨.ref f, hs, rfl, rfl⟩) fun u s1 ⟨u', H1, I1, r1, w1⟩ => ?_)
  obtain ⟨w1, w2⟩ := w1
  subst w1
  rw [w2] at I1
  obtain rfl : u = Value.ref f := r1
  have noX : ∀ b : Addr, b ∉ ([] : List Addr) := fun b z => nomatch z
  have of1 : s1.heap.get? f = some (dfObj (dfFd (X.env.qual ++ "<lambda>") ps bd scope (cloFrom X.env.cells scope.names []) (.ref d) pm (.ref c') ct)) := I1.base.keep f _ hf nf ff (noX f)
  have od1 : s1.heap.get? d = some (dfTup v) := I1.base.keep d _ hdv nd fd (noX d)
  refine PySem.W.callWith_F0 ⟨_, _, _, _, of1⟩ ?_
  have un : Un (frs X.stack) [] H HZ s.heap s1.heap := I1.base
  obtain ⟨⟨oc, vs, t, o1, o2, o3⟩, _, _⟩ := I1.hok c' _ hc
  obtain ⟨kb, bk1, bk2⟩ := hbind (X.env.qual ++ "<lambda>") (cloFrom X.env.cells scope.names []) d v pm (.ref c') ct
  have rc : codeAny (model X.prog X.w) (X.A.deeper (envOfC qg sg s.heap.objs.size g cdg)) (.call (.ref f) ⟨[], []⟩) (CR (L2.CX X.prog X.w) (envOfC qg sg s.heap.objs.size g cdg :: X.stack) X.prog X.w HZ s1 Q E) s1 := by
    refine PySem.W.kla_callFunE hr.depth of1 rfl L.co L.gen rfl ⟨c', oc, vs, t, rfl, o1, o2, o3⟩ ?_
    rw [bk1]
    refine wpAny_bind (wpAny_seqItems od1 rfl ?_)
    rw [bk2]
    refine wpAny_pure (wpAny_newFunctionEnv (fun y hy => (L.own y hy).2) (fun y hy => by rw [List.mem_singleton.mp hy]; exact L.loc) (fun h₁ hns hsb => ⟨I1.nolimit.fresh _ hsb, ?_⟩) L.kind)
    show codeAny _ _ (.expr bd (lamEnv X scope s1.heap.objs.size f c')) _ _
    have kp : ∀ b o, s1.heap.get? b = some o → h₁.get? b = some o := fun b o z => hsb.extBut b o (Nat.ne_of_lt (Heap.lt_size z)) (Heap.get?_push_of_some _ z)
    have J : Inv (lamCx X (X.A.deeper (envOfC qg sg s.heap.objs.size g cdg)) (envOfC qg sg s.heap.objs.size g cdg :: X.stack) s1 HZ E scope f c') [] σ HZ { s1 with heap := h₁, toks := s1.toks + ([(x, v)] : List (Str × Value)).length } :=
      lam_startD I L hx I1.env0 hr.hd un hns kp
    refine PySem.W.kla_codeExpr (wpAny_mono ((hbody _ _ s1 HZ (hr.deeper _)).run [] _ _ HZ Q J ht) (fun u s' hq => ?_) fun z s' hq => hq)
    obtain ⟨w', H', J', rv, q⟩ := hq
    exact ⟨w', H', J'.os, J'.bare, J'.base, J'.hok, rv, q⟩
  have hxp : Passes (L2.CX X.prog X.w) ((cxOf CXg X.prog X.w X.K X.mg X.base Ng qg sg g cdg X.A X.stack s H Eg).tr pn xe) E := passes_call tk hW
  refine wpAny_call (codeAny_mono rc fun r s' hq => ?_)
  match r, hq with
  | .error z, hq => exact hxp pinsZ σZ HZ s1 z s' I1 hq
  | .ok (.ret u), hq => exact I1.after hq
  | .ok .next, hq => exact hq.elim
  | .ok .brk, hq => exact hq.elim
  | .ok .cont, hq => exact hq.elim
end
section
variable {X : Cx}
/-- g(lambda x=const: body) -/
theorem pe_lamcallD {T : List (Addr × Str)} {TT : (XK → Hp → VK → Prop) → Hp → VK → Prop} {gn a x : Str} {g c P : Addr} {k : Nat} {pg : Arguments} {bg : List Stmt} {sg : Scope} {dV kV doc pm cdv ct oc : Value} {an od : Option Addr} {osl : Array (Option Value)} {Ng : List Str}
    {ap : Pos} {e bd : Expr} {scope : Scope} {t : XK → TE} {p lpos pos : Pos} (hg : Gl X gn) (hm : X.mg gn = some (.ref g)) (hk : PySem.W.keepIn X.K (.ref g) = true)
    (lk : X.K.lookup g = some ⟨oc, od, .func (PySem.W.fnOf gn gn pg bg sg dV kV doc pm an cdv ct), osl⟩) (hcg : PySem.W.codeIn X.K cdv gn = true) (hb : L2.Binds X.K (PySem.W.fnOf gn gn pg bg sg dV kV doc pm an cdv ct) [a] []) (Sg : FnScope Ng [a] sg) (hNg : Ng[0]? = some a) (hva : Vis sg a)
    (hG : GivesTo X Ng gn sg g cdv bg a (X.env.qual ++ "<lambda>") TT)
    (TB : TabB X.base X.mg c P) (hcode : X.env.code = .ref c) (hmT : (P, X.env.qual ++ "<lambda>") ∈ T) (hu : ∀ p ∈ T, p.1 = P → p.2 = X.env.qual ++ "<lambda>") (hr : Room (k + 2) X.A) (L : LamSD X.env.scope scope x) (hx : x ∉ X.N) (he : e.isPlainConst = true)
    (hbind : BindsD x (dfArgs x ap e) bd scope)
    (hbody : ∀ (A : Around) (outer : List Env) (s : Shared) (H : Hp) (E : XK) (f c' : Addr), Room k (A.deeper (lamEnv X scope s.heap.objs.size f c')) → PE (lamCx X A outer s H E scope f c') bd (t E))
    (hdb : (gn == ("__debug__" : Str)) = false := by decide) (hd : (a == ("__debug__" : Str)) = false := by decide) (hcd : (a == ("__classdict__" : Str)) = false := by decide) :
    PE X (.Call (.Name gn p) [.Lambda (dfArgs x ap e) bd scope lpos] [] pos) (tLam T TT t) := by
  refine ⟨fun pins s σ H Q I ⟨hT, h⟩ => ?_⟩
  refine wpAny_Call_Name_kw (ld_glob I hg hm ?_ hdb)
  refine PySem.W.callWith_K (h₀ := X.base) I.ok.mod.kin hk ?_ (by rfl) (by rfl)
  show wpAny _ _ (spliced ((false, eval (.Lambda (dfArgs x ap e) bd scope lpos) X.env) :: backTo pos (starEach [] X.env))) _ _ s
  refine Calls.spliced_cons (lam_makeD I TB hcode he hmT hu hT (L.has I.ok) fun f c' d v pm' ctv H1 s' I1 eN T1 hf hdv nf nd ff fd hco => ?_)
  refine Calls.spliced_nil ⟨I1.kIn, ?_⟩
  have rc : codeAny (model X.prog X.w) X.A (.call (.ref g) ⟨[.ref f], []⟩) (CR C8.CX0 X.stack X.prog X.w H1 s' Q C8.E0) s' := by
    refine run_ofS (N := Ng) (ps := [a]) (us := [.ref f]) (vs := [.ref f]) lk hcg Sg hr I1.env0 (hb s' [.ref f] I1.kIn rfl) (.cons rfl .nil) rfl fun hr' => ?_
    obtain ⟨t', ht', hq'⟩ := hG f c' s' H1 Q (fun E H' Q' => t E σ H' Q') (fun W pn xe E p1 p2 tk hW => pe_actD (i := 0) I1 L hx hf hdv nf nd ff fd hbind tk hW hr' (fun A outer s H hr2 => hbody A outer s H E f c' hr2) hNg hva hd hcd) hco (h H1 eN T1)
    exact ⟨t', ht'.nox, hq'⟩
  refine wpAny_call (codeAny_mono rc fun r s2 hq => ?_)
  match r, hq with
  | .error z, hq => exact (show False from hq).elim
  | .ok (.ret u), hq => exact I1.after hq
  | .ok .next, hq => exact hq.elim
  | .ok .brk, hq => exact hq.elim
  | .ok .cont, hq => exact hq.elim
end
end LamX
end S_Wi
section S_Wh
namespace Hk
open PySem PySem.Spec PyProof.Rows L2 LamX Tl
/-- a def called where no repr is under way, its code object known -/
theorem fn_gC {P : Program} {w : World} {K : PySem.W.Frag} {mg : Str → Option Value} {base : Heap} {x qual : Str} {st : Stmt} {f c : Addr} {fd : FuncData} {N ps : List Str} {k : Nat} {sp : Sp} (F : Fun K x qual st f fd) (hcode : fd.code = .ref c) (S : FnScope N ps (defScope st))
    (len : ∀ {vs H Q E}, sp vs H Q E → vs.length = ps.length)
    (hbody : ∀ (A : Around) (outer : List Env) (s : Shared) (H : Hp) (vs : List V) (Q : VK) (E : XK), A.guards = some [] → Room k (A.deeper (envOfC qual (defScope st) s.heap.objs.size f (.ref c))) → sp vs H Q E →
      ∃ t, PSs (cxOf CX0 P w K mg base N qual (defScope st) f (.ref c) A outer s H E).nox (defBody st) t ∧ t { nx := fun _ H' => Q .non H', rt := Q } (start N vs) H) : FnG P w K mg base (k + 1) f fd ps sp := by
  obtain ⟨oc, od, kV, doc, pm, an, cdv, ct, osl, rfl, lk, hcd⟩ := F.ex
  obtain rfl : cdv = .ref c := hcode
  refine ⟨len, fun {A outer s H args us vs Q E} hgd hr e0 hb r hsp => ?_⟩
  have kin : K.In s.heap := e0.mod.kin.keeps fun b o e => (e0.bs b o e).1
  have nl : s.heap.NoLimit := e0.mod.nolimit.keeps fun b o e => (e0.bs b o e).1
  refine codeAny_call_function hr.depth (kin _ _ lk) rfl S.co S.gen rfl (PySem.W.codeRec_of kin hcd) (hb _ _ _ _ (wpAny_newFunctionEnv_cells S.kind ?_ fun env he s1 x => ?_))
  · intro y hy
    have hp : y.1 ∈ ps := (List.of_mem_zip (a := y.1) (b := y.2) hy).1
    exact (S.par y.1 hp).imp id fun q => ⟨q, PySem.W.cellsFrom_some _ _ _ (.inl q)⟩
  · cases he
    obtain ⟨t, ht, hq⟩ := hbody A outer s H vs Q E hgd (hr.deeper _) hsp
    have I := inv_start (CX := CX0) (P := P) (w := w) (base := base) (E := E) (qual := qual) (f := f) (cd := .ref c) S hr.hd e0 (len hsp) r x
    refine ⟨nl.keeps x.toInCall.keep, codeAny_func (wpAny_mono (ht.nox.run [] s1 (start N vs) H _ I hq) (fun fl s' hs => ?_) fun _ _ hs => hs)⟩
    cases fl with
    | ret u =>
      obtain ⟨v, σ', H', J, rv, q⟩ := hs
      exact ⟨v, H', J.os, J.bare, J.base, J.hok, rv, q⟩
    | next =>
      obtain ⟨σ', H', J, q⟩ := hs
      exact ⟨.non, H', J.os, J.bare, J.base, J.hok, rfl, q⟩
    | brk => exact hs.elim fun _ h => h.elim fun _ h => h.2.elim
    | cont => exact hs.elim fun _ h => h.elim fun _ h => h.2.elim
theorem passF {X : Cx} {P : Program} {w : World} : Passes (L2.CX P w) X E0 := fun _ _ _ _ _ _ _ c => by
  obtain ⟨_, _, _, _, _, _, _, _, _, _, _, _, h⟩ := c
  exact h.elim
section
open Evl
variable {K : PySem.W.Frag} {σ : L2.St} {H H' : Hp} {ta tb te : TE}
theorem el_listT {p : Addr} {xs : List V} (ha : Ev ta σ H (.ref p)) (h : SqT K H p xs) : EvL (tCB (rListS K) (tCons ta tNil)) σ H xs := fun H1 e Q q =>
  ha H1 e _ fun H2 e2 => ⟨p, xs, rfl, .inr (ex_t (e.trans e2) h), fun l hl => q l _ (fresh_back e2 hl) (e2.trans (Ex.new hl)) upd_same⟩
theorem el_listU {xs : List V} (ha : EvU ta σ H xs) : EvL (tCB (rListS K) (tCons ta tNil)) σ H xs := fun H1 e Q q =>
  ha H1 e _ fun p H2 hp e2 h2 => ⟨p, xs, rfl, .inr (st_of h2), fun l hl => q l _ (fresh_back e2 hl) (e2.trans (Ex.new hl)) upd_same⟩
theorem ev_lenU {xs : List V} (ha : EvU ta σ H xs) : Ev (tCB (rLenS K) (tCons ta tNil)) σ H (.int (xs.length : Int)) := fun H1 e Q q =>
  ha H1 e _ fun p H2 _ e2 h2 => ⟨p, xs, rfl, .inr (st_of h2), q H2 e2⟩
/-- a tuple with these items, new or not -/
def EvTp (K : PySem.W.Frag) (te : TE) (σ : L2.St) (H : Hp) (xs : List V) : Prop := ∀ H1, Ex H H1 → ∀ Q : VK, (∀ p H2, Ex H1 H2 → SqT K H2 p xs → Q (.ref p) H2) → te σ H1 Q
theorem tp_u {xs : List V} (h : EvU te σ H xs) : EvTp K te σ H xs := fun H1 e Q q => h H1 e Q fun p H2 _ e2 h2 => q p H2 e2 (st_of h2)
theorem tp_slTo {th : TO} {a : Addr} {xs : List V} {n : Nat} (h : Ev te σ H (.ref a)) (h2 : EvO th σ H (some (n : Int))) (hs : SqT K H a xs) (hn : n ≤ xs.length) : EvTp K (tSl (rSlA K) te tNoPart th) σ H (xs.take n) := fun H1 e Q q =>
  h H1 e _ fun H2 e2 => h2 H2 (e.trans e2) _ fun H4 e4 => by
    have hh := ex_t ((e.trans e2).trans e4) hs
    have ec : cutV xs none (some (n : Int)) = xs.take n := by
      unfold cutV
      rw [HT.sIx_none, HT.sIx_nat, List.drop_zero, Nat.sub_zero, Nat.min_eq_left hn]
    refine ⟨a, xs, rfl, hh, fun hw => ?_, fun _ p hp => ?_⟩
    · have e1 := hw.2
      rw [HT.sIx_nat, Nat.min_eq_left hn] at e1
      refine q a H4 (e2.trans e4) ?_
      rw [e1, List.take_length]
      exact hh
    · rw [ec]
      exact q p _ ((e2.trans e4).trans (Ex.new hp)) (st_of upd_same)
/-- ints, as data -/
def dz (ns : List Int) : List PyData := ns.map PyData.int
theorem dp_z : ∀ (ns : List Int), DpAll K H (ns.map V.int) (dz ns)
  | [] => .nil
  | i :: r => .cons (.int i) (dp_z r)
theorem z_shT (ns : List Int) : SeqAt.shaped (.tuple (dz ns)) = true := by
  unfold dz
  simp [SeqAt.shaped, PyData.canLay0, PyData.depth, PySem.W.ke_canLayAll0, PySem.W.ke_depthAll]
theorem z_shL (ns : List Int) : SeqAt.shaped (.list (dz ns)) = true := PySem.W.ke_shaped_ints ns
theorem et_neTp {ns : List Int} (ha : EvTp K ta σ H (ns.map V.int)) (hb : EvTp K tb σ H (ns.map V.int)) : EvT (tTest (tOp (rNeD K) ta tb)) σ H false := fun H1 e Q q =>
  ha H1 e _ fun p H2 e2 h2 => hb H2 (e.trans e2) _ fun p3 H3 e3 h3 => by
    refine ⟨.tuple (dz ns), .tuple (dz ns), .tup (ex_t e3 h2) (dp_z ns), .tup h3 (dp_z ns), z_shT ns, z_shT ns, ?_⟩
    rw [SeqAt.eqv_refl _ (SeqAt.canLay_of_shaped (z_shT ns))]
    exact ⟨false, rfl, q H3 (e2.trans e3)⟩
theorem et_neLL {ns : List Int} (ha : EvL ta σ H (ns.map V.int)) (hb : EvL tb σ H (ns.map V.int)) : EvT (tTest (tOp (rNeD K) ta tb)) σ H false := fun H1 e Q q =>
  ha H1 e _ fun p H2 _ e2 h2 => hb H2 (e.trans e2) _ fun p3 H3 _ e3 h3 => by
    refine ⟨.list (dz ns), .list (dz ns), .lst (sq_of (e3 _ _ h2)) (dp_z ns), .lst (sq_of h3) (dp_z ns), z_shL ns, z_shL ns, ?_⟩
    rw [SeqAt.eqv_refl _ (SeqAt.canLay_of_shaped (z_shL ns))]
    exact ⟨false, rfl, q H3 (e2.trans e3)⟩
theorem piled_le : ∀ {ts : List Str} {c : Nat}, (∀ t ∈ ts, t.length ≤ c) → piled ts ≤ ts.length * (c + 2)
  | [], c, _ => Nat.zero_le _
  | t :: r, c, h => by
    have h1 := h t List.mem_cons_self
    have h2 := piled_le (ts := r) (c := c) fun u hu => h u (List.mem_cons_of_mem _ hu)
    rw [List.length_cons, Nat.succ_mul]
    show t.length + 2 + piled r ≤ _
    omega
theorem listText_le {ts : List Str} {c : Nat} (h : ∀ t ∈ ts, t.length ≤ c) : (listText ts).length ≤ ts.length * (c + 2) + 3 := by
  have hp := piled_le h
  unfold listText
  rw [strLen_append, show (("]" : String) : Str).length = 1 from rfl]
  cases ts with
  | nil =>
    show ((("[" : String) : Str)).length + 1 ≤ _
    rw [show (("[" : String) : Str).length = 1 from rfl]
    omega
  | cons t r =>
    show (textFrom (0 + 1) _ r).length + 1 ≤ _
    rw [textFrom_length_pos r (0 + 1) _ (by decide), strLen_append, strLen_append, show (("[" : String) : Str).length = 1 from rfl]
    have e2 : (((if 0 > 0 then ", " else "" : String)) : Str).length = 0 := rfl
    rw [e2]
    have e3 : piled (t :: r) = t.length + 2 + piled r := piled_cons t r
    omega
theorem shownAll_eq : ∀ ds : List PyData, PyData.shownAll ds = ds.map PyData.shown
  | [] => rfl
  | d :: r => by rw [PyData.shownAll, shownAll_eq r] <;> rfl
theorem z_len {ns : List Int} {b : Nat} (h1 : ns.length ≤ 10000) (h2 : ∀ x ∈ ns, x.natAbs ≤ 64) : (PyData.list (dz ns)).shown.length ≤ sizeLine := by
  show (listText (PyData.shownAll (dz ns))).length ≤ _
  rw [shownAll_eq]
  have := listText_le (ts := (dz ns).map PyData.shown) (c := 66) fun u hu => by
    unfold dz at hu
    rw [List.map_map] at hu
    obtain ⟨x, hx, rfl⟩ := List.mem_map.mp hu
    have b1 := len_str_of_int x
    have b2 := h2 x hx
    show (Str.ofString (toString x)).length ≤ 66
    omega
  rw [List.length_map] at this
  unfold dz at this
  rw [List.length_map] at this
  have h3 : ns.length * (66 + 2) ≤ 10000 * 68 := Nat.mul_le_mul h1 (Nat.le_refl _)
  rw [sizeLine_eq]
  unfold dz
  omega
theorem z_show : ∀ {ns : List Int}, (∀ x ∈ ns, x.natAbs ≤ 64) → PyData.showableAll (dz ns) = true
  | [], _ => rfl
  | x :: r, h => by
    show (decide (x.natAbs.log2 < 1920) && PyData.showableAll (dz r)) = true
    rw [z_show fun y hy => h y (List.mem_cons_of_mem _ hy), Bool.and_true]
    have h1 := h x List.mem_cons_self
    exact decide_eq_true (Nat.lt_of_le_of_lt (Nat.log2_le_self _) (by omega))
theorem z_nd : ∀ ns : List Int, PyData.hasDictAll (dz ns) = false
  | [] => rfl
  | x :: r => by show (false || PyData.hasDictAll (dz r)) = false; rw [z_nd r] <;> rfl
theorem z_deep (ns : List Int) : (PyData.list (dz ns)).depth ≤ 20 := by
  unfold dz
  simp [PyData.depth, PySem.W.ke_depthAll]
/-- repr of a new list of small ints -/
theorem ev_reprZ {ns : List Int} (h : EvL te σ H (ns.map V.int)) (h1 : ns.length ≤ 10000) (h2 : ∀ x ∈ ns, x.natAbs ≤ 64) : Ev (tCB (rRepr K) (tCons te tNil)) σ H (.str (PyData.list (dz ns)).shown) := fun H1 e Q q =>
  h H1 e _ fun p H2 _ e2 h2' => ⟨p, _, rfl, .lst (sq_of h2') (dp_z ns), z_show h2, z_nd ns, z_deep ns, z_len (b := 0) h1 h2, q H2 e2⟩
theorem et_neStr {z : Str} (h1 : Ev ta σ H (.str z)) (h2 : Ev tb σ H (.str z)) : EvT (tTest (tOp rNe ta tb)) σ H false :=
  et_is (et_test (ev_op h1 h2 (rv_ne rfl))) (by rw [decide_eq_true rfl] <;> rfl)
end
end Hk
end S_Wh
section S_Wk
namespace Hk
open PySem PySem.Spec PyProof.Rows L2 LamX Tl
/-- caught = None / try: ask() / except E as error: caught = error / rest -/
def THeardS (K : PySem.W.Frag) (CS : Addr) (tr : TS) : (XK → Hp → VK → Prop) → Hp → VK → Prop := fun tl H Q => ∀ f : Addr,
  tl (fun cls d H' => PySem.W.exmOne K cls (.ref CS) = some true ∧ ∀ a, H' a = none → ∀ σ' : L2.St, σ'.length = 3 → σ'[1]? = some (some (.ref a)) → tr { nx := fun _ G => Q .non G, rt := Q } σ' (upd H' a (ErrAt cls d a))) H
    fun _ H' => tr { nx := fun _ G => Q .non G, rt := Q } [some (.ref f), some .non, none] H'
theorem heard_givesS {X : Cx} {x e q : Str} {sg : Scope} {g CS : Addr} {cdg : Value} {j : Nat} {rest : List Stmt} {tr : TS} {p1 p2 p3 p4 p5 p6 p7 p8 p9 r1 r2 r3 : Pos} (Sg : FnScope nAsk ["ask"] sg) (k1 : sg.names.lookup ("caught" : Str) = some NameKind.local) (k2 : sg.names.lookup ("error" : Str) = some NameKind.local)
    (hge : sg.names.lookup e = some .globalImplicit) (hme : X.mg e = some (.ref CS)) (hde : (e == ("__debug__" : Str)) = false)
    (hrt : ∀ (A : Around) (s : Shared) (H : Hp), PSs (cxA X x sg g cdg A s H) rest tr) :
    GivesTo X nAsk x sg g cdg (.Assign [.Name "caught" p1] (.Constant .none j p2) p3 :: .Try [.Expr (.Call (.Name "ask" r1) [] [] r2) r3] [.ExceptHandler (some (.Name e p4)) (some "error") [.Assign [.Name "caught" p5] (.Name "error" p6) p7] p8] [] [] p9 :: rest) "ask" q (THeardS X.K CS tr) := by
  intro f c' s H Q tl act hc h
  have gE : Gl (cxA X x sg g cdg X.A s H) e := hge
  have l1 : ∀ {Y : Cx}, Y.env.scope = sg → (Y.fn "caught" = true ∨ Y.env.scope.names.lookup ("caught" : Str) = some NameKind.local) := fun z => .inr (by rw [z]; exact k1)
  refine ⟨_, pss_cons (ps_set (X := cxA X x sg g cdg X.A s H) (i := 1) Sg.nd rfl (Or.inl k1) pe_non rfl (l1 rfl)) (pss_cons (ps_keep (X := cxA X x sg g cdg X.A s H) (i := 2) (c := .ref CS) (ts := fun _ _ _ => tAsg (tVar 2) (gName 1))
      (tb := fun W D σ H => ∃ Ech : XK, (∀ cls d σ' H', Ech cls d H' → σ'.length = 3 → W cls d σ' H') ∧ σ[0]? = some (some (.ref f)) ∧ H c' = some (CodeO c' q) ∧ tl Ech H (fun _ H' => D.nx σ H'))
      rfl rfl rfl Sg.nd rfl k2 ⟨gE, hde, Or.inl hme⟩ (fun W pn xe tk _ => ?_) (fun a oe cls d pn _ _ => pss_one (ps_set (i := 1) Sg.nd rfl (Or.inl k1) (pe_var (i := 2) rfl (Or.inl k2)) rfl (l1 rfl)))) (hrt X.A s H)), ?_⟩
  · refine ⟨fun pins s' σ H' D I ⟨Ech, hW, h1, h2, h3⟩ => ?_⟩
    have hp := act (fun cls d σ H => σ.length = nAsk.length → W cls d σ H) pn xe Ech r1 r2 (takes_len tk) hW
    exact (pss_one (ps_expr (pos := r3) hp)).run pins s' σ H' D I ⟨h1, h2, h3⟩
  · have h' := h f
    refine ⟨fun cls d H' => PySem.W.exmOne X.K cls (.ref CS) = some true ∧ ∀ a, H' a = none → ∀ σ' : L2.St, σ'.length = 3 → σ'[1]? = some (some (.ref a)) → tr { nx := fun _ G => Q .non G, rt := Q } σ' (upd H' a (ErrAt cls d a)), ?_, rfl, hc, h'⟩
    rintro cls d σ' H' ⟨he, hk⟩ hl
    refine ⟨he, fun a na => ?_⟩
    exact ⟨.ref a, by rw [List.getElem?_set_self (by omega)] <;> rfl, fun na' => hk a na' _ (by simp [hl]) (by rw [List.getElem?_set_ne (by decide), List.getElem?_set_self (by simp [hl])] <;> rfl)⟩
/-! ### what stays while tables grow and the drawer draws -/
/-- H without its tables, and without what stands at t -/
def strip (t : Addr) (H : Hp) : Hp := fun a => if a = t then none else match H a with
  | some (.tbl _) => none
  | o => o
theorem strip_at {t a : Addr} {H : Hp} {o : HO} (h : H a = some o) (ht : a ≠ t) (hn : ∀ ps, o ≠ .tbl ps) : strip t H a = some o := by
  unfold strip
  rw [if_neg ht, h]
  split
  · rename_i ps e
    exact absurd (Option.some.inj e) (hn ps)
  · rfl
theorem strip_le {t a : Addr} {H : Hp} {o : HO} (h : strip t H a = some o) : a ≠ t ∧ H a = some o ∧ ∀ ps, o ≠ .tbl ps := by
  unfold strip at h
  by_cases z : a = t
  · rw [if_pos z] at h
    cases h
  · rw [if_neg z] at h
    refine ⟨z, ?_⟩
    split at h
    · cases h
    · rename_i hh
      refine ⟨h, fun ps e => ?_⟩
      rw [e] at h
      exact hh ps h
theorem strip_new {t a : Addr} {H : Hp} (h : H a = none) : strip t H a = none := by
  unfold strip
  split
  · rfl
  · rw [h]
theorem strip_ex {t : Addr} {H : Hp} : Evl.Ex (strip t H) H := fun a o h => (strip_le h).2.1
theorem strip_n {t : Addr} {H H' : Hp} (e : ExtN H H') : Evl.Ex (strip t H) H' := fun a o h => e a o (strip_le h).2.1 (strip_le h).2.2
theorem strip_nt {t : Addr} {H : Hp} : ∀ a ps, strip t H a ≠ some (.tbl ps) := fun a ps h => (strip_le h).2.2 ps rfl
/-- B, which holds no table, stands; so do the tables -/
structure Live (T : List (Addr × Str)) (B H : Hp) : Prop where
  ex : Evl.Ex B H
  nt : ∀ a ps, B a ≠ some (.tbl ps)
  tabs : Tabs T H
theorem Live.exN {T : List (Addr × Str)} {B H H' : Hp} (l : Live T B H) (e : ExtN H H') (t : Tabs T H') : Live T B H' := ⟨fun a o h => e a o (l.ex a o h) fun ps z => l.nt a ps (z ▸ h), l.nt, t⟩
theorem Live.go {T : List (Addr × Str)} {B H H' : Hp} (l : Live T B H) (e : Evl.Ex H H') : Live T B H' := ⟨l.ex.trans e, l.nt, l.tabs.ext e⟩
theorem Live.add {T : List (Addr × Str)} {B H : Hp} {p : Addr} {o : HO} (l : Live T B H) (h : H p = some o) (ho : ∀ ps, o ≠ .tbl ps) : Live T (upd B p o) H := ⟨fun a u e => by
  by_cases z : a = p
  · rw [z, upd_same] at e
    rw [z, h]
    exact e
  · rw [upd_ne z] at e
    exact l.ex a u e, fun a ps => by
  by_cases z : a = p
  · rw [z, upd_same]
    exact fun e => ho ps (Option.some.inj e)
  · rw [upd_ne z]
    exact l.nt a ps, l.tabs⟩
theorem Live.fresh {T : List (Addr × Str)} {B H : Hp} {p : Addr} (l : Live T B H) (h : H p = none) : B p = none := by
  cases e : B p with
  | none => rfl
  | some o =>
    have := l.ex p o e
    rw [h] at this
    cases this
section
variable {K : PySem.W.Frag} {σ : L2.St} {G : Hp}
theorem ev_isK {a D : Addr} {d : Option Addr} {fs : List (Str × V)} {c : Addr} {b : Bool} {i : Nat} (hσ : σ[i]? = some (some (.ref a))) (ha : G a = some (ErrAt (.ref D) d a)) (hd : DictAt G d fs) (E : ErrC K D) (hk : PySem.W.kitOne K (.ref D) (.ref c) = some b) :
    Evl.Ev (tCB (fun xs H Q => rIsi K xs H Q ∨ rIsK K xs H Q) (tCons (tVar i) (tCons (tC (.ref c)) tNil))) σ G (.bl b) := fun H1 e Q q =>
  ⟨.ref a, hσ, .inr ⟨a, D, d, fs, .ref c, .ref c, b, rfl, e _ _ ha, hd.imp fun x ⟨y, z⟩ => ⟨y, e _ _ z⟩, E, .own c, hk, q H1 (Evl.Ex.refl H1)⟩⟩
theorem ev_isNone {c : Addr} {b : Bool} {i : Nat} (hσ : σ[i]? = some (some .non)) (hk : PySem.W.kitOne K (.type "NoneType") (.ref c) = some b) :
    Evl.Ev (tCB (fun xs H Q => rIsi K xs H Q ∨ rIsK K xs H Q) (tCons (tVar i) (tCons (tC (.ref c)) tNil))) σ G (.bl b) := fun H1 e Q q =>
  ⟨.non, hσ, .inl ⟨.non, .ref c, .type "NoneType", .ref c, b, rfl, .own c, .base .non, hk, q H1 (Evl.Ex.refl H1)⟩⟩
theorem ev_keptF {a D : Addr} {d : Option Addr} {fs : List (Str × V)} {f : Str} {v : V} {i : Nat} (hσ : σ[i]? = some (some (.ref a))) (ha : G a = some (ErrAt (.ref D) d a)) (hd : DictAt G d fs) (E : ErrC K D) (hn : PySem.W.findIn K (.ref D) f = some none) (hl : fs.lookup f = some v) :
    Evl.Ev (tKeptF K f (tVar i)) σ G v := fun H1 e Q q => ⟨.ref a, hσ, a, D, d, fs, v, rfl, e _ _ ha, hd.imp fun x ⟨y, z⟩ => ⟨y, e _ _ z⟩, E, hn, hl, q H1 (Evl.Ex.refl H1)⟩
/-- a lambda heard that raises an error of the class D: a new tuple -/
theorem lam_raise {T : List (Addr × Str)} {CS D : Addr} {tr : TS} {t : XK → TE} {B H : Hp} {Q : VK} {fs : List (Str × V)} {vs : List V} (l : Live T B H) (hx : PySem.W.exmOne K (.ref D) (.ref CS) = some true)
    (ht : ∀ H1 E Q', Evl.Ex B H1 → (∀ H2 d, Evl.Ex H1 H2 → H2 d = none → E (.ref D) (some d) (upd H2 d (.xd fs))) → t E σ H1 Q')
    (hr : ∀ (G : Hp) (a d : Addr) (σ' : L2.St) (D' : Ends), G a = some (ErrAt (.ref D) (some d) a) → DictAt G (some d) fs → σ'.length = 3 → σ'[1]? = some (some (.ref a)) → (∀ p G', G p = none → Evl.Ex G G' → G' p = some (.tup vs) → D'.rt (.ref p) G') → tr D' σ' G)
    (k : ∀ p H3, Live T (upd B p (.tup vs)) H3 → H3 p = some (.tup vs) → B p = none → Q (.ref p) H3) : tLam T (THeardS K CS tr) t σ H Q := by
  refine ⟨l.tabs, fun H1 eN T1 f => ht H1 _ _ (l.exN eN T1).ex fun H2 d e2 hd => ⟨hx, fun a na σ' hl hσ => ?_⟩⟩
  have ad : d ≠ a := fun z => by rw [← z, upd_same] at na; cases na
  have eG : Evl.Ex H1 (upd (upd H2 d (.xd fs)) a (ErrAt (.ref D) (some d) a)) := (e2.trans (Evl.Ex.new hd)).trans (Evl.Ex.new na)
  refine hr _ a d σ' _ upd_same ⟨d, rfl, by rw [upd_ne ad, upd_same]⟩ hl hσ fun p G' hp e hG' => ?_
  have L := ((l.exN eN T1).go eG).go e
  refine k p G' (L.add hG' fun ps z => nomatch z) hG' ?_
  exact ((l.exN eN T1).go eG).fresh hp
/-- a lambda heard that raises nothing -/
theorem lam_calm {T : List (Addr × Str)} {CS : Addr} {tr : TS} {t : XK → TE} {B H : Hp} {Q : VK} (l : Live T B H)
    (ht : ∀ H1 E Q', Evl.Ex B H1 → (∀ v H2, Evl.Ex H1 H2 → Q' v H2) → t E σ H1 Q')
    (hr : ∀ (G : Hp) (f : Addr) (D' : Ends), (∀ G', Evl.Ex G G' → D'.rt .non G') → tr D' [some (.ref f), some .non, none] G)
    (k : ∀ H3, Live T B H3 → Q .non H3) : tLam T (THeardS K CS tr) t σ H Q :=
  ⟨l.tabs, fun H1 eN T1 f => ht H1 _ _ (l.exN eN T1).ex fun v H2 e2 => hr H2 f _ fun G' e => k G' (((l.exN eN T1).go e2).go e)⟩
end
end Hk
end S_Wk
section S_Ws
namespace Hk
open PySem PySem.Spec PyProof.Rows L2 LamX Tl
/-- isinstance(e, (c1, c2, ..)) of a kept error -/
def rIsKT (K : PySem.W.Frag) : List V → Hp → VK → Prop := fun xs H Q => ∃ (a D tp : Addr) (d : Option Addr) (fs : List (Str × V)) (cs : List V) (us : List Value) (b : Bool), xs = [.ref a, .ref tp] ∧ H a = some (ErrAt (.ref D) d a) ∧ DictAt H d fs ∧ ErrC K D ∧ H tp = some (.tup cs) ∧ Paired ClsV cs us ∧ PySem.W.kitAny K (.ref D) us = some b ∧ Q (.bl b) H
theorem call_isKeptT {X : Cx} : CallR X (.builtin "isinstance") (rIsKT X.K) := by
  intro pins s σ H xs us Q I r h
  obtain ⟨a, D, tp, d, fs, cs, ws, b, rfl, ha, hd, C, hT, k, e, q⟩ := h
  obtain ⟨u1, u2, rfl, r1, r2⟩ := vals2 r
  cases (show u2 = Value.ref tp from r2)
  cases (show u1 = Value.ref a from r1)
  obtain ⟨oe, od, mA, J, _, _⟩ := at_inst I ha hd
  obtain ⟨_, its, rv, o, h1, h2, n, h3⟩ := (show ObjOk X.prog X.w H s.heap tp (.tup cs) from I.hok tp _ hT)
  have e3 := ClsV.all k rv
  subst e3
  obtain ⟨oc, od', dt, sl⟩ := o
  simp only at h2 h3
  subst h2 h3
  exact PySem.W.kia_tup (PySem.W.kitx_exc C.ci C.ga C.gg C.ex C.ha C.hn C.ht C.hm) I.kIn J h1 e (fun z => nomatch z) fun tk => ⟨.bl b, H, I.kept (t' := tk) fun _ _ z => z, rfl, q⟩
theorem call_isAnyT {X : Cx} : CallR X (.builtin "isinstance") (fun xs H Q => rIsiT X.K xs H Q ∨ rIsKT X.K xs H Q) := by
  intro pins s σ H xs us Q I r h
  rcases h with h | h
  · exact call_isiT _ _ _ _ _ _ _ I r h
  · exact call_isKeptT _ _ _ _ _ _ _ I r h
section
variable {K : PySem.W.Frag} {σ : L2.St} {G : Hp}
theorem ev_isKT2 {a D : Addr} {d : Option Addr} {fs : List (Str × V)} {c1 c2 : Addr} {b : Bool} {i : Nat} (hσ : σ[i]? = some (some (.ref a))) (ha : G a = some (ErrAt (.ref D) d a)) (hd : DictAt G d fs) (E : ErrC K D) (hk : PySem.W.kitAny K (.ref D) [.ref c1, .ref c2] = some b) :
    Evl.Ev (tCB (fun xs H Q => rIsiT K xs H Q ∨ rIsKT K xs H Q) (tCons (tVar i) (tCons (tTup (tCons (tC (.ref c1)) (tCons (tC (.ref c2)) tNil))) tNil))) σ G (.bl b) := fun H1 e Q q =>
  ⟨.ref a, hσ, by show 2 ≤ sizeLine; decide, fun tp htp => .inr ⟨a, D, tp, d, fs, [.ref c1, .ref c2], [.ref c1, .ref c2], b, rfl, (e.trans (Evl.Ex.new htp)) _ _ ha, hd.imp fun x ⟨y, z⟩ => ⟨y, (e.trans (Evl.Ex.new htp)) _ _ z⟩, E, upd_same, .cons (.own c1) (.cons (.own c2) .nil), hk, q _ (Evl.Ex.new htp)⟩⟩
end
end Hk
end S_Ws
section S_Wu
namespace Hk
open PySem PySem.Spec PyProof.Rows L2 LamX Tl
/-- a text backward -/
def revS (z : Str) : Str := ⟨((Builtin.Str.strSliceIndices none none (-1) z.length).filterMap (z.cps[·]?)).toArray⟩
def tRevS (te : TE) : TE := fun σ H Q => te σ H fun x H1 => ∃ z, x = .str z ∧ (revS z).length ≤ sizeLine ∧ Q (.str (revS z)) H1
theorem pe_revS {X : Cx} {e : Expr} {te : TE} {k : Nat} {p1 p2 p3 pos : Pos} (he : PE X e te) : PE X (.Subscript e (.Slice none none (some (.UnaryOp .USub (.Constant (.int 1) k p1) p2)) p3) pos) (tRevS te) := by
  refine ⟨fun pins s σ H Q I h => ?_⟩
  refine Subscript_ (thn (he.run pins s σ H _ I h) fun v s1 ⟨x, H1, I1, r1, q1⟩ => ?_)
  obtain ⟨z, ex, hz, q⟩ := q1
  subst ex
  obtain ⟨t, rfl⟩ := r1
  have hst : PO X (some (.UnaryOp .USub (.Constant (.int 1) k p1) p2)) (tPart (tUn (rU fun i => .int (-i)) (tC (.int 1)))) := po_some (pe_un un_neg pe_int)
  refine wpAny_Slice (thn (po_none.run pins s1 σ H1 (fun o H2 => o = none ∧ H2 = H1) I1 ⟨rfl, rfl⟩) fun vl s2 ⟨l, H2, I2, pl, el, e2⟩ => ?_)
  subst el e2
  refine thn (po_none.run pins s2 σ H2 (fun o H3 => o = none ∧ H3 = H2) I2 ⟨rfl, rfl⟩) fun vu s3 ⟨u, H3, I3, pu, eu, e3⟩ => ?_
  subst eu e3
  refine thn (hst.run pins s3 σ H3 (fun o H4 => o = some (-1) ∧ H4 = H3) I3 ⟨1, rfl, -1, rfl, rfl, rfl⟩) fun vs s4 ⟨o, H4, I4, ps, eo, e4⟩ => ?_
  subst eo e4
  have I5 : Inv X pins σ H4 { s4 with heap := s4.heap.push { cls := .type "slice", data := .fields #[vl, vu, vs] } } := I4.kept (t' := s4.toks) fun b ob q => Heap.get?_push_of_some _ q
  obtain ⟨l', rfl, el⟩ := IsPart.raw pl
  obtain ⟨u', rfl, eu⟩ := IsPart.raw pu
  obtain ⟨st', rfl, es⟩ := IsPart.raw ps
  show wpAny (model X.prog X.w) X.A (subscriptTail e (.Slice none none (some (.UnaryOp .USub (.Constant (.int 1) k p1) p2)) p3) (.str z t) (.ref s4.heap.objs.size)) (EP X pins σ Q) X.xe { s4 with heap := s4.heap.push { cls := .type "slice", data := .fields #[partValue l', partValue u', partValue st'] } }
  refine tail_any (ops := [.str z t, .ref s4.heap.objs.size]) (typeIs_str _ _ _) (F.slot_str_getitem.lookup) ?_ (by with_unfolding_all rfl)
  refine wpAny_getItem_str_slice (l := l') (u := u') (st := st') ⟨_, Heap.get?_push_size _ rfl, rfl, rfl⟩ (by rw [es]; rfl) ?_
  unfold sliceMade slicePicked
  rw [el, eu, es]
  have hne : ¬((((some (-1) : Option Int).getD 1 == 1) && (Builtin.Str.strSliceIndices none none ((some (-1) : Option Int).getD 1) z.length).length == z.length) = true) := by
    show ¬((false && _) = true)
    rw [Bool.false_and]
    exact Bool.false_ne_true
  rw [if_neg hne]
  exact ⟨hz, .str (revS z), H4, I5.tok _, ⟨_, rfl⟩, q⟩
/-- a text, some times -/
def mulS (a : Str) (n : Nat) : Str := ⟨(List.replicate n a.cps).foldl (· ++ ·) #[]⟩
def rMulS : R2 := fun x y H Q => ∃ (a : Str) (n : Nat), x = .str a ∧ y = .int (n : Int) ∧ 2 ≤ n ∧ 1 ≤ a.length ∧ a.length * n ≤ 1000 ∧ Q (.str (mulS a n)) H
theorem op_mulS {X : Cx} : OpR X (binaryOp .Mult) rMulS := by
  intro pins s σ H x y v u Q I rx ry h
  obtain ⟨a, n, rfl, rfl, h2, h1, hz, q⟩ := h
  obtain ⟨t, rfl⟩ := rx
  obtain ⟨t2, rfl⟩ := ry
  have hn : n ≤ 1000 := Nat.le_trans (Nat.le_mul_of_pos_left n h1) hz
  have hlong : Builtin.Str.tooLong (a.length * ((n : Int)).toNat) = false := by
    rw [Int.toNat_natCast]
    refine decide_eq_false fun z => ?_
    rw [sizeLine_eq] at z
    exact absurd (Nat.lt_of_lt_of_le z hz) (by decide)
  refine PySem.P.mul_str ?_ (fun _ _ => ?_) (fun _ _ => hlong) ?_
  · rw [decide_eq_false (by omega), decide_eq_false (by omega)]
    rfl
  · have : ((a.length : Nat) : Int) ≤ (2 ^ 63 - 1) / (n : Int) := by
      refine (Int.le_ediv_iff_mul_le (by omega)).mpr ?_
      have : ((a.length : Nat) : Int) * (n : Int) = ((a.length * n : Nat) : Int) := by rw [Int.natCast_mul]
      rw [this]
      have h3 : ((a.length * n : Nat) : Int) ≤ 1000 := by exact_mod_cast hz
      exact Int.le_trans h3 (by decide)
    omega
  · rw [if_neg (by omega), if_neg (by
      rw [Bool.or_eq_true_iff, beq_iff_eq, beq_iff_eq]
      omega), Int.toNat_natCast]
    exact ⟨PySem.fits_reps (by rw [← hlong, Int.toNat_natCast]), .str (mulS a n), H, I.tok _, ⟨_, rfl⟩, q⟩
end Hk
end S_Wu
section S_Wt
namespace Hk
open PySem PySem.Spec PyProof.Rows L2 LamX Tl
/-- the law's own call where no repr is under way, its code object's table tracked -/
theorem law_gTs {P : Program} {w : World} {K : PySem.W.Frag} {mg mb : Str → Option Value} {k : Nat} {fa a : Addr} {Ts : List (Addr × Addr)} {fd : FuncData} {x : Str} {sp : Sp} {s₁ : Shared} {vs : List Value} {ns : List Int}
    (kin : K.In s₁.heap) (hns : s₁.heap.Ns mainGlobals mg) (hb : s₁.heap.Ns builtinsNs mb) (hbb : ∀ x : Str, x ≠ "__name__" → mb x = bootBuiltins x) (hlim : s₁.heap.NoLimit) (hg : s₁.gens = #[])
    (hTs : ∀ p ∈ Ts, s₁.heap.get? p.2 = some { cls := .none, data := .fields #[] } ∧ K.lookup p.2 = none ∧ PySem.W.CodeHd s₁.heap p.1 p.2)
    (hbm : ∃ (bm : Addr) (ob : Obj), mg "__builtins__" = some (.ref bm) ∧ bm ≠ builtinsNs ∧ s₁.heap.get? bm = some ob ∧ ob.cls = .type "module" ∧ ob.dict = some builtinsNs ∧ ob.data = .plain)
    (ha : s₁.heap.get? a = some { cls := .type "list", data := .seq vs.toArray }) (hi : IntsAre vs ns) (hl : ns.length ≤ sizeLine) (hr : Room k callerA)
    (F : ∀ base : Heap, K.In base → base.Ns mainGlobals mg → (∀ p ∈ Ts, TabB base mg p.1 p.2) → FnG P w K mg base k fa fd [x] sp) (hbind : ∀ (s : Shared) (u : Value), BindsTo s fd ⟨[u], []⟩ [(x, u)])
    (hsp : ∀ H : Hp, (∀ p ∈ Ts, H p.2 = some (.tbl #[])) → SqL K H a (ns.map V.int) → sp [.ref a] H (fun v _ => v = .bl true) fun _ _ _ => False) :
    codeAny (model P w) callerA (.call (.ref fa) ⟨[.ref a], []⟩) (fun r s' => r = .ok (.ret (.bool true)) ∧ OldK s₁.heap s'.heap ∧ s'.os = s₁.os ∧ AllBare s'.gens) s₁ := by
  have rv := vals_ints hi
  have tbl : ∀ {b : Addr}, b ∈ Ts.map (·.2) → s₁.heap.get? b = some { cls := .none, data := .fields #[] } ∧ K.lookup b = none := fun {b} hb => by
    obtain ⟨p, hp, rfl⟩ := List.mem_map.mp hb
    exact ⟨(hTs p hp).1, (hTs p hp).2.1⟩
  have aT : a ∉ Ts.map (·.2) := fun z => by
    rw [(tbl z).1] at ha
    have z' : Data.fields #[] = Data.seq vs.toArray _ := congrArg Obj.data (Option.some.inj ha)
    cases z'
  have run : ∀ H : Hp, (∀ p ∈ Ts, H p.2 = some (.tbl #[])) → SqL K H a (ns.map V.int) → HOk P w H s₁.heap → (∀ b u, H b = some u → b ∈ Ts.map (·.2) ∨ (b = a ∧ K.lookup a = none ∧ ∃ o xs, u = .frz o (.lst xs))) →
      codeAny (model P w) callerA (.call (.ref fa) ⟨[.ref a], []⟩) (fun r s' => r = .ok (.ret (.bool true)) ∧ OldK s₁.heap s'.heap ∧ s'.os = s₁.os ∧ AllBare s'.gens) s₁ := by
    intro H hHT hS hok hA
    have keepB : ∀ {b : Addr} {o : Obj}, s₁.heap.get? b = some o → (∀ vs n, o.data ≠ .seq vs n) → o.data ≠ .fields #[] → (hidT s₁.heap H).get? b = some o := fun {b o} e h1 h2 => by
      refine hidT_get e ?_
      cases q : H b with
      | none => rfl
      | some u =>
        rcases hA b u q with e1 | ⟨e1, _⟩
        · rw [(tbl e1).1] at e
          cases e
          exact absurd rfl h2
        · rw [e1, ha] at e
          cases e
          exact absurd rfl (h1 _ _)
    have ns_of : ∀ {b : Addr} {m : Str → Option Value}, s₁.heap.Ns b m → (hidT s₁.heap H).Ns b m := fun {b m} hm => by
      obtain ⟨o, es, ep, e, d, r⟩ := hm
      exact ⟨o, es, ep, keepB e (fun vs n z => by rw [d] at z; cases z) (fun z => by rw [d] at z; cases z), d, r⟩
    have kb : K.In (hidT s₁.heap H) := fun b o e => hidT_get (kin b o e) (by
      cases q : H b with
      | none => rfl
      | some u =>
        rcases hA b u q with e1 | ⟨e1, e2, _⟩
        · rw [(tbl e1).2] at e
          cases e
        · rw [e1, e2] at e
          cases e)
    have hM : Mod K mg (hidT s₁.heap H) := ⟨kb, ns_of hns, ⟨mb, ns_of hb, hbb⟩, hlim.elim fun mc h => ⟨mc, ns_of h.1, h.2⟩⟩
    have e0 : Env0 P w K mg (hidT s₁.heap H) callerA [] s₁ H := ⟨rfl, hM, fun _ _ e => of_hidT e, by rw [hidT_size] <;> exact Nat.le_refl _, trivial, fun _ hb => (nomatch hb), hok, .of_eq hg⟩
    have TB : ∀ p ∈ Ts, TabB (hidT s₁.heap H) mg p.1 p.2 := fun p hp => by
      obtain ⟨hT, nT, hC⟩ := hTs p hp
      refine ⟨?_, ?_, fun z => ?_⟩
      · obtain ⟨o, us, file, tf, flags, tg, inF, text, tt, e1, r1, r2, r3, r4⟩ := hC
        exact ⟨o, us, file, tf, flags, tg, inF, text, tt, keepB e1 (fun vs n z => by rw [r2] at z; cases z) (fun z => by rw [r2] at z; cases z; simp at r3), r1, r2, r3, r4⟩
      · obtain ⟨bm, ob, b1, b2, b3, b4, b5, b6⟩ := hbm
        refine ⟨bm, ob, b1, b2, fun q => ?_, fun q => ?_, keepB b3 (fun vs n z => by rw [b6] at z; cases z) (fun z => by rw [b6] at z; cases z), b4, b5, b6⟩
        · obtain ⟨o, es, ep, e, hd, _⟩ := hns
          rw [q, e] at b3
          cases b3
          rw [hd] at b6
          cases b6
        · rw [q, hT] at b3
          cases b3
          cases b6
      · obtain ⟨o, es, ep, e, hd, _⟩ := hns
        rw [z, hT] at e
        cases e
        cases hd
    refine codeAny_mono ((F _ kb (ns_of hns) TB).go rfl hr e0 (us := [.ref a]) (hbind s₁ (.ref a)) (vs := [.ref a]) (.cons rfl .nil) (hsp H hHT hS)) fun r s' h => ?_
    match r, h with
    | .ok (.ret u), h =>
      obtain ⟨v, H', os, bare, un, hok', r', q⟩ := h
      cases (show v = .bl true from q)
      cases (show u = Value.bool true from r')
      have grown : ∀ p ∈ Ts, ∃ more, s'.heap.get? p.2 = some { cls := .none, data := .fields more } := fun p hp => by
        obtain ⟨more, zT⟩ := un.tbls p.2 #[] (hHT p hp)
        have q := hok' p.2 _ zT
        rw [Array.empty_append] at q
        exact ⟨more, q⟩
      have others : ∀ b o, b ∉ Ts.map (·.2) → s₁.heap.get? b = some o → s'.heap.get? b = some o := fun b o nb e => by
        cases q : H b with
        | none => exact un.keep b o e q (fun y => (nomatch y)) (fun y => (nomatch y))
        | some u =>
          rcases hA b u q with z | ⟨_, _, ob, xs, rfl⟩
          · exact absurd z nb
          · obtain ⟨e1, _⟩ := hok b _ q
            obtain ⟨e2, _⟩ := hok' b _ (un.frzs b ob _ q)
            rw [e] at e1
            cases e1
            exact e2
      refine ⟨rfl, ⟨fun b o e => ?_, fun b o e => ?_⟩, os, bare⟩
      · by_cases hb : b ∈ Ts.map (·.2)
        · obtain ⟨p, hp, rfl⟩ := List.mem_map.mp hb
          obtain ⟨hT, _, hC⟩ := hTs p hp
          obtain ⟨more, hm⟩ := grown p hp
          rw [hT] at e
          cases e
          exact .inr (.inl ⟨(hC.tab hT).isCodeTable, rfl, #[], more, rfl, by rw [Array.empty_append]; exact hm⟩)
        · exact .inl (others b o hb e)
      · by_cases hb : b ∈ Ts.map (·.2)
        · obtain ⟨p, hp, rfl⟩ := List.mem_map.mp hb
          obtain ⟨more, hm⟩ := grown p hp
          exact ⟨_, hm⟩
        · exact ⟨o, others b o hb e⟩
    | .error e, h => exact False.elim h
    | .ok .next, h => exact False.elim h
    | .ok .brk, h => exact False.elim h
    | .ok .cont, h => exact False.elim h
  have mem : ∀ p ∈ Ts, p.2 ∈ Ts.map (·.2) := fun p hp => List.mem_map.mpr ⟨p, hp, rfl⟩
  cases hk : K.lookup a with
  | some o =>
    have e := kin a o hk
    rw [ha] at e
    cases e
    refine run (fun b => if b ∈ Ts.map (·.2) then some (.tbl #[]) else none) (fun p hp => if_pos (mem p hp)) (.inr ⟨_, vs.toArray, _, hk, rfl, rfl, rfl, ?_, by simpa using rv⟩) (fun b u z => ?_) (fun b u z => ?_)
    · rw [List.size_toArray, hi.length]
      exact hl
    · dsimp only at z
      by_cases hb : b ∈ Ts.map (·.2)
      · rw [if_pos hb] at z
        cases z
        exact (tbl hb).1
      · rw [if_neg hb] at z
        cases z
    · by_cases hb : b ∈ Ts.map (·.2)
      · exact .inl hb
      · rw [if_neg hb] at z
        cases z
  | none =>
    refine run (fun b => if b ∈ Ts.map (·.2) then some (.tbl #[]) else if b = a then some (.frz { cls := .type "list", data := .seq vs.toArray } (.lst (ns.map V.int))) else none) (fun p hp => if_pos (mem p hp)) (.inl (.inr ⟨_, by dsimp only; rw [if_neg aT, if_pos rfl]⟩)) (fun b u z => ?_) fun b u z => ?_
    · dsimp only at z
      by_cases hb : b ∈ Ts.map (·.2)
      · rw [if_pos hb] at z
        cases z
        exact (tbl hb).1
      · rw [if_neg hb] at z
        by_cases hb2 : b = a
        · rw [if_pos hb2] at z
          cases z
          subst hb2
          exact ⟨ha, by rw [List.length_map]; exact hl, vs, _, rv, ha⟩
        · rw [if_neg hb2] at z
          cases z
    · by_cases hb : b ∈ Ts.map (·.2)
      · exact .inl hb
      · rw [if_neg hb] at z
        by_cases hb2 : b = a
        · rw [if_pos hb2] at z
          cases z
          exact .inr ⟨hb2, hk, _, _, rfl⟩
        · rw [if_neg hb2] at z
          cases z
/-- what is known of a def whose lambdas' table is tracked -/
def TabOf (K : PySem.W.Frag) (mg : Str → Option Value) (q : Program) (p : Addr × Addr) : Prop := ∃ (name : Str) (f : Addr) (fd : FuncData) (o : Obj) (e : Value) (dd : Option Addr) (vs : Array Value) (sl : Array (Option Value)),
  ((recsOf q).any fun e => e.name == name) = true ∧ mg name = some (.ref f) ∧ K.lookup f = some o ∧ o.data = .func fd ∧ fd.code = .ref p.1 ∧ K.lookup p.1 = some ⟨e, dd, .fields vs, sl⟩ ∧ vs[11]? = some (.ref p.2) ∧ K.lookup p.2 = none
theorem walk_gTs {l : PySem.W.OpenLaw} {n k : Nat} {q : Program} {loose : List Str} {XP : (Str → Option Value) → Heap → Prop} {YP : World → Heap → Prop} {d : DefRec} {K : Params → PySem.W.Frag} {x : Str}
    (hn : l.most = some n) (hn2 : n ≤ sizeLine) (hdf : d.params.defaults = []) (hr : Room k callerA) (hY : ∀ (w : World) (h : Heap), YP w h → (K w.params).In h)
    (F : ∀ (w : World) (mg : Str → Option Value) (fa : Addr) (h : Heap), (K w.params).In h → h.Ns mainGlobals mg → mg d.name = some (.ref fa) →
      ∃ (fd : FuncData) (Ts : List (Addr × Addr)) (sp : Sp), (∀ p ∈ Ts, TabOf (K w.params) mg q p) ∧ (∀ (s : Shared) (u : Value), BindsTo s fd ⟨[u], []⟩ [(x, u)]) ∧
        (∀ (H : Hp) (a : Addr) (ns : List Int), ns.length ≤ n → (∀ p ∈ Ts, H p.2 = some (.tbl #[])) → SqL (K w.params) H a (ns.map V.int) → sp [.ref a] H (fun v _ => v = .bl true) fun _ _ _ => False) ∧
        ∀ base : Heap, (K w.params).In base → base.Ns mainGlobals mg → (∀ p ∈ Ts, TabB base mg p.1 p.2) → FnG l.prog w (K w.params) mg base k fa fd [x] sp) :
    PySem.W.WalkO q loose XP YP l.row.toRowW d [] (fun f vs => PySem.call f vs) := by
  refine Att.attach_call hn hdf fun w s₀ s₁ mg mb fa o pm cd doc a vs ns G Y ho hd hcd hmg hobj hints hlen hg => ?_
  have kin := hY w _ Y
  obtain ⟨fd, Ts, sp, hTs, h1, hs, h2⟩ := F w mg fa _ kin G.T.g hmg
  have ts : ∀ p ∈ Ts, s₁.heap.get? p.2 = some { cls := .none, data := .fields #[] } ∧ (K w.params).lookup p.2 = none ∧ PySem.W.CodeHd s₁.heap p.1 p.2 := fun p hp => by
    obtain ⟨name, f, fd', o1, e, dd, us, sl, hrec, hmf, k1, k2, k3, k4, k5, nT⟩ := hTs p hp
    obtain ⟨dL, hm, hn1⟩ := List.any_eq_true.mp hrec
    have hn2' : dL.name = name := beq_iff_eq.mp hn1
    obtain ⟨a', o', fd2, c', P', g1, g2, g3, g4, g5, g6⟩ := G.T.tab dL hm
    rw [hn2', hmf] at g1
    cases g1
    have q1 := kin _ _ k1
    rw [q1] at g2
    cases g2
    rw [k2] at g3
    cases g3
    rw [k3] at g4
    cases g4
    have hC := PySem.W.CodeHd.of g5 g6
    obtain ⟨⟨oc, vc, e1, _, e3, e4⟩, hP⟩ := g6
    have q2 := kin _ _ k4
    rw [q2] at e1
    cases e1
    cases e3
    rw [k5] at e4
    cases e4
    exact ⟨hP, nT, hC⟩
  exact law_gTs kin G.T.g G.T.b G.T.builtins G.T.nolimit hg ts G.T.bmain hobj hints (Nat.le_trans hlen hn2) hr h2 h1 fun H hHT hS => hs H a ns hlen hHT hS
end Hk
end S_Wt
section S_Wl
namespace Hk
open PySem PySem.Spec PyProof.Rows L2 Tl
theorem cutAt (xs : List V) {b h : Nat} (hl : b + h ≤ xs.length) : cutV xs (some (b : Int)) (some ((b + h : Nat) : Int)) = (xs.drop b).take h := by
  unfold cutV
  rw [HT.sIx_nat, HT.sIx_nat, Nat.min_eq_left hl, Nat.min_eq_left (by omega), show b + h - b = h by omega]
section
open Evl
variable {K : PySem.W.Frag} {σ : L2.St} {H : Hp} {ta tb : TE}
def zD (ns : List Int) : List PyData := ns.map PyData.int
theorem dp_zD : ∀ (ns : List Int), DpAll K H (ns.map V.int) (zD ns)
  | [] => .nil
  | i :: r => .cons (.int i) (dp_zD r)
theorem eqv_zD (ns ms : List Int) : PyData.eqv (.list (zD ns)) (.list (zD ms)) = decide (ns = ms) := PySem.W.Datum.eqv (α := List Int) ns ms
/-- two new lists of ints, alike or not -/
theorem ev_eqLL {ns ms : List Int} (ha : EvL ta σ H (ns.map V.int)) (hb : EvL tb σ H (ms.map V.int)) : Ev (tOp (rEqD K) ta tb) σ H (.bl (decide (ns = ms))) :=
  ev_opLL ha hb fun p q H1 h1 h2 _ => fun H2 e2 Q k => by
    refine ⟨.list (zD ns), .list (zD ms), .lst (sq_of (e2 _ _ h1)) (dp_zD ns), .lst (sq_of (e2 _ _ h2)) (dp_zD ms), PySem.W.ke_shaped_ints ns, PySem.W.ke_shaped_ints ms, ?_⟩
    rw [eqv_zD]
    exact k H2 (Ex.refl H2)
end
end Hk
namespace Hk
open PySem PySem.Spec PyProof.Rows L2 Tl
section
open Evl
variable {K : PySem.W.Frag} {σ : L2.St} {H : Hp} {ta tb te : TE} {t : TT}
/-- a comprehension over anything that is walked, with a test: the turns that give, and what -/
theorem el_lcI {wi : TI} {g : TG} {vs : List Nat} {n : Nat} {Y : Nat → Hp → V → Hp → Prop} {s : Nat → L2.St → L2.St} (f : Nat → Bool) (v : Nat → V) (hw : EvI wi σ H n Y) (aim : Aims g n Y s) (hs : ∀ i, wipe (s i (wipe σ vs)) vs = wipe σ vs) (hn : n ≤ 40000)
    (ht : ∀ i H1, Ex H H1 → i < n → EvT t (s i (wipe σ vs)) H1 (f i)) (he : ∀ i H1, Ex H H1 → i < n → f i = true → Ev te (s i (wipe σ vs)) H1 (v i)) : EvL (tLc wi g t te vs) σ H (given n f v) := fun H1 e Q q =>
  hw H1 e _ fun J G H2 e2 w sG D hD => lc_it w (Cw H2 f v D) ⟨hD, Ex.new hD, upd_same⟩ (fun i H' _ p => sG H' ((e.trans e2).trans p.2.1) fun a o _ ha => p.2.1 _ _ ha)
    (fun i x A B hi p y => by
      obtain ⟨ab, k⟩ := aim i (wipe σ vs) A x B hi y
      exact k _ ⟨hs i, cw_turn ⟨p.1, p.2.1.trans ab, ab _ _ p.2.2⟩ (by omega) (ht i H2 (e.trans e2) hi) fun hf => he i H2 (e.trans e2) hi hf⟩)
    (fun H' p => q D H' (fresh_back e2 p.1) (e2.trans p.2.1) p.2.2)
theorem el_catN {xs ys : List V} (ha : EvL ta σ H xs) (hb : EvL tb σ H ys) (hz : xs.length + ys.length ≤ 100000) : EvL (tOp rCat ta tb) σ H (xs ++ ys) := fun H1 e Q q =>
  ha H1 e _ fun a H2 ha' e2 h2 => hb H2 (e.trans e2) _ fun p H3 _ e3 h3 => ⟨a, p, xs, ys, rfl, rfl, e3 _ _ h2, h3, sz_of hz, fun r hr => q r _ (fresh_back (e2.trans e3) hr) ((e2.trans e3).trans (Ex.new hr)) upd_same⟩
end
theorem yes_at {σ : L2.St} {H : Hp} {P R : Hp → Prop} (h : P H) : tYes σ H fun b H3 => if b = true then P H3 else R H3 := by
  show (if true = true then P H else R H)
  rw [if_pos rfl]
  exact h
theorem if_go {b : Bool} {P R : Prop} (h1 : b = true → P) (h2 : b = false → R) : if b = true then P else R := by
  cases b with
  | true => rw [if_pos rfl]; exact h1 rfl
  | false => rw [if_neg (by decide)]; exact h2 rfl
theorem cutTo' (xs : List V) (n : Nat) : cutV xs none (some (n : Int)) = xs.take n := by
  unfold cutV
  rw [HT.sIx_none, HT.sIx_nat, List.drop_zero, Nat.sub_zero]
  by_cases h : n ≤ xs.length
  · rw [Nat.min_eq_left h]
  · rw [Nat.min_eq_right (by omega), List.take_length, List.take_of_length_le (by omega)]
theorem cutFrom (xs : List V) (n : Nat) : cutV xs (some (n : Int)) none = xs.drop n := by
  unfold cutV
  rw [HT.sIx_nat, HT.sIx_none]
  by_cases h : n ≤ xs.length
  · rw [Nat.min_eq_left h, List.take_of_length_le (by rw [List.length_drop]; omega)]
  · rw [Nat.min_eq_right (by omega), Nat.sub_self, List.take_zero, List.drop_of_length_le (by omega)]
end Hk
namespace Hk
open PySem PySem.Spec PyProof.Rows L2 Tl
section
open Evl
variable {K : PySem.W.Frag} {σ : L2.St} {H : Hp} {ta tb te : TE} {t : TT}
theorem el_catNV {m : Addr} {xs ys : List V} (ha : EvL ta σ H xs) (hb : Ev tb σ H (.ref m)) (hm : H m = some (.lst ys)) (hz : xs.length + ys.length ≤ 100000) : EvL (tOp rCat ta tb) σ H (xs ++ ys) := fun H1 e Q q =>
  ha H1 e _ fun a H2 ha' e2 h2 => hb H2 (e.trans e2) _ fun H3 e3 => ⟨a, m, xs, ys, rfl, rfl, e3 _ _ h2, e3 _ _ (e2 _ _ (e _ _ hm)), sz_of hz, fun r hr => q r _ (fresh_back (e2.trans e3) hr) ((e2.trans e3).trans (Ex.new hr)) upd_same⟩
theorem el_rg1 {j : Int} (ha : Ev ta σ H (.int j)) (h : RgOk 0 j) : EvL (tLstRg (tRg1 ta)) σ H (rgV 0 j) := fun H1 e Q q =>
  ha H1 e _ fun H2 e2 => ⟨j, rfl, h, fun p hp => q p _ (fresh_back e2 hp) (e2.trans (Ex.new hp)) upd_same⟩
end
end Hk
namespace Hk
open PySem PySem.Spec PyProof.Rows L2 LamX Tl
theorem tupText_le {ts : List Str} {c : Nat} (h : ∀ t ∈ ts, t.length ≤ c) : (tupleText ts).length ≤ ts.length * (c + 2) + 3 := by
  unfold tupleText
  rw [strLen_append, strLen_append]
  have e1 : (("(" : String) : Str).length = 1 := rfl
  have e2 : (((if ts.length == 1 then ",)" else ")" : String)) : Str).length ≤ 2 := by split <;> decide
  have e3 : (Str.join ", " ts).length ≤ piled ts := by
    cases ts with
    | nil => exact Nat.le_refl _
    | cons t r => have := join_length_add (t :: r) (by simp); omega
  have := piled_le h
  omega
theorem z_lenT {ns : List Int} {c : Nat} (h1 : ns.length * (c + 4) ≤ 100000) (h2 : ∀ x ∈ ns, x.natAbs ≤ c) : (PyData.tuple (dz ns)).shown.length ≤ sizeLine := by
  show (tupleText (PyData.shownAll (dz ns))).length ≤ _
  rw [shownAll_eq]
  have := tupText_le (ts := (dz ns).map PyData.shown) (c := c + 2) fun u hu => by
    unfold dz at hu
    rw [List.map_map] at hu
    obtain ⟨x, hx, rfl⟩ := List.mem_map.mp hu
    have b1 := len_str_of_int x
    have b2 := h2 x hx
    show (Str.ofString (toString x)).length ≤ c + 2
    omega
  rw [List.length_map] at this
  unfold dz at this
  rw [List.length_map] at this
  have h3 : ns.length * (c + 2 + 2) ≤ 100000 := h1
  rw [sizeLine_eq]
  unfold dz
  omega
theorem z_showB {b : Nat} (hb : b < 2 ^ 1000) : ∀ {ns : List Int}, (∀ x ∈ ns, x.natAbs ≤ b) → PyData.showableAll (dz ns) = true
  | [], _ => rfl
  | x :: r, h => by
    show (decide (x.natAbs.log2 < 1920) && PyData.showableAll (dz r)) = true
    rw [z_showB hb fun y hy => h y (List.mem_cons_of_mem _ hy), Bool.and_true]
    have h1 := h x List.mem_cons_self
    refine decide_eq_true ?_
    by_cases z : x.natAbs = 0
    · rw [z]; decide
    · have := (Nat.log2_lt z (k := 1000)).mpr (by omega)
      omega
theorem z_deepT (ns : List Int) : (PyData.tuple (dz ns)).depth ≤ 20 := by
  unfold dz
  simp [PyData.depth, PySem.W.ke_depthAll]
/-- repr of data at an address, or of None -/
def rReprB (K : PySem.W.Frag) : List V → Hp → VK → Prop := fun xs H Q => rRepr K xs H Q ∨ (xs = [.non] ∧ Q (.str "None") H)
theorem call_reprB {X : Cx} (hg : X.A.guards = some []) (hu : X.A.units + 64 < cLine) : CallR X (.builtin "repr") (rReprB X.K) := by
  intro pins s σ H xs us Q I r h
  rcases h with h | ⟨rfl, q⟩
  · exact call_reprD hg hu _ _ _ _ _ _ _ I r h
  · obtain ⟨u, rfl, ru⟩ := vals1 r
    cases ru
    exact PySem.P.repr_of_none ⟨.str "None", H, I.tok _, ⟨_, rfl⟩, q⟩
end Hk
end S_Wl
section S_Wv
namespace Hk
open PySem PySem.Spec PyProof.Rows L2 LamX Tl
/-- repr of data at an address, of None or of a truth -/
def rReprX (K : PySem.W.Frag) : List V → Hp → VK → Prop := fun xs H Q => rReprB K xs H Q ∨ ∃ b : Bool, xs = [.bl b] ∧ Q (.str (if b then "True" else "False")) H
theorem call_reprX {X : Cx} (hg : X.A.guards = some []) (hu : X.A.units + 64 < cLine) : CallR X (.builtin "repr") (rReprX X.K) := by
  intro pins s σ H xs us Q I r h
  rcases h with h | ⟨b, rfl, q⟩
  · exact call_reprB hg hu _ _ _ _ _ _ _ I r h
  · obtain ⟨u, rfl, ru⟩ := vals1 r
    cases ru
    exact PySem.P.repr_of_bool ⟨.str (if b then "True" else "False"), H, I.tok _, ⟨_, rfl⟩, q⟩
theorem ev_reprT {K : PySem.W.Frag} {te : TE} {σ : L2.St} {H : Hp} {b : Bool} (h : Evl.Ev te σ H (.bl b)) : Evl.Ev (tCB (rReprX K) (tCons te tNil)) σ H (.str (if b then "True" else "False")) := fun H1 e Q q =>
  h H1 e _ fun H2 e2 => .inr ⟨b, rfl, q H2 e2⟩
theorem strip_tb {T t : Addr} {H : Hp} {ps : Array Value} (hT : H T = some (.tbl ps)) {a : Addr} {o : HO} (h : H a = some o) (hn : ∀ ps, o ≠ .tbl ps) : strip T H a = some o := strip_at h (fun z => by
  rw [z, hT] at h
  exact hn ps (Option.some.inj h).symm) hn
theorem strip_extN {T : Addr} {H H' : Hp} {ps : Array Value} (hT : H T = some (.tbl ps)) (e : Evl.Ex (strip T H) H') : ExtN H H' := fun a o h hn => e a o (strip_tb (t := T) hT h hn)
end Hk
end S_Wv
section S_Wx
namespace Hk
open PySem PySem.Spec PyProof.Rows L2 LamX Tl
section
variable {prog : Program} {w : World} {A : Around} {E : Value → Shared → Prop} {s : Shared}
theorem applied_rev {sl : Addr} {vs : Value} {n : Nat} {Q : Int × Int × Nat → Shared → Prop} (hs : s.heap.IsSliceOf sl .none .none vs) (ps : IsPart vs (some (-1)))
    (h : Q ((n : Int) - 1, -1, n) s) : wpAny (model prog w) A (Builtin.Slice.sliceApplied (.ref sl) (pure (n : Int))) Q E s := by
  obtain ⟨os, hos, hcs, hds⟩ := id hs
  unfold Builtin.Slice.sliceApplied Builtin.Slice.sliceFields
  refine wpAny_bind (wpAny_bind (wpAny_field hos hds (x := .none) rfl (wpAny_bind (wpAny_field hos hds (x := .none) rfl (wpAny_bind (wpAny_field hos hds (x := vs) rfl (wpAny_pure ?_)))))))
  refine wpAny_bind (HT.slicePart_ ps ?_)
  show wpAny _ _ (if ((-1 : Int) == 0) = true then _ else _) _ _ s
  rw [if_neg (by decide)]
  refine wpAny_bind (HT.slicePart_ .none (wpAny_bind (HT.slicePart_ .none (wpAny_bind (wpAny_pure ?_)))))
  show wpAny _ _ (pure ((n : Int) - 1, (-1 : Int), Builtin.Slice.slicePlaces ((n : Int) - 1) (-1) (-1))) _ _ s
  have e : Builtin.Slice.slicePlaces ((n : Int) - 1) (-1) (-1) = n := by
    unfold Builtin.Slice.slicePlaces
    rw [if_neg (by decide)]
    by_cases z : n = 0
    · subst z; decide
    · rw [if_pos (by omega)]
      have : ((n : Int) - 1 - -1 - 1) / (- -1) = (n : Int) - 1 := by
        rw [Int.neg_neg, Int.ediv_one]
        omega
      rw [this]
      omega
  rw [e]
  exact wpAny_pure h
theorem fm_congr {α β : Type} {f g : α → Option β} : ∀ {l : List α}, (∀ x ∈ l, f x = g x) → l.filterMap f = l.filterMap g
  | [], _ => rfl
  | a :: r, h => by rw [List.filterMap_cons, List.filterMap_cons, h a List.mem_cons_self, fm_congr fun x hx => h x (List.mem_cons_of_mem _ hx)]
theorem pick_rev (xs : Array Value) : ((List.range xs.size).filterMap fun (m : Nat) => xs[((xs.size : Int) - 1 + (m : Int) * (-1)).toNat]?).toArray = xs.toList.reverse.toArray := by
  have h := HT.pick_gen xs.reverse 0 xs.size
  have e : ((List.range xs.size).filterMap fun (m : Nat) => xs[((xs.size : Int) - 1 + (m : Int) * (-1)).toNat]?) = (List.range xs.size).filterMap fun (m : Nat) => xs.reverse[(((0 : Nat) : Int) + (m : Int) * 1).toNat]? := by
    refine fm_congr fun m hm => ?_
    have hm := List.mem_range.mp hm
    have h1 : ((xs.size : Int) - 1 + (m : Int) * (-1)).toNat = xs.size - 1 - m := by omega
    have h2 : (((0 : Nat) : Int) + (m : Int) * 1).toNat = m := by omega
    rw [h1, h2, Array.getElem?_reverse hm]
  rw [e, h, List.drop_zero, List.take_of_length_le (by simp)]
  simp
theorem getItem_tuple_rev {t sl : Addr} {items : Array Value} {vs : Value} {Q : Value → Shared → Prop} (ht : IsTup s.heap t items) (hs : s.heap.IsSliceOf sl .none .none vs) (ps : IsPart vs (some (-1)))
    (h : Q (.ref s.heap.objs.size) { s with heap := s.heap.push { cls := .type "tuple", data := .seq items.toList.reverse.toArray } })
    (hsz : items.size ≤ sizeLine) : wpAny (model prog w) A (getItem (.ref t) (.ref sl)) Q E s := by
  have htake : sizeOk (.seq items.toList.reverse.toArray) := by
    show items.toList.reverse.toArray.size ≤ sizeLine
    rw [List.size_toArray, List.length_reverse, Array.length_toList]
    exact hsz
  obtain ⟨os, hos, hcs, hds⟩ := id hs
  have hTs : s.TypeIs (.ref sl) "slice" := ⟨os, hos, hcs⟩
  unfold getItem
  try with_reducible refine wpAny_holding ?_
  first | refine wpAny_bind (wpAny_pure ?_) | skip
  refine wpAny_bind (wpAny_sequenceKey ht.typeIs (by decide) ?_)
  refine wpAny_bind (wpAny_callSpecial?_slot (name := Str.ofString "__getitem__") ht.typeIs PyProof.Rows.slot_tuple_getitem
    (wpAny_call_entry PyProof.Rows.slot_tuple_getitem ht.typeIs PyProof.Rows.entry_tuple_getitem ?_ (PyProof.Rows.args_tuple_getitem _ _)))
  show wpAny _ _ (Builtin.Tuple.tupleItemsOf (.ref t) >>= _) _ _ s
  refine wpAny_bind (tupleItemsOf_ ht ?_)
  refine wpAny_bind (wpAny_typeOf hTs ?_)
  rw [if_pos (by decide)]
  refine wpAny_bind (applied_rev hs ps ?_)
  have hno : ¬ ((((items.size : Int) - 1) == 0 && (-1 : Int) == 1 && items.size == items.size) = true) := by
    rw [show ((-1 : Int) == 1) = false from rfl, Bool.and_false, Bool.false_and]
    exact Bool.false_ne_true
  show wpAny _ _ (if ((((items.size : Int) - 1) == 0 && (-1 : Int) == 1 && items.size == items.size) = true) then _ else _) _ _ s
  rw [if_neg hno, pick_rev]
  first
    | exact wpAny_bind (m := Builtin.Tuple.tupleExact _) (wpAny_newObj_type (wpAny_pure ⟨_, rfl, wpAny_pure h⟩) htake)
    | exact wpAny_bind (m := Builtin.Tuple.tupleExact _) (wpAny_newObj_type (wpAny_bind (wpAny_pure (wpAny_pure ⟨_, rfl, wpAny_pure h⟩))) htake)
    | exact wpAny_bind (wpAny_bind (m := Builtin.Tuple.tupleExact _) (wpAny_newObj_type (wpAny_pure (wpAny_pure ⟨_, rfl, wpAny_pure h⟩)) htake))
    | exact wpAny_bind (wpAny_bind (m := Builtin.Tuple.tupleExact _) (wpAny_newObj_type (wpAny_pure ⟨_, rfl, wpAny_pure h⟩) htake))
end
/-- a tuple backward -/
def tRevT (K : PySem.W.Frag) (te : TE) : TE := fun σ H Q => te σ H fun x H1 => ∃ a xs, x = .ref a ∧ SqT K H1 a xs ∧ ∀ p, H1 p = none → Q (.ref p) (upd H1 p (.tup xs.reverse))
theorem pe_revT {X : Cx} {e : Expr} {te : TE} {k : Nat} {p1 p2 p3 pos : Pos} (he : PE X e te) : PE X (.Subscript e (.Slice none none (some (.UnaryOp .USub (.Constant (.int 1) k p1) p2)) p3) pos) (tRevT X.K te) := by
  refine ⟨fun pins s σ H Q I h => ?_⟩
  refine Subscript_ (thn (he.run pins s σ H _ I h) fun v s1 ⟨x, H1, I1, r1, q1⟩ => ?_)
  obtain ⟨a, xs, ex, hx, q⟩ := q1
  subst ex
  cases r1
  have hst : PO X (some (.UnaryOp .USub (.Constant (.int 1) k p1) p2)) (tPart (tUn (rU fun i => .int (-i)) (tC (.int 1)))) := po_some (pe_un un_neg pe_int)
  refine wpAny_Slice (thn (po_none.run pins s1 σ H1 (fun o H2 => o = none ∧ H2 = H1) I1 ⟨rfl, rfl⟩) fun vl s2 ⟨l, H2, I2, pl, el, e2⟩ => ?_)
  subst el e2
  refine thn (po_none.run pins s2 σ H2 (fun o H3 => o = none ∧ H3 = H2) I2 ⟨rfl, rfl⟩) fun vu s3 ⟨u, H3, I3, pu, eu, e3⟩ => ?_
  subst eu e3
  refine thn (hst.run pins s3 σ H3 (fun o H4 => o = some (-1) ∧ H4 = H3) I3 ⟨1, rfl, -1, rfl, rfl, rfl⟩) fun vs s4 ⟨o, H4, I4, ps, eo, e4⟩ => ?_
  subst eo e4
  have I5 : Inv X pins σ H4 { s4 with heap := s4.heap.push { cls := .type "slice", data := .fields #[vl, vu, vs] } } := I4.kept (t' := s4.toks) fun b ob q => Heap.get?_push_of_some _ q
  obtain ⟨its, r, ht, hz⟩ := I5.tuple hx
  have hlen := r.length
  cases pl
  cases pu
  show wpAny (model X.prog X.w) X.A (subscriptTail e (.Slice none none (some (.UnaryOp .USub (.Constant (.int 1) k p1) p2)) p3) (.ref a) (.ref s4.heap.objs.size)) (EP X pins σ Q) X.xe { s4 with heap := s4.heap.push { cls := .type "slice", data := .fields #[.none, .none, vs] } }
  refine tail_any (ops := [.ref a, .ref s4.heap.objs.size]) ht.typeIs (PyProof.Rows.slot_tuple_getitem.lookup) ?_ (by with_unfolding_all rfl)
  refine getItem_tuple_rev ht (Heap.IsSliceOf.new _ .none .none vs) ps ?_ (by rw [List.size_toArray]; omega)
  refine ⟨.ref _, _, I5.laid (t' := s4.toks) (o := .tup xs.reverse) (fun b ob q => Heap.get?_push_of_some _ q) (Nat.le_refl _) ?_, rfl, q _ (I5.hok.fresh (Nat.le_refl _))⟩
  exact ⟨by rw [List.length_reverse]; exact hz, _, r.reverse, IsTup.new _ _⟩
end Hk
end S_Wx
section S_Wy
namespace Hk
open PySem PySem.Spec PyProof.Rows L2 LamX Tl
/-! ### a call of a def that wants no repr under way -/
theorem pe_callG {X : Cx} {k : Nat} {f : Addr} {fd : FuncData} {ps : List Str} {sp : Sp} {E : XK} {x : Str} {p pos : Pos} {e : Expr} {es : List Expr} {t : TA} (F : FnG X.prog X.w X.K X.mg X.base k f fd ps sp) (hgd : X.A.guards = some []) (hr : Room k X.A) (hg : Gl X x) (hm : X.mg x = some (.ref f))
    (hk : PySem.W.keepIn X.K (.ref f) = true) (hb : Binds X.K fd ps []) (hx : Passes CX0 X E) (ha : PA X (e :: es) t) (hdb : (x == ("__debug__" : Str)) = false := by decide) (he : starEach (e :: es) X.env = (false, eval e X.env) :: starEach es X.env := by rfl)
    (hpl : (backTo pos (starEach es X.env)).any (·.1) = false := by rfl) : PE X (.Call (.Name x p) (e :: es) [] pos) (tCall sp [] E t) := by
  constructor
  intro pins s σ H Q I h
  refine wpAny_Call_Name_kw (ld_glob I hg hm (PySem.W.callWith_K (h₀ := X.base) I.ok.mod.kin hk (thn (ha.run pos pins s σ H _ I h) fun us s1 hv => ?_) he hpl) hdb)
  obtain ⟨vs, H1, I1, r, q⟩ := hv
  rw [List.append_nil] at q
  refine ⟨I1.kIn, wpAny_call (codeAny_mono (F.go hgd hr I1.env0 (by
    have := hb s1 us I1.kIn (by rw [List.append_nil, ← r.length]; exact F.len q)
    rwa [List.append_nil] at this) r q) fun z s' hq => ?_)⟩
  match z, hq with
  | .error e, hq => exact hx pins σ H1 s1 e s' I1 hq
  | .ok (.ret u), hq => exact I1.after hq
  | .ok .next, hq => exact hq.elim
  | .ok .brk, hq => exact hq.elim
  | .ok .cont, hq => exact hq.elim
theorem FnG.mono {P : Program} {w : World} {K : PySem.W.Frag} {mg : Str → Option Value} {base : Heap} {j k : Nat} {f : Addr} {fd : FuncData} {ps : List Str} {sp : Sp} (F : FnG P w K mg base j f fd ps sp) (h : j ≤ k) : FnG P w K mg base k f fd ps sp := ⟨F.len, fun a b c d e g => F.go a (b.mono h) c d e g⟩
theorem addr_snoc {as : List Addr} {p : Addr} {i : Nat} {a : Addr} (h : (as ++ [p])[i]? = some a) : (i < as.length ∧ as[i]? = some a) ∨ (i = as.length ∧ p = a) := by
  rcases Nat.lt_or_ge i as.length with z | z
  · rw [List.getElem?_append_left z] at h
    exact .inl ⟨z, h⟩
  · rw [List.getElem?_append_right z] at h
    rcases Nat.lt_or_ge (i - as.length) 1 with y | y
    · have e : i - as.length = 0 := by omega
      rw [e] at h
      cases h
      exact .inr ⟨by omega, rfl⟩
    · rw [List.getElem?_eq_none (by rw [List.length_singleton]; exact y)] at h
      cases h
section
open Evl
variable {K : PySem.W.Frag} {σ : L2.St} {H : Hp}
/-- a comprehension whose items are new objects, one each -/
theorem go_lcN {wi : TI} {g : TG} {te : TE} {vs : List Nat} {n : Nat} {Y : Nat → Hp → V → Hp → Prop} {s : Nat → L2.St → L2.St} {o : Nat → HO} (hw : EvI wi σ H n Y) (aim : Aims g n Y s) (hs : ∀ i, wipe (s i (wipe σ vs)) vs = wipe σ vs) (hn : n ≤ 90000)
    (he : ∀ i, i < n → ∀ H1, Ex H H1 → ∀ Q : VK, (∀ p H2, H1 p = none → Ex H1 H2 → H2 p = some (o i) → Q (.ref p) H2) → te (s i (wipe σ vs)) H1 Q) (H1 : Hp) (e : Ex H H1) (Q : VK)
    (q : ∀ (D : Addr) (as : List Addr) (H2 : Hp), H1 D = none → Ex H1 H2 → H2 D = some (.lst (as.map V.ref)) → as.length = n → (∀ (i : Nat) (a : Addr), as[i]? = some a → H2 a = some (o i)) → Q (.ref D) H2) :
    tLc wi g tYes te vs σ H1 Q :=
  hw H1 e _ fun J G H2 e2 w sG D hD => lc_it w (fun i H' => Ex H2 H' ∧ ∃ as : List Addr, H' D = some (.lst (as.map V.ref)) ∧ as.length = i ∧ (∀ (k : Nat) (a : Addr), as[k]? = some a → H1 a = none ∧ H' a = some (o k) ∧ a ≠ D))
    ⟨Ex.new hD, [], upd_same, rfl, fun i v h => by simp at h⟩ (fun i H' _ p => sG H' ((e.trans e2).trans p.1) fun a o _ ha => p.1 _ _ ha)
    (fun i x A B hi p y => by
      obtain ⟨p1, as, p3, p4, p5⟩ := p
      obtain ⟨ab, k⟩ := aim i (wipe σ vs) A x B hi y
      refine k _ ⟨hs i, ?_⟩
      show te (s i (wipe σ vs)) B _
      refine he i hi B (((e.trans e2).trans p1).trans ab) _ fun p C hp eC hC => ⟨as.map V.ref, eC _ _ (ab _ _ p3), sz_lt (by rw [List.length_map]; omega), ((p1.trans ab).trans eC).mut hD, as ++ [p], ?_, by rw [List.length_append, p4] <;> rfl, fun j a ha => ?_⟩
      · rw [upd_same, List.map_append]
        rfl
      · rcases addr_snoc ha with ⟨_, ha⟩ | ⟨rfl, rfl⟩
        · obtain ⟨q1, q2, q3⟩ := p5 j a ha
          exact ⟨q1, by rw [upd_ne q3]; exact eC _ _ (ab _ _ q2), q3⟩
        · have pD : p ≠ D := fun z => by rw [z, ab _ _ p3] at hp; cases hp
          exact ⟨fresh_back ((e2.trans p1).trans ab) hp, by rw [upd_ne pD, p4]; exact hC, pD⟩)
    (fun H' p => by
      obtain ⟨p1, as, p3, p4, p5⟩ := p
      exact q D as H' (fresh_back e2 hD) (e2.trans p1) p3 p4 fun i a ha => (p5 i a ha).2.1)
end
end Hk
end S_Wy
section S_Xa
namespace EnL
open PySem PySem.Spec PySem.Calls PyProof.Rows
section
variable {M : Model} {A : Around} {E : Value → Shared → Prop} {s : Shared} {env : Env}
theorem callWith_typeB {pos : Pos} {T : String} {first : List Value} {args : List (Bool × Sem Value)} {keywords : List (Option Str × Sem Value)} {Q : Value → Shared → Prop}
    (hplain : args.any (·.1) = false) (hkw : keywords.any (·.1.isNone) = false)
    (h : wpAny M A (evalArgs (.type T) true args keywords) (fun a s₁ => wpAny M A (call (.type T) (first ++ a.pos) a.kw) Q E s₁) E s) :
    wpAny M A (callWith pos (.type T) first args keywords) Q E s := by
  unfold callWith
  refine wpAny_bind (wpAny_holding (wpAny_mono h (fun a s₁ h₁ => wpAny_bind (wpAny_standAt ?_)) fun _ _ x => x))
  simp only [hplain, hkw, Bool.or_false]
  refine wpAny_bind (wpAny_pure ?_)
  exact wpAny_bind (wpAny_mono h₁ (fun r s₂ hr => wpAny_bind (wpAny_holding (wpAny_point (wpAny_pure hr)))) fun _ _ x => x)
theorem callWith_typeKw {pos : Pos} {T : String} {e : Expr} {rest : List Expr} {kws : List Keyword} {Q : Value → Shared → Prop}
    (h : wpAny M A (spliced (backTo pos (starEach (e :: rest) env))) (fun vs s₁ => wpAny M A (evalAll ((backToKw pos (keywordEach kws env)).map (·.2)))
      (fun kvs s₂ => wpAny M A (call (.type T) vs (((backToKw pos (keywordEach kws env)).filterMap (·.1)).zip kvs)) Q E s₂) E s₁) E s)
    (he : backTo pos (starEach (e :: rest) env) = (false, eval e env) :: backTo pos (starEach rest env) := by rfl)
    (hplain : (backTo pos (starEach (e :: rest) env)).any (·.1) = false := by rfl)
    (hall : (backToKw pos (keywordEach kws env)).all (·.1.isSome) = true := by rfl)
    (hkw : (backToKw pos (keywordEach kws env)).any (·.1.isNone) = false := by rfl) :
    wpAny M A (callWith pos (.type T) [] (backTo pos (starEach (e :: rest) env)) (backToKw pos (keywordEach kws env))) Q E s := by
  refine callWith_typeB hplain hkw ?_
  rw [he] at h ⊢
  exact evalArgs_kwB hall h
end
/-- the counter's result tuple is held by another -/
abbrev EnOut (h : Heap) (e it : Addr) (c : Int) (old : Value) (a : Addr) (f : Bool) : Prop :=
  h.get? e = some { cls := .type "enumerate", dict := none, data := .fields #[rawInt a, .bool f, .ref it, rawInt c, .none, old], slots := #[] }
section
variable {prog : Program} {w : World} {A : Around} {E : Value → Shared → Prop} {s : Shared}
theorem next_out0 {e it l a : Addr} {oa : Obj} {i : Nat} {c : Int} {items : Array Value} {x old : Value} {f : Bool} {Q : Value → Shared → Prop}
    (he : EnOut s.heap e it c old a f) (ha : s.heap.get? a = some oa) (hae : a ≠ e) (hai : a ≠ it) (hit : s.heap.IsListIter it l i) (hl : s.heap.IsList l items) (hx : items[i]? = some x) (hne : e ≠ it)
    (hQ : ∀ h', EnOut h' e it (c + 1) old a true → h'.IsListIter it l (i + 1) →
      h'.get? s.heap.objs.size = some { cls := .type "tuple", data := .seq #[.int c s.toks, x] } → h'.objs.size = s.heap.objs.size + 1 →
      (∀ b o, b ≠ e → b ≠ it → s.heap.get? b = some o → h'.get? b = some o) → Q (.ref s.heap.objs.size) { s with heap := h', toks := s.toks + 1 }) :
    wpAny (model prog w) A (Builtin.«enumerate.__next__» ⟨[.ref e], []⟩) (fun fin s' => ∃ v, fin = .done (.ret v) ∧ Q v s') E s := by
  obtain ⟨hp, g, d, tk, os⟩ := s
  show wpAny _ _ (field (.ref e) 2 >>= _) _ _ _
  refine wpAny_bind (wpAny_field he rfl (x := .ref it) rfl ?_)
  refine wpAny_bind (wpAny_nextOf_list_item hit hl hx fun h₁ hit₁ hs₁ => ?_)
  replace hs₁ : Heap.SameBut it hp h₁ := hs₁
  have he₁ : EnOut h₁ e it c old a f := (hs₁.2 e hne).trans he
  show wpAny _ _ (field (.ref e) 3 >>= _) _ _ ⟨h₁, g, d, tk, os⟩
  refine wpAny_bind (wpAny_field he₁ rfl (x := rawInt c) rfl ?_)
  show wpAny _ _ (field (.ref e) 4 >>= _) _ _ ⟨h₁, g, d, tk, os⟩
  refine wpAny_bind (wpAny_field he₁ rfl (x := .none) rfl ?_)
  show wpAny _ _ (mkInt c >>= _) _ _ ⟨h₁, g, d, tk, os⟩
  refine wpAny_bind (wpAny_mkInt ?_)
  show wpAny _ _ (setField (.ref e) 3 (rawInt (c + 1)) >>= _) _ _ ⟨h₁, g, d, tk + 1, os⟩
  refine wpAny_bind (wpAny_setField_rec he₁ (by simp) fun h₂ he₂ hs₂ => ?_)
  replace hs₂ : Heap.SameBut e h₁ h₂ := hs₂
  replace he₂ : EnOut h₂ e it (c + 1) old a f := he₂
  show wpAny _ _ (setField (.ref e) 4 .none >>= _) _ _ ⟨h₂, g, d, tk + 1, os⟩
  refine wpAny_bind (wpAny_setField_rec he₂ (by simp) fun h₃ he₃ hs₃ => ?_)
  replace hs₃ : Heap.SameBut e h₂ h₃ := hs₃
  replace he₃ : EnOut h₃ e it (c + 1) old a f := he₃
  show wpAny _ _ (newTuple [.int c tk, x] >>= _) _ _ ⟨h₃, g, d, tk + 1, os⟩
  refine wpAny_bind (wpAny_newTuple ?_)
  have he₄ : EnOut (h₃.push { cls := .type "tuple", data := .seq #[.int c tk, x] }) e it (c + 1) old a f := Heap.get?_push_of_some _ he₃
  generalize hh₄ : h₃.push { cls := .type "tuple", data := .seq #[.int c tk, x] } = h₄ at he₄
  have hsz : h₃.objs.size = hp.objs.size := by rw [hs₃.1, hs₂.1, hs₁.1]
  have hel : e < hp.objs.size := Heap.lt_size he
  have ht₄ : h₄.get? hp.objs.size = some { cls := .type "tuple", data := .seq #[.int c tk, x] } := by rw [← hh₄, ← hsz]; exact Heap.get?_push_size _ rfl
  have hz₄ : h₄.objs.size = hp.objs.size + 1 := by rw [← hh₄, Heap.size_push, hsz]
  have hk₄ : ∀ b o, b ≠ e → b ≠ it → hp.get? b = some o → h₄.get? b = some o := fun b o hbe hbi hb => by
    rw [← hh₄]; exact Heap.get?_push_of_some _ (hs₃.extBut b o hbe (hs₂.extBut b o hbe (hs₁.extBut b o hbi hb)))
  have hit₄ : h₄.IsListIter it l (i + 1) := by
    rw [← hh₄]; obtain ⟨o, ho, r⟩ := (hit₁.extBut hs₂.extBut (Ne.symm hne)).extBut hs₃.extBut (Ne.symm hne); exact ⟨o, Heap.get?_push_of_some _ ho, r⟩
  have ha₄ := hk₄ a oa hae hai ha
  show wpAny _ _ (Builtin.SmallTypes.ownedTupleIsFree (.ref e) >>= _) _ _ ⟨h₄, g, d, tk + 1, os⟩
  rw [hsz]
  clear hh₄ he₃ hs₃ he₂ hs₂ he₁ hs₁ hit₁ hsz h₃ h₂ h₁
  refine wpAny_bind ?_
  unfold Builtin.SmallTypes.ownedTupleIsFree
  refine wpAny_bind (wpAny_field he₄ rfl (x := rawInt a) rfl ?_)
  show wpAny _ _ (loadIfAlive ((a : Int).toNat) >>= _) _ _ _
  rw [Int.toNat_natCast]
  refine wpAny_bind (PySem.W.kdx_alive ha₄ ?_)
  simp only [Option.isNone_some, Bool.false_eq_true, if_false]
  refine wpAny_bind (wpAny_field he₄ rfl (x := .bool f) rfl ?_)
  have fin : ∀ h₅ : Heap, EnOut h₅ e it (c + 1) old a true → Heap.SameBut e h₄ h₅ → Q (.ref hp.objs.size) ⟨h₅, g, d, tk + 1, os⟩ := fun h₅ he₅ hs₅ =>
    hQ h₅ he₅ (hit₄.extBut hs₅.extBut (Ne.symm hne)) (hs₅.extBut _ _ (Nat.ne_of_gt hel) ht₄) (by show h₅.objs.size = hp.objs.size + 1; rw [hs₅.1, hz₄]) fun b o hbe hbi hb => hs₅.extBut b o hbe (hk₄ b o hbe hbi hb)
  cases f with
  | true =>
    rw [if_neg (show ¬ ((Value.bool true != Value.bool true) = true) from Bool.false_ne_true)]
    refine wpAny_pure ?_
    simp only [Bool.false_eq_true, if_false]
    exact wpAny_pure ⟨_, rfl, fin h₄ he₄ (Heap.SameBut.refl _ _)⟩
  | false =>
    rw [if_pos (show (Value.bool false != Value.bool true) = true from rfl)]
    refine wpAny_bind (wpAny_setField_rec he₄ (by simp) fun h₅ he₅ hs₅ => ?_)
    replace hs₅ : Heap.SameBut e h₄ h₅ := hs₅
    replace he₅ : EnOut h₅ e it (c + 1) old a true := he₅
    refine wpAny_pure ?_
    simp only [Bool.false_eq_true, if_false]
    exact wpAny_pure ⟨_, rfl, fin h₅ he₅ hs₅⟩
theorem next_out {e it l a : Addr} {oa : Obj} {i : Nat} {c : Int} {items : Array Value} {x old : Value} {f : Bool} {Q : Option Value → Shared → Prop}
    (he : EnOut s.heap e it c old a f) (ha : s.heap.get? a = some oa) (hae : a ≠ e) (hai : a ≠ it) (hit : s.heap.IsListIter it l i) (hl : s.heap.IsList l items) (hx : items[i]? = some x) (hne : e ≠ it)
    (hQ : ∀ h', EnOut h' e it (c + 1) old a true → h'.IsListIter it l (i + 1) →
      h'.get? s.heap.objs.size = some { cls := .type "tuple", data := .seq #[.int c s.toks, x] } → h'.objs.size = s.heap.objs.size + 1 →
      (∀ b o, b ≠ e → b ≠ it → s.heap.get? b = some o → h'.get? b = some o) → Q (some (.ref s.heap.objs.size)) { s with heap := h', toks := s.toks + 1 }) :
    wpAny (model prog w) A (pyNext (.ref e)) Q E s := by
  have hT : s.TypeIs (.ref e) "enumerate" := ⟨_, he, rfl⟩
  unfold pyNext
  exact wpAny_bind (wpAny_attempt (wpAny_callSpecial?_slot (name := Str.ofString "__next__") hT F.slot_enumerate_next
    (wpAny_call_entry F.slot_enumerate_next hT F.entry_enumerate_next
      (next_out0 he ha hae hai hit hl hx hne fun h' p q r t k => wpAny_pure (hQ h' p q r t k)) (F.args_enumerate_next_1 _))))
theorem end_out {e it l : Addr} {i : Nat} {items : Array Value} {Q : Option Value → Shared → Prop} {d : Array Value} (hh : A.handled = none)
    (he : s.heap.get? e = some { cls := .type "enumerate", dict := none, data := .fields d, slots := #[] }) (hd : d[2]? = some (.ref it)) (hit : s.heap.IsListIter it l i) (hl : s.heap.IsList l items) (hx : items[i]? = none)
    (hQ : ∀ h', Heap.ExtBut it s.heap h' → Q none { s with heap := h' }) : wpAny (model prog w) A (pyNext (.ref e)) Q E s := by
  have hT : s.TypeIs (.ref e) "enumerate" := ⟨_, he, rfl⟩
  unfold pyNext
  refine wpAny_bind (wpAny_attempt (wpAny_callSpecial?_slot (name := Str.ofString "__next__") hT F.slot_enumerate_next
    (wpAny_call_entry F.slot_enumerate_next hT F.entry_enumerate_next ?_ (F.args_enumerate_next_1 _))))
  show wpAny _ _ (field (.ref e) 2 >>= _) _ _ _
  refine wpAny_bind (wpAny_field he rfl (x := .ref it) hd ?_)
  refine wpAny_bind (wpAny_nextOf_list_end hh hit hl hx fun h' x he' hx' => ?_)
  obtain ⟨o, ho, hc⟩ := hx'
  refine wpAny_bind (wpAny_isInstance (T := "StopIteration") (b := true) ⟨o, ho, hc⟩ isSubtype_stop ?_)
  exact wpAny_pure (hQ _ he')
end
end EnL
end S_Xa
section S_Xb
namespace EnL
open PySem PySem.Spec PySem.Calls PyProof.Rows
section
variable {prog : Program} {w : World} {A : Around} {E : Value → Shared → Prop} {s : Shared}
def EnSt (h : Heap) (e it S : Addr) (i : Nat) (c : Int) : Prop := (i = 0 ∧ IsEnum h e it c .none) ∨ ∃ old a f oa, EnOut h e it (c + i) old a f ∧ h.get? a = some oa ∧ a ≠ e ∧ a ≠ it ∧ a ≠ S
theorem EnSt.keep {h h' : Heap} {e it S : Addr} {i : Nat} {c : Int} (x : EnSt h e it S i c) (hk : ∀ b o, b ≠ S → h.get? b = some o → h'.get? b = some o) (he : e ≠ S) : EnSt h' e it S i c := by
  rcases x with ⟨z, q⟩ | ⟨old, a, f, oa, q, ha, h1, h2, h3⟩
  · exact .inl ⟨z, hk _ _ he q⟩
  · exact .inr ⟨old, a, f, oa, hk _ _ he q, hk _ _ h3 ha, h1, h2, h3⟩
theorem list_ne {h : Heap} {l e : Addr} {items : Array Value} {o : Obj} (p : h.IsList l items) (q : h.get? e = some o) (hc : o.cls ≠ .type "list") : l ≠ e := fun z => by
  obtain ⟨u, hu, hcu, _⟩ := p
  rw [z, q] at hu
  cases hu
  exact hc hcu
theorem EnSt.obj {h : Heap} {e it S : Addr} {i : Nat} {c : Int} (x : EnSt h e it S i c) : ∃ o, h.get? e = some o ∧ o.cls = .type "enumerate" := by
  rcases x with ⟨z, q⟩ | ⟨old, a, f, oa, q, _⟩
  · exact ⟨_, q, rfl⟩
  · exact ⟨_, q, rfl⟩
theorem en_item {e it l S : Addr} {i : Nat} {c : Int} {items : Array Value} {x : Value} {Q : Option Value → Shared → Prop} (hh : A.handled = none) (hst : EnSt s.heap e it S i c) (hS : S < s.heap.objs.size)
    (hit : s.heap.IsListIter it l i) (hl : s.heap.IsList l items) (hx : items[i]? = some x) (hne : e ≠ it) (hli : l ≠ it)
    (hQ : ∀ h' tk, EnSt h' e it S (i + 1) c → h'.IsListIter it l (i + 1) → h'.get? s.heap.objs.size = some { cls := .type "tuple", data := .seq #[.int (c + i) tk, x] } → h'.objs.size = s.heap.objs.size + 1 →
      (∀ b o, b ≠ e → b ≠ it → s.heap.get? b = some o → h'.get? b = some o) → Q (some (.ref s.heap.objs.size)) { s with heap := h', toks := tk + 1 }) :
    wpAny (model prog w) A (pyNext (.ref e)) Q E s := by
  have e1 : c + ((i + 1 : Nat) : Int) = c + (i : Int) + 1 := by omega
  have iti : it < s.heap.objs.size := by obtain ⟨o, ho, _⟩ := hit; exact Heap.lt_size ho
  rcases hst with ⟨rfl, q⟩ | ⟨old, a, f, oa, q, ha, h1, h2, h3⟩
  · have hle : l ≠ e := list_ne hl q fun z => absurd (Value.type.inj z) (by decide)
    have hlt : 0 < items.size := by
      have := (Array.getElem?_eq_some_iff.mp hx).1
      exact this
    refine wpAny_pyNext_enum_itemC (Draws.list (show A.in1.handled = none from hh) it l hli items) q ⟨hit, hl⟩ hlt hne (by simp [hne, Ne.symm hle]) fun y g tk hy ho hst' ht hz hk => ?_
    have hy : y = x := by
      rw [hx] at hy
      exact (Option.some.inj hy).symm
    subst hy
    have e0 : c + ((0 : Nat) : Int) = c := by omega
    refine hQ g tk (.inr ⟨y, s.heap.objs.size, false, _, ?_, ht, Nat.ne_of_gt (Heap.lt_size q), Nat.ne_of_gt iti, Nat.ne_of_gt hS⟩) hst'.1 (by rw [e0]; exact ht) hz hk
    rw [e1, e0]
    exact ho
  · refine next_out q ha h1 h2 hit hl hx hne fun g hg hit' ht hz hk => ?_
    refine hQ g s.toks (.inr ⟨old, a, true, oa, ?_, hk a oa h1 h2 ha, h1, h2, h3⟩) hit' ht hz hk
    rw [e1]
    exact hg
theorem en_done {e it l S : Addr} {i : Nat} {c : Int} {items : Array Value} {Q : Option Value → Shared → Prop} (hh : A.handled = none) (hst : EnSt s.heap e it S i c) (hit : s.heap.IsListIter it l i) (hl : s.heap.IsList l items) (hx : items[i]? = none)
    (hQ : ∀ h', Heap.ExtBut it s.heap h' → Q none { s with heap := h' }) : wpAny (model prog w) A (pyNext (.ref e)) Q E s := by
  rcases hst with ⟨rfl, q⟩ | ⟨old, a, f, oa, q, _⟩
  · exact end_out hh q rfl hit hl hx hQ
  · exact end_out hh q rfl hit hl hx hQ
structure EnG (c : Int) (items : Array Value) (lo : Addr) (h : Heap) (as : List Addr) : Prop where
  rise : as.Pairwise (· < ·)
  above : ∀ a ∈ as, lo < a
  pairs : ∀ (j : Nat) (a : Addr), as[j]? = some a → ∃ t x, items[j]? = some x ∧ h.get? a = some { cls := .type "tuple", data := .seq #[.int (c + j) t, x] }
theorem EnG.there {c : Int} {items : Array Value} {lo : Addr} {h : Heap} {as : List Addr} (g : EnG c items lo h as) {a : Addr} (ha : a ∈ as) : a < h.objs.size := by
  obtain ⟨j, hj⟩ := List.mem_iff_getElem?.mp ha
  obtain ⟨_, _, _, e⟩ := g.pairs j a hj
  exact Heap.lt_size e
end
section
variable {prog : Program} {w : World} {A : Around} {s : Shared} {R : Result → Shared → Prop}
theorem en_loop {S e it l : Addr} {c : Int} {items : Array Value} (hh : A.handled = none) (heS : e < S) (hiS : it < S) (hlS : l < S) (hne : e ≠ it) (hli : l ≠ it) (hle : l ≠ e) (hn : items.size ≤ sizeLine) (res : Value) {h₁ : Heap}
    (hR : ∀ h' tk acc k as, (∀ b o, b ≠ S → b ≠ e → b ≠ it → h₁.get? b = some o → h'.get? b = some o) → h'.get? S = some { cls := .type "list", dict := none, data := .seq acc k, slots := #[] } → as.length = items.size → EnG c items S h' as →
      acc.toList = as.map Value.ref → R (.ok (.ret res)) { s with heap := h', toks := tk }) :
    ∀ (m i : Nat) (h : Heap) (tk k : Nat) (acc : Array Value) (as : List Addr), items.size - i = m → i ≤ items.size → EnSt h e it S i c → h.IsListIter it l i → h.IsList l items → (∀ b o, b ≠ S → b ≠ e → b ≠ it → h₁.get? b = some o → h.get? b = some o) →
      h.get? S = some { cls := .type "list", dict := none, data := .seq acc k, slots := #[] } → acc.toList = as.map Value.ref → as.length = i → EnG c items S h as →
      codeAny (model prog w) A (.builtin "list.extend.loop" ⟨[.ref S, .ref e, res], []⟩) R { s with heap := h, toks := tk } := by
  intro m
  induction m with
  | zero =>
    intro i h tk k acc as hk hi hst hit hL hkeep hS hacc hal hG
    have hin : i = items.size := by omega
    refine codeAny_builtin PySem.F.entry_extend_loop ?_
    rw [Around.under_plainId PySem.F.plain_extend_loop _]
    show wpAny _ A.in1 (pyNext (.ref e) >>= _) _ _ _
    refine wpAny_bind (en_done (s := { s with heap := h, toks := tk }) (A := A.in1) hh hst hit hL (Array.getElem?_eq_none (by omega)) fun h' he => ?_)
    refine wpAny_pure (hR h' tk acc k as (fun b o h1 h2 h3 e => he b o h3 (hkeep b o h1 h2 h3 e)) (he S _ (Nat.ne_of_gt hiS) hS) (by omega) ⟨hG.rise, hG.above, fun j a hj => ?_⟩ hacc)
    obtain ⟨t, x, e1, e3⟩ := hG.pairs j a hj
    exact ⟨t, x, e1, he a _ (Nat.ne_of_gt (Nat.lt_trans hiS (hG.above a (List.mem_of_getElem? hj)))) e3⟩
  | succ m ih =>
    intro i h tk k acc as hk hi hst hit hL hkeep hS hacc hal hG
    have hlt : i < items.size := by omega
    obtain ⟨x, hx⟩ : ∃ p, items[i]? = some p := ⟨items[i], by simp [hlt]⟩
    have hsz : acc.size = i := by rw [← Array.length_toList, hacc, List.length_map, hal]
    refine codeAny_builtin PySem.F.entry_extend_loop ?_
    rw [Around.under_plainId PySem.F.plain_extend_loop _]
    show wpAny _ A.in1 (pyNext (.ref e) >>= _) _ _ _
    refine wpAny_bind (en_item (s := { s with heap := h, toks := tk }) (A := A.in1) (S := S) hh hst (Heap.lt_size hS) hit hL hx hne hli fun h' tk' hst' hit' ht hz hkp => ?_)
    dsimp only at ht hz hkp ⊢
    have hSl : S < h.objs.size := Heap.lt_size hS
    have hS' := hkp S _ (Nat.ne_of_gt heS) (Nat.ne_of_gt hiS) hS
    have up : ∀ b o, b ≠ S → h'.get? b = some o → (h'.update S (Obj.mapSeq (·.push (Value.ref h.objs.size)))).get? b = some o := fun b o hb e => (Heap.get?_update_other _ _ (Ne.symm hb)).trans e
    show wpAny _ A.in1 (updateSeq S (·.push (Value.ref h.objs.size)) >>= _) _ _ _
    refine wpAny_bind ?_
    refine wpAny_updateSeq hS' rfl (wpAny_pure ⟨plainId_quiet PySem.F.plain_extend_loop _, ih (i + 1) _ (tk' + 1) _ (acc.push (Value.ref h.objs.size)) (as ++ [h.objs.size]) (by omega) hlt (hst'.keep up (Nat.ne_of_lt heS)) (hit'.at fun o e => up it o (Nat.ne_of_lt hiS) e)
      (let ⟨o, ho, r⟩ := hL; ⟨o, up l o (Nat.ne_of_lt hlS) (hkp l o hle hli ho), r⟩) (fun b o h1 h2 h3 e => up b o h1 (hkp b o h2 h3 (hkeep b o h1 h2 h3 e))) (Heap.get?_update_self _ hS' rfl) (by rw [Array.toList_push, hacc, List.map_append]; rfl) (by rw [List.length_append, hal]; rfl) ⟨?_, ?_, ?_⟩⟩) (by rw [hsz]; omega) (by show (acc.push (Value.ref h.objs.size)).size ≤ sizeLine + 1; rw [Array.size_push, hsz]; omega)
    · refine List.pairwise_append.mpr ⟨hG.rise, List.pairwise_singleton _ _, fun a ha b hb => ?_⟩
      rw [List.mem_singleton.mp hb]
      exact hG.there ha
    · intro a ha
      rcases List.mem_append.mp ha with ha | ha
      · exact hG.above a ha
      · rw [List.mem_singleton.mp ha]; exact hSl
    · intro j b hj
      rcases Nat.lt_trichotomy j as.length with h1 | h1 | h1
      · rw [List.getElem?_append_left h1] at hj
        obtain ⟨t, x', e1, e3⟩ := hG.pairs j b hj
        have hb := hG.above b (List.mem_of_getElem? hj)
        exact ⟨t, x', e1, up b _ (Nat.ne_of_gt hb) (hkp b _ (Nat.ne_of_gt (Nat.lt_trans heS hb)) (Nat.ne_of_gt (Nat.lt_trans hiS hb)) e3)⟩
      · subst h1
        have hb : h.objs.size = b := by simpa using hj
        subst hb
        exact ⟨tk', x, by rw [hal]; exact hx, up _ _ (Nat.ne_of_gt hSl) (by rw [hal]; exact ht)⟩
      · have hnone : (as ++ [h.objs.size])[j]? = none := List.getElem?_eq_none (by rw [List.length_append, List.length_singleton]; omega)
        rw [hnone] at hj; cases hj
end
theorem en_no_len : typeLookup (.type "enumerate") "__len__" = pure none := by rw [typeLookup_type, builtinLookup_eq_fast]; kernel_rfl
theorem en_no_hint : typeLookup (.type "enumerate") "__length_hint__" = pure none := by rw [typeLookup_type, builtinLookup_eq_fast]; kernel_rfl
end EnL
end S_Xb
section S_Xc
namespace EnL
open PySem PySem.Spec PySem.Calls PyProof.Rows
section
variable {prog : Program} {w : World} {A : Around} {E : Value → Shared → Prop} {s : Shared}
theorem en_extend {R : Result → Shared → Prop} {S e it l : Addr} {c : Int} {items : Array Value} (hh : A.handled = none) (heS : e < S) (hiS : it < S) (hlS : l < S) (hne : e ≠ it) (hli : l ≠ it) (hle : l ≠ e) (hn : items.size ≤ sizeLine) (res : Value) (c₀ : Nat)
    (he : IsEnum s.heap e it c .none) (hit : s.heap.IsListIter it l 0) (hl : s.heap.IsList l items) (hS : s.heap.get? S = some { cls := .type "list", data := .seq #[] c₀ })
    (hR : ∀ h' tk acc k as, (∀ b o, b ≠ S → b ≠ e → b ≠ it → s.heap.get? b = some o → h'.get? b = some o) → h'.get? S = some { cls := .type "list", dict := none, data := .seq acc k, slots := #[] } → as.length = items.size → EnG c items S h' as →
      acc.toList = as.map Value.ref → R (.ok (.ret res)) { s with heap := h', toks := tk }) :
    wpAny (model prog w) A.in1 (Builtin.List.listExtendWith (.ref S) (.ref e) res)
      (fun fin s' => match fin with | .done f => R (.ok f) s' | .again c' => c'.quiet = true ∧ codeAny (model prog w) A c' R s') (fun e s' => R (.error e) s') s := by
  have hT : s.TypeIs (.ref e) "enumerate" := ⟨_, he, rfl⟩
  unfold Builtin.List.listExtendWith
  refine wpAny_bind (wpAny_typeOf hT ?_)
  have h1 : Builtin.List.listSameRef (.ref S) (.ref e) = false := by simp [Builtin.List.listSameRef, Nat.ne_of_gt heS]
  have h2 : (Value.type "enumerate" == Value.type "list") = false := by decide
  have h3 : (Value.type "enumerate" == Value.type "tuple") = false := by decide
  simp only [h1, h2, h3, Bool.or_false, Bool.false_eq_true, if_false]
  refine wpAny_bind (wpAny_pyIter_enum he ?_)
  refine wpAny_bind (wpAny_holding ?_)
  unfold Builtin.List.listLengthHint
  refine wpAny_bind (wpAny_specialOf hT en_no_len ?_)
  show wpAny _ A.in1 (specialOf (Value.ref e) (Str.ofString "__length_hint__") >>= _) _ _ _
  refine wpAny_bind (wpAny_specialOf hT en_no_hint ?_)
  refine wpAny_pure ?_
  show wpAny _ A.in1 (rule "list.extend.makes-room" >>= fun _ => Builtin.List.listTouch (.ref S) >>= fun _ =>
    again (.builtin "list.extend.loop" ⟨[.ref S, .ref e, res], []⟩)) _ _ _
  refine wpAny_bind (wpAny_rule ?_)
  refine wpAny_bind ?_
  show wpAny _ A.in1 (updateSeq S (·.push .none) >>= fun _ => updateSeq S (·.pop)) _ _ _
  refine wpAny_bind (wpAny_updateSeq hS rfl ?_)
  have hS₂ := Heap.get?_update_self (Obj.mapSeq (·.push Value.none)) hS rfl
  refine wpAny_updateSeq (hz := by seq_fits) hS₂ rfl ?_
  have hS₃ := Heap.get?_update_self (Obj.mapSeq (·.pop)) hS₂ rfl
  have oth : ∀ b o, b ≠ S → s.heap.get? b = some o → ((s.heap.update S (Obj.mapSeq (·.push Value.none))).update S (Obj.mapSeq (·.pop))).get? b = some o :=
    fun b o hb e => (Heap.get?_update_other _ _ (Ne.symm hb)).trans ((Heap.get?_update_other _ _ (Ne.symm hb)).trans e)
  refine wpAny_pure ⟨plainId_quiet PySem.F.plain_extend_loop _, en_loop (s := s) (h₁ := s.heap) hh heS hiS hlS hne hli hle hn res hR items.size 0 _ _ _ #[] [] (Nat.sub_zero _) (Nat.zero_le _) (.inl ⟨rfl, oth _ _ (Nat.ne_of_lt heS) he⟩)
    (hit.at fun o e => oth it o (Nat.ne_of_lt hiS) e) (let ⟨o, ho, r⟩ := hl; ⟨o, oth l o (Nat.ne_of_lt hlS) ho, r⟩) (fun b o hb _ _ e => oth b o hb e) hS₃ rfl rfl ⟨List.Pairwise.nil, (fun _ ha => nomatch ha), (fun j a hj => by simp at hj)⟩⟩
theorem en_init {R : Result → Shared → Prop} {S e it l : Addr} {c : Int} {items : Array Value} (hh : A.handled = none) (heS : e < S) (hiS : it < S) (hlS : l < S) (hne : e ≠ it) (hli : l ≠ it) (hle : l ≠ e) (hn : items.size ≤ sizeLine)
    (he : IsEnum s.heap e it c .none) (hit : s.heap.IsListIter it l 0) (hl : s.heap.IsList l items) (hS : s.heap.get? S = some { cls := .type "list", data := .seq #[] })
    (hR : ∀ h' tk acc k as, (∀ b o, b ≠ S → b ≠ e → b ≠ it → s.heap.get? b = some o → h'.get? b = some o) → h'.get? S = some { cls := .type "list", dict := none, data := .seq acc k, slots := #[] } → as.length = items.size → EnG c items S h' as →
      acc.toList = as.map Value.ref → R (.ok (.ret .none)) { s with heap := h', toks := tk }) :
    wpAny (model prog w) A.in1 (Builtin.«list.__init__» ⟨[.ref S, .ref e], []⟩)
      (fun fin s' => match fin with | .done f => R (.ok f) s' | .again c' => c'.quiet = true ∧ codeAny (model prog w) A c' R s') (fun e s' => R (.error e) s') s := by
  show wpAny _ _ (do let old ← Builtin.List.listItems (.ref S); Builtin.List.listUpdate (.ref S) (fun _ => #[]); letGo old.toList.reverse; Builtin.List.listExtendWith (.ref S) (.ref e) .none) _ _ s
  refine wpAny_bind ?_
  unfold Builtin.List.listItems
  refine wpAny_bind (wpAny_seqItems hS rfl (wpAny_pure ?_))
  show wpAny _ _ (updateSeq S (fun _ => #[]) >>= fun _ => letGo (#[] : Array Value).toList.reverse >>= fun _ => Builtin.List.listExtendWith (.ref S) (.ref e) .none) _ _ s
  refine wpAny_bind (wpAny_updateSeq hS rfl ?_)
  have hS₂ := Heap.get?_update_self (Obj.mapSeq (fun _ => (#[] : Array Value))) hS rfl
  have oth : ∀ b o, b ≠ S → s.heap.get? b = some o → (s.heap.update S (Obj.mapSeq (fun _ => (#[] : Array Value)))).get? b = some o :=
    fun b o hb e => (Heap.get?_update_other _ _ (Ne.symm hb)).trans e
  refine wpAny_bind (wpAny_letGo ?_)
  refine en_extend (c := c) hh heS hiS hlS hne hli hle hn .none _ (oth _ _ (Nat.ne_of_lt heS) he) (hit.at fun o e => oth it o (Nat.ne_of_lt hiS) e) (let ⟨o, ho, r⟩ := hl; ⟨o, oth l o (Nat.ne_of_lt hlS) ho, r⟩) hS₂ fun h' tk acc k as hk hS' hl' hG hacc => ?_
  exact hR h' tk acc k as (fun b o hb h2 h3 e => hk b o hb h2 h3 (oth b o hb e)) hS' hl' hG hacc
theorem en_call {Q : Value → Shared → Prop} {e it l : Addr} {c : Int} {items : Array Value} (hh : A.handled = none) (hne : e ≠ it) (hli : l ≠ it) (hle : l ≠ e) (hn : items.size ≤ sizeLine)
    (he : IsEnum s.heap e it c .none) (hit : s.heap.IsListIter it l 0) (hl : s.heap.IsList l items)
    (hQ : ∀ h' tk acc k as, (∀ b o, b ≠ e → b ≠ it → s.heap.get? b = some o → h'.get? b = some o) → h'.get? s.heap.objs.size = some { cls := .type "list", dict := none, data := .seq acc k, slots := #[] } → as.length = items.size → EnG c items s.heap.objs.size h' as →
      acc.toList = as.map Value.ref → Q (.ref s.heap.objs.size) { s with heap := h', toks := tk }) :
    wpAny (model prog w) A (call (.type "list") [.ref e]) Q E s := by
  refine callType_codes (Q₁ := fun obj s₁ => obj = .ref s.heap.objs.size ∧ s₁ = { s with heap := s.heap.push { cls := .type "list", data := .seq #[] } }) PySem.F.called_list (PySem.F.typeCall_list_1 _) PySem.F.entry_list_init
    (code_list_new _ ⟨rfl, rfl⟩) fun obj s₁ h₁ => ?_
  obtain ⟨rfl, rfl⟩ := h₁
  have hS : (s.heap.push { cls := .type "list", data := .seq #[] }).get? s.heap.objs.size = some { cls := .type "list", data := .seq #[] } := Heap.get?_push_size _ rfl
  have le : e < s.heap.objs.size := Heap.lt_size he
  have li : it < s.heap.objs.size := let ⟨_, ho, _⟩ := hit; Heap.lt_size ho
  have ll : l < s.heap.objs.size := let ⟨_, ho, _⟩ := hl; Heap.lt_size ho
  refine ⟨⟨_, hS, rfl⟩, PySem.F.args_list_init_2 _ _, en_init (c := c) (A := A.in1) hh le li ll hne hli hle hn (Heap.get?_push_of_some _ he) (hit.at fun o e => Heap.get?_push_of_some _ e) (let ⟨o, ho, r⟩ := hl; ⟨o, Heap.get?_push_of_some _ ho, r⟩) hS (fun h' tk acc k as hk hS' hl' hG hacc => ?_)⟩
  exact ⟨rfl, hQ h' tk acc k as (fun b o h2 h3 e => hk b o (Nat.ne_of_lt (Heap.lt_size e)) h2 h3 (Heap.get?_push_of_some _ e)) hS' hl' hG hacc⟩
end
end EnL
end S_Xc
section S_Xd
namespace EnL
open PySem PySem.Spec PyProof.Rows L2 LiI
theorem laidS {X : Cx} {pins : List (Addr × Obj)} {σ : L2.St} {H : Hp} {s : Shared} {h' : Heap} {tk : Nat} {kvs : List (L2.Key × V)} {acc : Array Value} {c S : Nat} {as : List Addr} (I : Inv X pins σ H s) (hz : kvs.length ≤ sizeLine) (hS0 : s.heap.objs.size ≤ S)
    (hk : ∀ b o, s.heap.get? b = some o → h'.get? b = some o) (hS : h'.get? S = some { cls := .type "list", dict := none, data := .seq acc c, slots := #[] }) (hl : as.length = kvs.length) (rise : as.Pairwise (· < ·)) (above : ∀ a ∈ as, S < a)
    (hG : ∀ (j : Nat) (a : Addr), as[j]? = some a → ∃ pk key x, kvs[j]? = some pk ∧ RelV (kV pk.1) key ∧ RelV pk.2 x ∧ h'.get? a = some { cls := .type "tuple", data := .seq #[key, x] }) (hacc : acc.toList = as.map Value.ref) :
    ∃ H' : Hp, (∀ b o, H b = some o → H' b = some o) ∧ H S = none ∧ (∀ t ∈ as, H t = none) ∧ S ∉ as ∧ H' S = some (.lst (as.map V.ref)) ∧ Paired (fun (t : Addr) (q : L2.Key × V) => H' t = some (.tup [kV q.1, q.2])) as kvs ∧ Inv X pins σ H' { s with heap := h', toks := tk } := by
  have hSn : S ∉ as := fun z => Nat.lt_irrefl _ (above _ z)
  have nd : as.Nodup := List.Pairwise.imp (fun {a b} (h : a < b) => Nat.ne_of_lt h) rise
  have new : ∀ t ∈ as, H t = none := fun t ht => I.hok.fresh (Nat.le_trans hS0 (Nat.le_of_lt (above t ht)))
  have newS : H S = none := I.hok.fresh hS0
  have atP := putT_at as kvs (upd H S (.lst (as.map V.ref))) hl nd
  have off : ∀ b, b ∉ as → b ≠ S → putT (upd H S (.lst (as.map V.ref))) as kvs b = H b := fun b h1 h2 => by rw [putT_off as kvs _ h1, upd_ne h2]
  have low : ∀ b o, s.heap.get? b = some o → b ∉ as ∧ b ≠ S := fun b o e => ⟨fun z => absurd (Heap.lt_size e) (Nat.not_lt.mpr (Nat.le_trans hS0 (Nat.le_of_lt (above b z)))), Nat.ne_of_lt (Nat.lt_of_lt_of_le (Heap.lt_size e) hS0)⟩
  have kp : ∀ b u, H b = some u → (putT (upd H S (.lst (as.map V.ref))) as kvs) b = some u := fun b u e => by
    rw [off b (fun z => by rw [new b z] at e; cases e) (fun z => by rw [z, newS] at e; cases e)]
    exact e
  have eS : putT (upd H S (.lst (as.map V.ref))) as kvs S = some (.lst (as.map V.ref)) := by rw [putT_off as kvs _ hSn, upd_same]
  refine ⟨putT (upd H S (.lst (as.map V.ref))) as kvs, kp, newS, new, hSn, eS, atP, ?_⟩
  refine I.call' (ch := []) rfl ⟨fun b o q _ _ _ => hk b o q, fun b o q _ _ _ => ⟨o.slots, hk b o q⟩, fun b o q n _ => ?_, fun b o q _ => ⟨o, hk b o q⟩, fun b xs q => kp b _ q, fun b o u q => kp b _ q, fun b ps q => ⟨#[], by rw [kp b _ q]; simp⟩⟩ (fun b u q => ?_) I.bare fun b z => by simp at z
  · obtain ⟨z1, z2⟩ := low b o q
    rw [off b z1 z2]
    exact n
  · by_cases hb : b ∈ as
    · obtain ⟨j, pk, e1, e2, e3⟩ := paired_ix atP hb
      rw [e3] at q
      cases q
      obtain ⟨pk', key, x, f1, f2, f4, f3⟩ := hG j b e1
      rw [f1] at e2
      cases e2
      exact ⟨by show 2 ≤ sizeLine; decide, [key, x], .cons f2 (.cons f4 .nil), ⟨_, f3, rfl, _, rfl⟩⟩
    · by_cases hb2 : b = S
      · rw [hb2] at q ⊢
        rw [eS] at q
        cases q
        refine ⟨by rw [List.length_map]; omega, acc.toList, c, by rw [hacc]; exact LiI.vals_refs as, ?_⟩
        rw [Array.toArray_toList]
        exact hS
      · rw [off b hb hb2] at q
        exact (I.hok b u q).stay (fun d v _ y => hk d v y) (fun d y => kp d _ y) fun d xs y => kp d _ y
/-- the items with their numbers from c on -/
def enK (c : Int) (xs : List V) : List (L2.Key × V) := (List.range xs.length).map fun i => (Sum.inl (c + (i : Nat)), xs.getD i .non)
def tListEn (K : PySem.W.Frag) (ta tk : TA) : TE := fun σ H Q => ta σ H fun vs H1 => tk σ H1 fun zs H2 => ∃ (a : Addr) (xs : List V) (c : Int), vs = [.ref a] ∧ zs = [.int c] ∧ -1000000 ≤ c ∧ c ≤ 1000000 ∧ SqL K H2 a xs ∧
  ∀ (H' : Hp) (p : Addr) (ts : List Addr), (∀ b o, H2 b = some o → H' b = some o) → H2 p = none → H' p = some (.lst (ts.map V.ref)) → Paired (fun (t : Addr) (q : L2.Key × V) => H' t = some (.tup [kV q.1, q.2])) ts (enK c xs) → Q (.ref p) H'
section
variable {X : Cx} {e : Expr} {ta tk : TA} {p p2 pos pos2 : Pos} {kws : List Keyword}
theorem pe_listEn (hc : X.calm = true) (ha : PA X [e] ta) (hk : PK X kws tk) (hg : Gl X "list") (hm : X.mg "list" = none) (hv : bootBuiltins "list" = some (.type "list")) (hg2 : Gl X "enumerate") (hm2 : X.mg "enumerate" = none)
    (hks : (backToKw pos2 (keywordEach kws X.env)).filterMap (·.1) = [Str.ofString "start"] := by rfl)
    (he : backTo pos2 (starEach [e] X.env) = (false, eval e X.env) :: backTo pos2 (starEach [] X.env) := by rfl) (hpl : (backTo pos2 (starEach [e] X.env)).any (·.1) = false := by rfl)
    (hall : (backToKw pos2 (keywordEach kws X.env)).all (·.1.isSome) = true := by rfl) (hnone : (backToKw pos2 (keywordEach kws X.env)).any (·.1.isNone) = false := by rfl)
    (hs : starEach [.Call (.Name "enumerate" p2) [e] kws pos2] X.env = (false, eval (.Call (.Name "enumerate" p2) [e] kws pos2) X.env) :: starEach [] X.env := by rfl) :
    PE X (.Call (.Name "list" p) [.Call (.Name "enumerate" p2) [e] kws pos2] [] pos) (tListEn X.K ta tk) := by
  refine ⟨fun pins s σ H Q I hq => ?_⟩
  refine wpAny_Call_Name_kw (ld_blt I hg hm hv ?_)
  refine PyProof.Rows.callWith_type1 ?_ hs rfl
  rw [hs]
  show wpAny _ _ (spliced ((false, eval (.Call (.Name "enumerate" p2) [e] kws pos2) X.env) :: backTo pos (starEach [] X.env))) _ _ s
  refine Calls.spliced_cons ?_
  refine wpAny_Call_Name_kw (ld_blt I hg2 hm2 boot_enumerate ?_)
  refine callWith_typeKw (thn (ha.run pos2 pins s σ H _ I hq) fun us s1 ⟨vs, H1, I1, r1, q1⟩ => thn (hk.run pos2 pins s1 σ H1 _ I1 q1) fun ws s2 ⟨zs, H2, I2, r2, q2⟩ => ?_) he hpl hall hnone
  rw [hks]
  obtain ⟨a, xs, c, rfl, rfl, c0, c1, hq', q⟩ := q2
  obtain rfl := Vals.ref1 r1
  obtain ⟨w1, rfl, t1, rfl⟩ := vals1 r2
  obtain ⟨its, rv, pl, hz⟩ := I2.list hq'
  refine PySem.enum_begins_start (begins_list a its.toArray) pl.isList (by omega) (by omega) fun h1 hen hit0 hsz hk1 => ?_
  refine Calls.spliced_nil ?_
  have hit : h1.IsListIter s2.heap.objs.size a 0 := ⟨_, hit0, rfl, rfl⟩
  have pl1 : h1.IsList a its.toArray := let ⟨o, ho, r⟩ := pl.isList; ⟨o, hk1 a o ho, r⟩
  have la : a < s2.heap.objs.size := let ⟨o, ho, _⟩ := pl.isList; Heap.lt_size ho
  refine en_call (s := { s2 with heap := h1 }) (c := c) (I2.ok.hd hc) (Nat.succ_ne_self _) (Nat.ne_of_lt la) (Nat.ne_of_lt (Nat.lt_succ_of_lt la)) (by rw [List.size_toArray, ← rv.length]; exact hz) hen hit pl1 fun h' tk' acc k as hkp hS' hl' hG hacc => ?_
  have hlen : as.length = (enK c xs).length := by
    rw [hl', List.size_toArray, ← rv.length]
    unfold enK
    rw [List.length_map, List.length_range]
  obtain ⟨H', k1, k2, k3, k4, k5, k6, J⟩ := laidS (X := X) (tk := tk') (kvs := enK c xs) (S := h1.objs.size) (as := as) I2 (by rw [← hlen, hl', List.size_toArray, ← rv.length]; exact hz) (by rw [hsz]; exact Nat.le_add_right _ _)
    (fun b o e => hkp b o (Nat.ne_of_lt (Nat.lt_succ_of_lt (Heap.lt_size e))) (Nat.ne_of_lt (Heap.lt_size e)) (hk1 b o e)) hS' hlen hG.rise hG.above (fun j b hj => by
      obtain ⟨t, x, e1, e2⟩ := hG.pairs j b hj
      have e1 : its[j]? = some x := by simpa using e1
      have hjn : j < xs.length := by
        have := (List.getElem?_eq_some_iff.mp e1).1
        rw [rv.length]
        exact this
      obtain ⟨u, hu, ru⟩ := rv.get (List.getElem?_eq_getElem hjn)
      rw [e1] at hu
      cases hu
      refine ⟨(Sum.inl (c + (j : Nat)), xs[j]), _, _, ?_, ⟨t, rfl⟩, ru, e2⟩
      unfold enK
      rw [List.getElem?_map, List.getElem?_range hjn, Option.map_some, List.getD_eq_getElem?_getD, List.getElem?_eq_getElem hjn]
      rfl) hacc
  exact ⟨.ref _, H', J, rfl, q H' _ as k1 k2 k5 k6⟩
end
end EnL
end S_Xd
section S_Xe
namespace EnL
open PySem PySem.Spec PyProof.Rows L2 Tl
/-- the tuple at a as it stands at each turn, each item in a new pair with its number, c the first -/
def IteS (K : PySem.W.Frag) (a : Addr) (c : Int) : It :=
  ⟨fun i H => ∃ (xs : List V) (x : V), SqT K H a xs ∧ xs[i]? = some x, fun i H v H' => ∃ T x, v = .ref T ∧ H T = none ∧ H' = upd H T (.tup [.int (c + (i : Nat)), x]) ∧ ∀ xs, SqT K H a xs → xs[i]? = some x, fun i H => ∃ xs : List V, SqT K H a xs ∧ xs.length ≤ i⟩
abbrev EnS (a e it : Addr) (c : Int) (i : Nat) (h : Heap) : Prop := (∃ old, IsEnum h e it (c + (i : Nat)) old) ∧ h.IsTupleIter it a i ∧ e ≠ it
theorem turn_enumS {P : Program} {w : World} {K : PySem.W.Frag} {elts : List Expr} {kk : Nat} {tpos : Pos} (a e it : Addr) (c : Int) : Turn P w K (.Tuple elts kk tpos) (IteS K a c) [e, it] e (EnS a e it c) where
  mem := List.mem_cons_self
  obj := fun i h st b hb => by
    obtain ⟨⟨old, he⟩, ⟨o, ho, hc, hd⟩, _⟩ := st
    rcases List.mem_cons.mp hb with z | z
    · rw [z]; exact ⟨_, he, fun v q => nomatch q⟩
    · rw [List.mem_singleton.mp z]; exact ⟨o, ho, fun v q => by rw [hd] at q; cases q⟩
  keep := fun i h h' st k => ⟨st.1.imp fun old he => k e (by simp) _ he, st.2.1.at fun o q => k it (by simp) o q, st.2.2⟩
  item := by
    intro X hP hw hK hc i pins s σ H E I hf st hg
    subst hP hw hK
    obtain ⟨⟨old, he⟩, hit, hne⟩ := st
    obtain ⟨xs, x, hq, hx⟩ := hg
    obtain ⟨its, rv, p, hz⟩ := I.tuple hq
    obtain ⟨u, hu, ru⟩ := rv.get hx
    have hai : a ≠ it := tup_ne p hit
    have hae : a ≠ e := tup_ne2 p he
    have le : e < s.heap.objs.size := Heap.lt_size he
    have li : it < s.heap.objs.size := by obtain ⟨_, q, _⟩ := hit; exact Heap.lt_size q
    have isz : i < its.toArray.size := by simpa using (List.getElem?_eq_some_iff.mp hu).1
    refine wpAny_pyNext_enum_itemC (Draws.tuple (show X.A.in1.handled = none from I.ok.hd hc) it a hai its.toArray) he ⟨hit, p⟩ isz hne (by simp [hne, Ne.symm hae]) fun y g tk hy ho hst hT hsz hk => ?_
    have ey : y = u := by
      rw [show its.toArray[i]? = its[i]? by simp, hu] at hy
      exact (Option.some.inj hy).symm
    subst ey
    refine ⟨_, rfl, wpAny_letOwnedTupleGo_enum (s := { s with heap := g, toks := tk + 1 }) ho fun g2 he' sb => ?_⟩
    have at2 : g2.get? s.heap.objs.size = some { cls := .type "tuple", data := .seq #[.int (c + (i : Nat)) tk, y] } := (sb.2 _ (Nat.ne_of_gt le)).trans hT
    have new : ObjOk X.prog X.w (upd H s.heap.objs.size (.tup [.int (c + (i : Nat)), x])) g2 s.heap.objs.size (.tup [.int (c + (i : Nat)), x]) :=
      ⟨by show 2 ≤ sizeLine; decide, [.int (c + (i : Nat)) tk, y], .cons ⟨_, rfl⟩ (.cons ru .nil), ⟨_, at2, rfl, _, rfl⟩⟩
    have old2 : ∀ b ob, b ∉ [e, it] → s.heap.get? b = some ob → g2.get? b = some ob := fun b ob hb q =>
      (sb.2 b fun z => hb (by simp [z])).trans (hk b ob (fun z => hb (by simp [z])) (fun z => hb (by simp [z])) q)
    have I1 : Inv X pins σ (upd H s.heap.objs.size (.tup [.int (c + (i : Nat)), x])) { s with heap := g2, toks := tk + 1 } := I.turnedNew (ch := [e, it]) old2 hf (Nat.le_refl _) new
    refine ⟨.ref s.heap.objs.size, _, I1, rfl, ⟨_, x, rfl, I.hok.fresh (Nat.le_refl _), rfl, fun ys hy => by rw [I.tuple_inj hy hq]; exact hx⟩, ⟨⟨y, ?_⟩, hst.1.at fun o q => (sb.2 it (Ne.symm hne)).trans q, hne⟩, fun b hb => ?_⟩
    · show IsEnum g2 e it (c + ((i + 1 : Nat) : Int)) y
      rw [show c + ((i + 1 : Nat) : Int) = c + (i : Int) + 1 by omega]
      exact he'
    · have lb : b < s.heap.objs.size := by
        rcases List.mem_cons.mp hb with z | z
        · rw [z]; exact le
        · rw [List.mem_singleton.mp z]; exact li
      rw [upd_ne (Nat.ne_of_lt lb)]
      exact (hf b hb).1
  done := by
    intro X hP hw hK hc i pins s σ H E I hf st hg
    subst hP hw hK
    obtain ⟨⟨old, he⟩, hit, hne⟩ := st
    obtain ⟨xs, hq, hx⟩ := hg
    obtain ⟨its, rv, p, hz⟩ := I.tuple hq
    obtain ⟨f0, f1, f2, f3, f4, f5⟩ := hf it (by simp)
    have hn := rv.length
    have hai : a ≠ it := tup_ne p hit
    have D : Draws X.prog X.w X.A.in1 it [it, a] i (fun _ _ => False) (fun j h => h.IsTupleIter it a j ∧ h.IsTuple a its.toArray ∧ j = i) :=
      { live := fun _ _ st => let ⟨o, ho, _⟩ := st.1; ⟨o, ho⟩
        frame := fun _ _ _ st hk => ⟨st.1.at fun o e => hk it (by simp) o e, st.2.1.at fun o e => hk a (by simp) o e, st.2.2⟩
        item := fun j s Q E hj st _ => absurd st.2.2 (Nat.ne_of_lt hj)
        done := fun s Q E st hE => RZ.nextOf_tuple_end (show X.A.in1.handled = none from I.ok.hd hc) st.1 st.2.1 (by simp; omega) hE }
    exact wpAny_pyNext_enum_endD D he ⟨hit, p, rfl⟩ fun g eb => ⟨rfl, I.turned (t' := s.toks) (fun b o hb q => eb b o hb q) f0 f1 f3 f4 f5⟩
  self := fun A i s Q E st h => let ⟨⟨_, he⟩, _⟩ := st; wpAny_pyIter_enum he h
def iEnumS (K : PySem.W.Frag) (ta tk : TA) : TI := fun σ H R => ta σ H fun vs H1 => tk σ H1 fun zs H2 => ∃ a xs c, vs = [.ref a] ∧ zs = [.int c] ∧ -1000000 ≤ c ∧ c ≤ 1000000 ∧ SqT K H2 a xs ∧ R (IteS K a c) H2
theorem pi_enumS {X : Cx} {e : Expr} {ta tk : TA} {p pos tpos : Pos} {elts : List Expr} {kk : Nat} {kws : List Keyword} (hg : Gl X "enumerate") (hm : X.mg "enumerate" = none) (ha : PA X [e] ta) (hk : PK X kws tk)
    (hks : (backToKw pos (keywordEach kws X.env)).filterMap (·.1) = [Str.ofString "start"] := by rfl)
    (he : backTo pos (starEach [e] X.env) = (false, eval e X.env) :: backTo pos (starEach [] X.env) := by rfl) (hpl : (backTo pos (starEach [e] X.env)).any (·.1) = false := by rfl)
    (hall : (backToKw pos (keywordEach kws X.env)).all (·.1.isSome) = true := by rfl) (hnone : (backToKw pos (keywordEach kws X.env)).any (·.1.isNone) = false := by rfl) :
    PI X (.Tuple elts kk tpos) (.Call (.Name "enumerate" p) [e] kws pos) (iEnumS X.K ta tk) := by
  refine ⟨fun pins s σ H R I h => ?_⟩
  refine wpAny_Call_Name_kw (ld_blt I hg hm boot_enumerate ?_)
  refine callWith_typeKw (thn (ha.run pos pins s σ H _ I h) fun us s1 ⟨vs, H1, I1, r1, q1⟩ => thn (hk.run pos pins s1 σ H1 _ I1 q1) fun ws s2 ⟨zs, H2, I2, r2, q2⟩ => ?_) he hpl hall hnone
  rw [hks]
  obtain ⟨a, xs, c, rfl, rfl, c0, c1, hq, q⟩ := q2
  obtain rfl := Vals.ref1 r1
  obtain ⟨w1, rfl, t1, rfl⟩ := vals1 r2
  obtain ⟨its, rv, p', hz⟩ := I2.tuple hq
  refine PySem.enum_begins_start (begins_tuple a its.toArray) p' (by omega) (by omega) fun g he hit hsz hk => wpAny_pyIter_enum he ?_
  have e0 : c + ((0 : Nat) : Int) = c := by omega
  refine ⟨s2.heap.objs.size + 1, [s2.heap.objs.size + 1, s2.heap.objs.size], _, _, H2, rfl, I2.kept (t' := s2.toks) hk, turn_enumS a (s2.heap.objs.size + 1) s2.heap.objs.size c, ⟨⟨.none, by rw [e0]; exact he⟩, ⟨_, hit, rfl, rfl⟩, Nat.succ_ne_self _⟩, fun b hb => ?_, q⟩
  have le : s2.heap.objs.size ≤ b := by
    rcases List.mem_cons.mp hb with z | z
    · rw [z]; exact Nat.le_add_right _ _
    · rw [List.mem_singleton.mp z]; exact Nat.le_refl _
  exact I2.fpOk le (I2.hok.fresh le)
theorem walk_enumS {K : PySem.W.Frag} {a : Addr} {c : Int} {xs : List V} : Walk (IteS K a c) xs.length (fun H => SqT K H a xs) (YPair (fun i => some (.int (c + (i : Nat)))) (fun i => xs[i]?)) := by
  refine ⟨fun i _ hi q => ⟨xs, xs[i], q, by simp [hi]⟩, fun _ q => ⟨xs, q, Nat.le_refl _⟩, fun i H v H' _ q y => ?_⟩
  obtain ⟨T, x, h1, h2, h3, h4⟩ := y
  exact ⟨T, .int (c + (i : Nat)), x, h1, h2, h3, rfl, h4 xs q⟩
theorem ei_enumS {K : PySem.W.Frag} {σ : L2.St} {H : Hp} {a : Addr} {xs : List V} {ta tk : TA} {c : Int} (h : Evl.EvA ta σ H [.ref a]) (h2 : Evl.EvA tk σ H [.int c]) (hx : SqT K H a xs) (c0 : -1000000 ≤ c) (c1 : c ≤ 1000000) : EvI (iEnumS K ta tk) σ H xs.length (YPair (fun i => some (.int (c + (i : Nat)))) (fun i => xs[i]?)) := fun H1 e R k =>
  h H1 e _ fun H2 e2 => h2 H2 (e.trans e2) _ fun H3 e3 => ⟨a, xs, c, rfl, rfl, c0, c1, Evl.ex_t ((e.trans e2).trans e3) hx, k _ _ H3 (e2.trans e3) walk_enumS fun A ab _ => Evl.ex_t ab hx⟩
theorem aims_enumS {K : PySem.W.Frag} {xs : List V} {j1 j2 : Nat} {c : Int} : Aims (gTup K 2 (gCons (gName j1) (gCons (gName j2) gNil))) xs.length (YPair (fun i => some (.int (c + (i : Nat)))) (fun i => xs[i]?))
    (fun i σ => (σ.set j1 (some (.int (c + (i : Nat))))).set j2 (some (xs.getD i .non))) := fun i σ H v H' hi y => by
  obtain ⟨T, x, y, rfl, hT, rfl, h1, h2⟩ := y
  cases h1
  have h3 : xs[i]? = some y := h2
  obtain rfl : xs.getD i .non = y := by rw [List.getD_eq_getElem?_getD, h3]; rfl
  exact ⟨Evl.Ex.new hT, fun Q q => ⟨T, _, rfl, Evl.st_of upd_same, rfl, _, _, rfl, _, _, rfl, rfl, q⟩⟩
/-! ### a call by keywords alone, which may raise -/
def tCallSN (m : Nat) (sp : Sp) (gV : List V → List V → List V) (E : L2.St → XK) (tk : TA) : TE := fun σ H Q => tk σ H fun zs H2 => zs.length = m ∧ sp (gV [] zs) H2 Q (E σ)
theorem run_fnSN {X : Cx} {CX : CXT} {k n : Nat} {f : Addr} {fd : FuncData} {ps ks : List Str} {sp : Sp} {E : L2.St → XK} {g : List Value → List Value → List Value} {gV : List V → List V → List V} {pins : List (Addr × Obj)} {σ : L2.St} {H : Hp} {s : Shared} {Q : VK} {us ws : List Value} {vs zs : List V} (F : FnOk X.prog X.w X.K X.mg X.base CX k f fd ps sp) (hr : Room k X.A) (hb : KBn X.K fd ps n ks g gV) (hx : PassesAt CX X σ (E σ))
    (I : Inv X pins σ H s) (r : Vals vs us) (rz : Vals zs ws) (l1 : vs.length = n) (l2 : zs.length = ks.length) (h : sp (gV vs zs) H Q (E σ)) : wpAny (model X.prog X.w) X.A (call (.ref f) us (ks.zip ws)) (EP X pins σ Q) X.xe s := by
  have r2 := hb.rel r rz
  refine wpAny_call (codeAny_mono (F.run X.A X.stack s H ⟨us, ks.zip ws⟩ (g us ws) (gV vs zs) Q (E σ) hr I.env0 (hb.to s us ws I.kIn (r.length.symm.trans l1) (rz.length.symm.trans l2)) r2 h) fun r s' hq => ?_)
  cases r with
  | error e => exact hx pins H s e s' I hq
  | ok fl =>
    cases fl with
    | ret u => exact I.after hq
    | next => exact False.elim hq
    | brk => exact False.elim hq
    | cont => exact False.elim hq
theorem pe_callSN {X : Cx} {CX : CXT} {k : Nat} {f : Addr} {fd : FuncData} {ps ks : List Str} {sp : Sp} {E : L2.St → XK} {x : Str} {p pos : Pos} {kws : List Keyword} {tk : TA} {g : List Value → List Value → List Value} {gV : List V → List V → List V}
    (F : FnOk X.prog X.w X.K X.mg X.base CX k f fd ps sp) (hr : Room k X.A) (hg : Gl X x) (hm : X.mg x = some (.ref f)) (hk : PySem.W.keepIn X.K (.ref f) = true) (hb : KBn X.K fd ps 0 ks g gV) (hx : ∀ σ, PassesAt CX X σ (E σ))
    (hkw : PK X kws tk) (hall : (backToKw pos (keywordEach kws X.env)).all (·.1.isSome) = true := by rfl) (hks : (backToKw pos (keywordEach kws X.env)).filterMap (·.1) = ks := by rfl) (hdb : (x == ("__debug__" : Str)) = false := by decide)
    (hpl : ((backTo pos (starEach [] X.env)).any (·.1) || (backToKw pos (keywordEach kws X.env)).any (·.1.isNone)) = false := by rfl) :
    PE X (.Call (.Name x p) [] kws pos) (tCallSN ks.length sp gV E tk) := by
  constructor
  intro pins s σ H Q I h
  refine wpAny_Call_Name_kw (ld_glob I hg hm (PySem.W.callWith_KW0 (h₀ := X.base) I.ok.mod.kin hk hall (thn (hkw.run pos pins s σ H _ I h) fun ws s2 hv => ?_) hpl) hdb)
  obtain ⟨zs, H2, I2, rz, l2, q2⟩ := hv
  refine ⟨I2.kIn, ?_⟩
  rw [hks]
  exact run_fnSN (us := []) (vs := []) F hr hb (hx σ) I2 .nil rz rfl l2 q2
/-! ### str of an instance that has its own -/
def rStrIns (C : Addr) (sp : Sp) (E : XK) : List V → Hp → VK → Prop := fun xs H Q => ∃ (a : Addr) (dx : Addr) (fs : List (Str × V)), xs = [.ref a] ∧ H a = some (.ins C dx fs) ∧ sp [.ref a] H (fun v H' => (∃ z, v = .str z) ∧ Q v H') E
theorem call_strIns {X : Cx} {CX : CXT} {k : Nat} {C f : Addr} {fd : FuncData} {ps : List Str} {sp : Sp} {E : XK} (F : FnOk X.prog X.w X.K X.mg X.base CX k f fd ps sp) (hr : Room (k + 2) X.A)
    (hs : PySem.W.findIn X.K (.ref C) "__str__" = some (some (.ref f))) (hf : PySem.W.isFn X.K (.ref f) = true) (hb : Binds X.K fd ps []) (hx : Passes CX X E) : CallR X (.type "str") (rStrIns C sp E) := by
  intro pins s σ H xs us Q I r h
  obtain ⟨a, dx, fs, rfl, ha, hsp⟩ := h
  obtain rfl := Vals.ref1 r
  obtain ⟨mA, J, _⟩ := ins_get I.hok ha
  obtain ⟨od, J, _⟩ := J.look
  refine PySem.W.kso_call (A := X.A) (by have := hr.un; show X.A.units + 1 + 1 < _; omega) I.kIn J hs hf ?_
  have e0 : Env0 X.prog X.w X.K X.mg X.base X.A.in1.in1 X.stack s H := by
    have e := I.env0
    exact ⟨e.frames, e.mod, e.bs, e.bsz, e.funs, e.frf, e.hok, e.bare⟩
  have hl := F.len _ _ _ _ hsp
  have r2 : Vals [V.ref a] [Value.ref a] := .cons rfl .nil
  refine wpAny_call (codeAny_mono (F.run X.A.in1.in1 X.stack s H ⟨[.ref a], []⟩ [.ref a] [.ref a] _ E (Room.in1 (Room.in1 hr)) e0 (by
    have := hb s [.ref a] I.kIn (by simpa using hl)
    simpa using this) r2 hsp) fun r s' hq => ?_)
  cases r with
  | error e => exact hx pins σ H s e s' I hq
  | ok fl =>
    cases fl with
    | ret w =>
      obtain ⟨z, H', I', rz, ⟨x, ez⟩, q⟩ := I.after hq
      subst ez
      obtain ⟨t, rfl⟩ := rz
      exact ⟨.str x, H', I', ⟨t, rfl⟩, q⟩
    | next => exact False.elim hq
    | brk => exact False.elim hq
    | cont => exact False.elim hq
end EnL
end S_Xe
section S_Wm
namespace Hk
open PySem PySem.Spec PyProof.Rows L2 Tl
/-- a set without items, as set() lays it -/
abbrev zO (w : World) : Obj := { cls := .type "set", dict := none, data := .set #[] 0 (.fresh 0 0 (!w.params.followText "set-order")) }
/-- what comes of set(l), l a list of these ints -/
def Got (w : World) (s : Shared) (ns : List Int) (r : Value) (s2 : Shared) : Prop := r = .ref s.heap.objs.size ∧ ∃ (h' : Heap) (tk c : Nat), s2 = { s with heap := h', toks := tk } ∧ SetR w h' s.heap.objs.size (fun j => decide (j ∈ ns)) c ∧ c ≤ ns.length ∧ ∀ b o, s.heap.get? b = some o → h'.get? b = some o
section
variable {P : Program} {w : World} {A : Around} {E : Value → Shared → Prop} {s : Shared}
set_option maxHeartbeats 3200000 in
theorem fill_list {l : Addr} {its : Array Value} {ns : List Int} (a0 : A.handled = none) (hl : s.heap.IsList l its) (hi : IntsAre its.toList ns) (hb : ns.length + 1 < scanBound) :
    codeAny (model P w) A (.call (.builtin "set.__init__") ⟨[.ref s.heap.objs.size, .ref l], []⟩) (wants (fun r s2 => r = .none ∧ Got w s ns (.ref s.heap.objs.size) s2) E) { s with heap := s.heap.push (zO w) } := by
  have n1 : its.size = ns.length := by
    have z := IntsAre.length hi
    rwa [Array.length_toList] at z
  have g0 : (s.heap.push (zO w)).get? s.heap.objs.size = some (zO w) := Heap.get?_push_size _ rfl
  refine codeAny_call_builtin (R := wants (fun r s2 => r = .none ∧ Got w s ns (.ref s.heap.objs.size) s2) E) F.called_set.init.plain F.entry_set_init (check_set_init_1 (s := { s with heap := s.heap.push (zO w) }) ⟨_, g0, rfl⟩ ?_)
  obtain ⟨⟨oc, od, ob, osl⟩, o1, o2, nl, o3⟩ := hl
  simp only at o2 o3
  subst o2
  subst o3
  have g1 := Heap.get?_push_of_some (zO w) o1
  have hls : (s.heap.push (zO w)).IsList l its := ⟨_, g1, rfl, nl, rfl⟩
  have k1 := F.sub_list_set
  have k2 := F.sub_list_frozenset
  have k3 : (Value.type "list" == Value.type "dict") = false := by decide
  unfold Builtin.«set.__init__» noKeywords Builtin.Frozenset.updateFrom
  generalize hPI : pyIter = PI
  wp_walk
  subst hPI
  refine wpAny_pyIter_list hls (wpAny_bind (wpAny_runValue ?_))
  have lS : l < s.heap.objs.size := Heap.lt_size o1
  have sz : (s.heap.push (zO w)).objs.size = s.heap.objs.size + 1 := Heap.size_push ..
  have a3 : A.in1.in1.handled = none := by simp [a0]
  have nI : l ≠ (s.heap.push (zO w)).objs.size := by
    rw [sz]
    exact Nat.ne_of_lt (Nat.lt_succ_of_lt lS)
  have nS : s.heap.objs.size ∉ [(s.heap.push (zO w)).objs.size, l] := fun m => by
    rw [sz] at m
    rcases List.mem_cons.mp m with z | z
    · exact Nat.ne_of_lt (Nat.lt_succ_self _) z
    · exact Nat.ne_of_gt lS (List.mem_singleton.mp z)
  have val : ∀ (i : Nat) (v : Value), its[i]? = some v → ∃ k t, ns[i]? = some k ∧ v = .int k t := fun i v hv => by
    have lt : i < ns.length := by rw [← n1]; exact (Array.getElem?_eq_some_iff.mp hv).1
    obtain ⟨t, e⟩ := PyProof.Rows.IntsAre.int_at hi i v (by rw [Array.getElem?_toList]; exact hv)
    exact ⟨ns[i], t, List.getElem?_eq_getElem lt, by rw [e, List.getD_eq_getElem?_getD, List.getElem?_eq_getElem lt] <;> rfl⟩
  refine set_update_ints ((Walks.list a3 _ l nI its).toS) s.heap.objs.size nS ns n1 hb val (its.size - 0) 0 _ (by omega) (Nat.zero_le _) ?z ?z0 ?z1
  case z => exact ⟨⟨_, Heap.get?_push_size _ rfl, rfl, rfl⟩, (hls.push _)⟩
  case z0 => exact ⟨0, Nat.le_refl 0, setR_new_at (Heap.get?_push_of_some _ g0)⟩
  case z1 =>
    intro s' c' hm hc' hS'
    obtain ⟨h', g2, d2, tk', os2⟩ := s'
    obtain rfl : g2 = s.gens := hm.gens
    obtain rfl : d2 = s.drawn := hm.drawn
    obtain rfl : os2 = s.os := hm.os
    show wpAny _ _ _ _ _ _
    refine wpAny_pure ?_
    show wpAny _ _ (ret Value.none) _ _ _
    rw [n1] at hc'
    refine wpAny_pure ⟨rfl, rfl, h', tk', c', rfl, hS', hc', fun b o e => ?_⟩
    have lb : b < s.heap.objs.size := Heap.lt_size e
    refine hm.heap b o (fun m => ?_) (Heap.get?_push_of_some _ (Heap.get?_push_of_some _ e))
    rcases List.mem_cons.mp m with z | z
    · exact Nat.ne_of_lt lb z
    · have z := List.mem_singleton.mp z
      rw [sz] at z
      exact Nat.ne_of_lt (Nat.lt_succ_of_lt lb) z
set_option maxHeartbeats 3200000 in
theorem set_of_list {l : Addr} {its : Array Value} {ns : List Int} {Q : Value → Shared → Prop} (a0 : A.handled = none) (hl : s.heap.IsList l its) (hi : IntsAre its.toList ns) (hb : ns.length + 1 < scanBound)
    (k : ∀ r s2, Got w s ns r s2 → Q r s2) : wpAny (model P w) A (call (.type "set") [.ref l]) Q E s := by
  obtain ⟨c, tl, hmro⟩ := F.called_set.mro
  refine wpAny_call (codeAny_of_tree ?_)
  show wpAny _ _ (callAny (.type "set") _) _ _ _
  refine wpAny_pure ⟨Code.quiet_builtin _ (by decide +kernel), codeAny_builtin F.entry_type_call ?_⟩
  rw [Around.under_plain (weight_type_call_type "set" [.ref l] []) rfl]
  have m1 := F.called_set.made
  have m2 := F.called_set.sub
  have m3 := F.called_set.notType
  have m4 := F.called_set.canCreate
  have m5 := F.typeCall_set_1 (.ref l)
  repeat (any_goals (first | assumption | wp_step))
  refine codeAny_mono (code_set_led1 (.ref l) (E := E) (Q₁ := fun u t => u = .ref s.heap.objs.size ∧ t = { s with heap := s.heap.push (zO w) }) ⟨rfl, rfl⟩) fun r s1 hr => ?_
  match r, hr with
  | .ok (.ret u), hr =>
    obtain ⟨rfl, rfl⟩ := hr
    have g0 : (s.heap.push (zO w)).get? s.heap.objs.size = some (zO w) := Heap.get?_push_size _ rfl
    have hT : Shared.TypeIs { s with heap := s.heap.push (zO w) } (.ref s.heap.objs.size) "set" := ⟨_, g0, rfl⟩
    have m6 := F.called_set.init.lookup
    have m7 := F.called_set.init.bind (.ref s.heap.objs.size)
    repeat (any_goals (first | assumption | wp_step))
    refine codeAny_mono (fill_list (P := P) (w := w) (E := E) a0 hl hi hb) fun r2 s2 h2 => ?_
    match r2, h2 with
    | .ok (.ret u), h2 =>
      obtain ⟨rfl, G⟩ := h2
      repeat (any_goals (first | assumption | wp_step))
      exact k _ _ G
    | .error e, h2 => exact h2
    | .ok .next, h2 => exact h2.elim
    | .ok .brk, h2 => exact h2.elim
    | .ok .cont, h2 => exact h2.elim
  | .error e, hr => exact hr
  | .ok .next, hr => exact hr.elim
  | .ok .brk, hr => exact hr.elim
  | .ok .cont, hr => exact hr.elim
end
/-- set(l) of a list of ints -/
def rSetL (K : PySem.W.Frag) (w : World) : List V → Hp → VK → Prop := fun xs H Q => ∃ (l : Addr) (ns : List Int), xs = [.ref l] ∧ SqL K H l (ns.map V.int) ∧ ns.length ≤ 1000 ∧ ∀ p c, H p = none → c ≤ ns.length → Q (.ref p) (upd H p (SetO w p (fun j => decide (j ∈ ns)) c))
theorem cr_setL {X : Cx} (hc : X.calm = true) : CallR X (.type "set") (rSetL X.K X.w) := by
  intro pins s σ H xs us Q I r h
  obtain ⟨l, ns, rfl, hq, hz, q⟩ := h
  rw [Vals.ref1 r]
  obtain ⟨its, rv, pl, _⟩ := I.list hq
  refine set_of_list (ns := ns) (I.ok.hd hc) pl.isList (by simpa using RZ.intsAre_vals rv) (by unfold scanBound; omega) fun u s2 ⟨e1, h', tk, c, e2, R, hc', kp⟩ => ?_
  subst e1 e2
  have hn : H s.heap.objs.size = none := I.hok.fresh (Nat.le_refl _)
  exact ⟨.ref s.heap.objs.size, _, I.laid (t' := tk) kp (Nat.le_refl _) (setO_new R), rfl, q _ c hn hc'⟩
end Hk
end S_Wm
section S_Wn
namespace Hk
open PySem PySem.Spec PyProof.Rows L2 Tl
/-- the i-th of xs, and what stands while it is walked -/
def YRow (xs : List V) (W : Hp → Prop) : Nat → Hp → V → Hp → Prop := fun i H v H' => H' = H ∧ xs[i]? = some v ∧ W H
section
open Evl
variable {K : PySem.W.Frag} {σ : L2.St} {H : Hp} {te : TE}
theorem ei_rowsL {a : Addr} {xs : List V} {n : Nat} {W : Hp → Prop} (h : Ev te σ H (.ref a)) (hx : SqL K H a xs) (hn : n = xs.length) (hW : ∀ A, Ex H A → W A) : EvI (iList K te) σ H n (YRow xs W) := fun H1 e R k => by
  subst hn
  exact h H1 e _ fun H2 e2 => ⟨a, rfl, ⟨xs, ex_l (e.trans e2) hx⟩, k _ (fun A => SqL K A a xs ∧ W A) H2 e2 (walk_list.mono (fun _ q => q.1) fun i A v A' hi q y => ⟨y.1, y.2, q.2⟩) fun A ab _ => ⟨ex_l ab hx, hW A ab⟩⟩
theorem ei_rowsT {a : Addr} {xs : List V} {n : Nat} {W : Hp → Prop} (h : Ev te σ H (.ref a)) (hx : SqT K H a xs) (hn : n = xs.length) (hW : ∀ A, Ex H A → W A) : EvI (iTup K te) σ H n (YRow xs W) := fun H1 e R k => by
  subst hn
  exact h H1 e _ fun H2 e2 => ⟨a, rfl, ⟨xs, ex_t (e.trans e2) hx⟩, k _ (fun A => SqT K A a xs ∧ W A) H2 e2 (walk_tup.mono (fun _ q => q.1) fun i A v A' hi q y => ⟨y.1, y.2, q.2⟩) fun A ab _ => ⟨ex_t ab hx, hW A ab⟩⟩
theorem ei_rng3 {ta : TA} {i j c : Int} {n : Nat} (h : EvA ta σ H [.int i, .int j, .int c]) (hr : RgC i j c n) : EvI (iRng3 ta) σ H n (YFn fun k => .int (i + (k : Nat) * c)) := fun H1 e R k =>
  h H1 e _ fun H2 e2 => ⟨i, j, c, n, rfl, hr, k _ _ H2 e2 walk_rangeC fun _ _ _ => trivial⟩
end
section
open Evl
variable {K : PySem.W.Frag} {σ : L2.St} {H : Hp}
/-- tuple(list made now) -/
theorem en_tupNL {ta : TE} {L : List V → Hp → Prop} (h : EvNL ta σ H L) : EvN (tCB (fun xs H Q => ∃ p ys, xs = [V.ref p] ∧ ((SqL K H p ys ∧ ∀ l, H l = none → Q (V.ref l) (upd H l (HO.tup ys))) ∨ (SqT K H p ys ∧ Q (V.ref p) H))) (tCons ta tNil)) σ H
    (fun u H' => ∃ t xs, u = .ref t ∧ H' t = some (.tup xs) ∧ L xs H') := fun H1 e Q q =>
  h H1 e _ fun p xs H2 hp e2 h2 hL => ⟨p, xs, rfl, .inl ⟨sq_of h2, fun t ht => q _ _ (e2.trans (Ex.new ht)) fun H3 h3 s3 => ⟨t, xs, rfl, s3 _ _ (fresh_back e2 ht) upd_same, hL H3 h3 fun a o _ ha hb => by
    refine s3 a o ha ?_
    rw [upd_ne (ne_of_none hb ht)]
    exact hb⟩⟩⟩
end
theorem ev_anyN {K : PySem.W.Frag} {ta : TE} {σ : L2.St} {H : Hp} {bs : List Bool} (h : Evl.EvL ta σ H (bs.map V.bl)) : Evl.Ev (tCB (rAny K) (tCons ta tNil)) σ H (.bl (bs.any id)) := fun H1 e Q q =>
  h H1 e _ fun p H2 hp e2 h2 => ⟨p, bs, rfl, Evl.sq_of h2, q H2 e2⟩
/-- a for over what EvI tells; the body may write what is not of the walk -/
theorem s_forI {wi : TI} {g : TG} {tb : TS} {D : Ends} {σ : L2.St} {H B : Hp} {n : Nat} {Y : Nat → Hp → V → Hp → Prop} {s : Nat → L2.St → L2.St} (hw : EvI wi σ B n Y) (aim : Aims g n Y s) (e : Evl.Ex B H) (Pv : Hp → Nat → L2.St → Hp → Prop) (h0 : ∀ H2, Evl.Ex H H2 → Pv H2 0 σ H2)
    (hk : ∀ H2 i σ' H', Evl.Ex H H2 → i ≤ n → Pv H2 i σ' H' → Evl.Ex B H' ∧ Since H H2 H') (hs : ∀ H2 i σ' H' H'', Evl.Ex H H2 → i < n → Pv H2 i σ' H' → Evl.Ex H' H'' → tb { D with nx := Pv H2 (i + 1), ct := Pv H2 (i + 1), bk := D.nx } (s i σ') H'')
    (hd : ∀ H2 σ' H', Evl.Ex H H2 → Pv H2 n σ' H' → D.nx σ' H') : tFor wi g tb D σ H :=
  hw H e _ fun J G H2 e2 w sG => for_it w (Pv H2) (h0 H2 e2) (fun i σ' H' hi p => sG H' (hk H2 i σ' H' e2 hi p).1 (hk H2 i σ' H' e2 hi p).2)
    (fun i x σ' H' H'' hi p y => by
      obtain ⟨ab, k⟩ := aim i σ' H' x H'' hi y
      exact k _ (hs H2 i σ' H' H'' e2 hi p ab)) (fun σ' H' p => hd H2 σ' H' e2 p)
theorem q_forI {wi : TI} {g : TG} {tb tz : TS} {D : Ends} {σ : L2.St} {H B : Hp} {n : Nat} {Y : Nat → Hp → V → Hp → Prop} {s : Nat → L2.St → L2.St} (hw : EvI wi σ B n Y) (aim : Aims g n Y s) (e : Evl.Ex B H) (Pv : Hp → Nat → L2.St → Hp → Prop) (h0 : ∀ H2, Evl.Ex H H2 → Pv H2 0 σ H2)
    (hk : ∀ H2 i σ' H', Evl.Ex H H2 → i ≤ n → Pv H2 i σ' H' → Evl.Ex B H' ∧ Since H H2 H') (hs : ∀ H2 i σ' H' H'', Evl.Ex H H2 → i < n → Pv H2 i σ' H' → Evl.Ex H' H'' → tb { D with nx := Pv H2 (i + 1), ct := Pv H2 (i + 1), bk := tz D } (s i σ') H'')
    (hd : ∀ H2 σ' H', Evl.Ex H H2 → Pv H2 n σ' H' → tz D σ' H') : tSeq (tFor wi g tb) tz D σ H := s_forI (D := { D with nx := tz D }) hw aim e Pv h0 hk hs hd
theorem el_catVN {σ : L2.St} {H : Hp} {ta tb : TE} {m : Addr} {xs ys : List V} (ha : Evl.Ev ta σ H (.ref m)) (hm : H m = some (.lst xs)) (hb : Evl.EvL tb σ H ys) (hz : xs.length + ys.length ≤ 100000) : Evl.EvL (tOp rCat ta tb) σ H (xs ++ ys) := fun H1 e Q q =>
  ha H1 e _ fun H2 e2 => hb H2 (e.trans e2) _ fun p H3 _ e3 h3 => ⟨m, p, xs, ys, rfl, rfl, e3 _ _ (e2 _ _ (e _ _ hm)), h3, Evl.sz_of hz, fun r hr => q r _ (Evl.fresh_back (e2.trans e3) hr) ((e2.trans e3).trans (Evl.Ex.new hr)) upd_same⟩
/-- a, b = a row of two -/
theorem aims_rowT2 {K : PySem.W.Frag} {xs : List V} {n j1 j2 : Nat} {c : Nat → V × V} : Aims (gTup K 2 (gCons (gName j1) (gCons (gName j2) gNil))) n
    (YRow xs fun H => ∀ i v, i < n → xs[i]? = some v → ∃ r, v = .ref r ∧ H r = some (.tup [(c i).1, (c i).2])) (fun i σ => (σ.set j1 (some (c i).1)).set j2 (some (c i).2)) := fun i σ H v H' hi y => by
  obtain ⟨rfl, hv, w⟩ := y
  obtain ⟨r, rfl, hr⟩ := w i v hi hv
  exact ⟨Evl.Ex.refl _, fun Q q => ⟨r, _, rfl, Evl.st_of hr, rfl, _, _, rfl, _, _, rfl, rfl, q⟩⟩
/-- a, b, c = a row of three, a list -/
theorem aims_rowL3 {K : PySem.W.Frag} {xs : List V} {n j1 j2 j3 : Nat} {c : Nat → V × V × V} : Aims (gLst K 3 (gCons (gName j1) (gCons (gName j2) (gCons (gName j3) gNil)))) n
    (YRow xs fun H => ∀ i v, i < n → xs[i]? = some v → ∃ r, v = .ref r ∧ H r = some (.lst [(c i).1, (c i).2.1, (c i).2.2])) (fun i σ => ((σ.set j1 (some (c i).1)).set j2 (some (c i).2.1)).set j3 (some (c i).2.2)) := fun i σ H v H' hi y => by
  obtain ⟨rfl, hv, w⟩ := y
  obtain ⟨r, rfl, hr⟩ := w i v hi hv
  exact ⟨Evl.Ex.refl _, fun Q q => ⟨r, _, rfl, Evl.sq_of hr, rfl, _, _, rfl, _, _, rfl, _, _, rfl, rfl, q⟩⟩
theorem joinL_length (S : List Nat) : ∀ ps : List (List Nat), (TL.joinL S ps).length ≤ (ps.map List.length).sum + ps.length * S.length
  | [] => by unfold TL.joinL; simp
  | [p] => by unfold TL.joinL; simp
  | p :: q :: r => by
    have ih := joinL_length S (q :: r)
    have e : TL.joinL S (p :: q :: r) = p ++ (S ++ TL.joinL S (q :: r)) := rfl
    rw [e, List.length_append, List.length_append, List.map_cons, List.sum_cons, List.length_cons, Nat.add_mul]
    omega
theorem tl_length (s : Str) : (TL.tl s).length = s.length := (TL.len_tl s).symm
theorem join_len (y : Str) (ps : List Str) : (Txt.join y ps).length ≤ (ps.map (·.length)).sum + ps.length * y.length := by
  rw [← tl_length, TL.join_eq, TL.tl_join]
  refine Nat.le_trans (joinL_length _ _) ?_
  rw [List.map_map, List.length_map, tl_length]
  have : (ps.map (List.length ∘ TL.tl)) = ps.map (·.length) := List.map_congr_left fun p _ => tl_length p
  rw [this] <;> exact Nat.le_refl _
end Hk
namespace Hk
open PySem PySem.Spec PyProof.Rows L2 Tl
open Evl
theorem ev_neNilL {K : PySem.W.Frag} {σ : L2.St} {H : Hp} {ta : TE} {cs : List Int} (h : EvL ta σ H (cs.map V.int)) : Ev (tOp (rNeD K) ta (tLst tNil)) σ H (.bl (!cs.isEmpty)) :=
  ev_opLL (ys := []) h (el_lst ea_nil (Nat.zero_le _)) fun p q H1 h1 h2 _ => fun H2 e2 Q k => by
    refine ⟨.list (zD cs), .list [], .lst (sq_of (e2 _ _ h1)) (dp_zD cs), .lst (sq_of (e2 _ _ h2)) .nil, PySem.W.ke_shaped_ints cs, by decide +kernel, ?_⟩
    have e3 : PyData.eqv (.list (zD cs)) (.list []) = cs.isEmpty := by cases cs <;> rfl
    rw [e3]
    exact k H2 (Ex.refl H2)
/-- the heap without one object -/
def but (t : Addr) (H : Hp) : Hp := fun a => if a = t then none else H a
theorem but_le {t : Addr} {H : Hp} : Ex (but t H) H := fun a o h => by
  unfold but at h
  split at h
  · cases h
  · exact h
theorem but_at {t a : Addr} {H : Hp} (h : a ≠ t) : but t H a = H a := if_neg h
/-- a comprehension whose body draws -/
theorem go_lcT {wi : TI} {g : TG} {tt : TT} {te : TE} {vs : List Nat} {n : Nat} {Y : Nat → Hp → V → Hp → Prop} {s : Nat → L2.St → L2.St} {σ : L2.St} {H : Hp} {Q : VK} {t : Addr} {o : HO} (ho : H t = some o)
    (hw : EvI wi σ (but t H) n Y) (aim : Aims g n Y s) (hs : ∀ i, wipe (s i (wipe σ vs)) vs = wipe σ vs) (hn : n ≤ 40000) (R : Nat → List V → Hp → Prop)
    (h0 : ∀ H2, Ex H H2 → R 0 [] H2) (hx : ∀ i acc A B, R i acc A → Ex A B → R i acc B)
    (hu : ∀ i acc A D l l', H D = none → D ≠ t → A D = some (.lst l) → R i acc A → R i acc (upd A D (.lst l')))
    (hst : ∀ i acc A (F1 : V → Hp → Prop) (F2 : Hp → Prop), i < n → (∀ a o, a ≠ t → H a = some o → A a = some o) → acc.length ≤ i → R i acc A →
      (∀ y H4, (∀ a o, a ≠ t → A a = some o → H4 a = some o) → R (i + 1) (acc ++ [y]) H4 → F1 y H4) → (∀ H3, (∀ a o, a ≠ t → A a = some o → H3 a = some o) → R (i + 1) acc H3 → F2 H3) →
      tt (s i (wipe σ vs)) A fun b H3 => if b = true then te (s i (wipe σ vs)) H3 F1 else F2 H3)
    (hd : ∀ D acc A, H D = none → D ≠ t → A D = some (.lst acc) → acc.length ≤ n → (∀ a o, a ≠ t → H a = some o → A a = some o) → R n acc A → Q (.ref D) A) : tLc wi g tt te vs σ H Q :=
  hw H but_le _ fun J G H2 e2 w sG D hD => by
    have D0 : H D = none := fresh_back e2 hD
    have Dt : D ≠ t := fun z => by rw [z, ho] at D0; cases D0
    have kp : ∀ {A : Hp}, (∀ a o, a ≠ t → H2 a = some o → A a = some o) → ∀ a o, a ≠ t → H a = some o → A a = some o := fun k a o ha h => k a o ha (e2 _ _ h)
    refine lc_it w (fun i A => (∀ a o, a ≠ t → H2 a = some o → A a = some o) ∧ ∃ acc, A D = some (.lst acc) ∧ acc.length ≤ i ∧ R i acc A) ⟨fun a o _ h => Ex.new hD a o h, [], upd_same, Nat.le_refl _, h0 _ (e2.trans (Ex.new hD))⟩ (fun i A _ p => sG A (fun a o h => ?_) fun a o h1 h2 => p.1 a o (fun z => by rw [z, ho] at h1; cases h1) h2)
      (fun i x A B hi p y => ?_) (fun A ⟨p1, acc, p2, p5, p3⟩ => hd D acc A D0 Dt p2 p5 (kp p1) p3)
    · by_cases z : a = t
      · rw [z] at h
        unfold but at h
        rw [if_pos rfl] at h
        cases h
      · rw [but_at z] at h
        exact kp p.1 a o z h
    · obtain ⟨p1, acc, p2, p3, p4⟩ := p
      obtain ⟨ab, k⟩ := aim i (wipe σ vs) A x B hi y
      refine k _ ⟨hs i, ?_⟩
      have hB : B D = some (.lst acc) := ab _ _ p2
      have pB : ∀ a o, a ≠ t → H2 a = some o → B a = some o := fun a o ha h => ab _ _ (p1 a o ha h)
      refine hst i acc B _ _ hi (kp pB) p3 (hx _ _ _ _ p4 ab) (fun y H4 k4 r4 => ?_) fun H3 k3 r3 => ⟨fun a o ha h => k3 a o ha (pB a o ha h), acc, k3 _ _ Dt hB, by omega, r3⟩
      have h4 : H4 D = some (.lst acc) := k4 _ _ Dt hB
      refine ⟨acc, h4, sz_lt (by omega), fun a o ha h => ?_, acc ++ [y], upd_same, by rw [List.length_append, List.length_singleton]; omega, hu _ _ _ _ _ _ D0 Dt h4 r4⟩
      rw [upd_ne (ne_of_none h hD)]
      exact k4 a o ha (pB a o ha h)
end Hk
end S_Wn
section S_Wo
namespace Hk
open PySem PySem.Spec PyProof.Rows L2 Tl
mutual
theorem dp_ex {K : PySem.W.Frag} {H H' : Hp} (e : Evl.Ex H H') : ∀ {v : V} {d : PyData}, Dp K H v d → Dp K H' v d
  | _, _, .non => .non
  | _, _, .bl b => .bl b
  | _, _, .int i => .int i
  | _, _, .str x => .str x
  | _, _, .lst h a => .lst (Evl.ex_l e h) (dpa_ex e a)
  | _, _, .tup h a => .tup (Evl.ex_t e h) (dpa_ex e a)
theorem dpa_ex {K : PySem.W.Frag} {H H' : Hp} (e : Evl.Ex H H') : ∀ {vs : List V} {ds : List PyData}, DpAll K H vs ds → DpAll K H' vs ds
  | _, _, .nil => .nil
  | _, _, .cons h a => .cons (dp_ex e h) (dpa_ex e a)
end
/-- a value that can be compared -/
def DpS (K : PySem.W.Frag) (H : Hp) (v : V) : Prop := ∃ d, Dp K H v d ∧ d.canLay0 = true ∧ d.depth ≤ 5
theorem DpS.ex {K : PySem.W.Frag} {H H' : Hp} {v : V} (h : DpS K H v) (e : Evl.Ex H H') : DpS K H' v := h.imp fun d ⟨a, b⟩ => ⟨dp_ex e a, b⟩
theorem lay_all : ∀ {ds : List PyData}, (∀ d ∈ ds, d.canLay0 = true) → PyData.canLayAll0 ds = true
  | [], _ => rfl
  | d :: r, h => by
    unfold PyData.canLayAll0
    rw [h d List.mem_cons_self, lay_all fun x hx => h x (List.mem_cons_of_mem _ hx)]
    rfl
theorem deep_all {c : Nat} : ∀ {ds : List PyData}, (∀ d ∈ ds, d.depth ≤ c) → PyData.depthAll ds ≤ c
  | [], _ => Nat.zero_le _
  | d :: r, h => by
    unfold PyData.depthAll
    have h1 := h d List.mem_cons_self
    have h2 := deep_all fun x hx => h x (List.mem_cons_of_mem _ hx)
    omega
theorem shaped_list {c : Nat} (hc : c ≤ 60) {ds : List PyData} (h : ∀ d ∈ ds, d.canLay0 = true ∧ d.depth ≤ c) : SeqAt.shaped (.list ds) = true := by
  unfold SeqAt.shaped
  have h1 : (PyData.list ds).canLay0 = true := by unfold PyData.canLay0; exact lay_all fun d hd => (h d hd).1
  have h2 : (PyData.list ds).depth ≤ 64 := by
    have := deep_all fun d hd => (h d hd).2
    unfold PyData.depth
    omega
  rw [h1, decide_eq_true h2] <;> rfl
theorem dps_all {K : PySem.W.Frag} {H : Hp} : ∀ {xs : List V}, (∀ v ∈ xs, DpS K H v) → ∃ ds, DpAll K H xs ds ∧ (∀ d ∈ ds, d.canLay0 = true ∧ d.depth ≤ 5) ∧ ds.length = xs.length
  | [], _ => ⟨[], .nil, fun d hd => (nomatch hd), rfl⟩
  | v :: r, h => by
    obtain ⟨d, a, b⟩ := h v List.mem_cons_self
    obtain ⟨ds, c1, c2, c3⟩ := dps_all (xs := r) fun x hx => h x (List.mem_cons_of_mem _ hx)
    refine ⟨d :: ds, .cons a c1, fun x hx => ?_, by rw [List.length_cons, List.length_cons, c3]⟩
    rcases List.mem_cons.mp hx with rfl | hx
    · exact b
    · exact c2 x hx
theorem eqv_nil (ds : List PyData) : PyData.eqv (.list ds) (.list []) = ds.isEmpty := by
  cases ds with
  | nil => rfl
  | cons d r => rfl
section
open Evl
variable {K : PySem.W.Frag} {σ : L2.St} {H : Hp} {ta tb : TE}
theorem ev_eqNilD {xs : List V} (ha : EvL ta σ H xs) (hb : EvL tb σ H []) (hx : ∀ v ∈ xs, DpS K H v) : Ev (tOp (rEqD K) ta tb) σ H (.bl xs.isEmpty) :=
  ev_opLL ha hb fun p q H1 h1 h2 e1 => fun H2 e2 Q k => by
    obtain ⟨ds, d1, d2, d3⟩ := dps_all (K := K) (H := H2) (xs := xs) fun v hv => (hx v hv).ex (e1.trans e2)
    refine ⟨.list ds, .list [], .lst (sq_of (e2 _ _ h1)) d1, .lst (sq_of (e2 _ _ h2)) .nil, shaped_list (c := 5) (by decide) d2, shaped_list (c := 5) (by decide) (fun d hd => nomatch hd), ?_⟩
    rw [eqv_nil]
    have : ds.isEmpty = xs.isEmpty := by cases ds <;> cases xs <;> first | rfl | (cases d3)
    rw [this]
    exact k H2 (Ex.refl H2)
theorem ev_neNilD {xs : List V} (ha : EvL ta σ H xs) (hb : EvL tb σ H []) (hx : ∀ v ∈ xs, DpS K H v) : Ev (tOp (rNeD K) ta tb) σ H (.bl !xs.isEmpty) :=
  ev_opLL ha hb fun p q H1 h1 h2 e1 => fun H2 e2 Q k => by
    obtain ⟨ds, d1, d2, d3⟩ := dps_all (K := K) (H := H2) (xs := xs) fun v hv => (hx v hv).ex (e1.trans e2)
    refine ⟨.list ds, .list [], .lst (sq_of (e2 _ _ h1)) d1, .lst (sq_of (e2 _ _ h2)) .nil, shaped_list (c := 5) (by decide) d2, shaped_list (c := 5) (by decide) (fun d hd => nomatch hd), ?_⟩
    rw [eqv_nil]
    have : ds.isEmpty = xs.isEmpty := by cases ds <;> cases xs <;> first | rfl | (cases d3)
    rw [this]
    exact k H2 (Ex.refl H2)
end
end Hk
end S_Wo
section S_Wp
namespace Hk
open PySem PySem.Spec PyProof.Rows L2 Tl
def rIxB (K : PySem.W.Frag) : R2 := fun x y H Q => rIxL K x y H Q ∨ rIxT K x y H Q
theorem ix_any2 {X : Cx} : IxR X (rIxB X.K) := fun value slice pins s σ H x y v u Q I r1 r2 h e => h.elim (fun h => ix_list value slice pins s σ H x y v u Q I r1 r2 h e) (fun h => ix_tup value slice pins s σ H x y v u Q I r1 r2 h e)
/-- a list or a tuple -/
def SqS (K : PySem.W.Frag) (H : Hp) (a : Addr) (xs : List V) : Prop := SqL K H a xs ∨ SqT K H a xs
theorem SqS.ex {K : PySem.W.Frag} {H H' : Hp} {a : Addr} {xs : List V} (h : SqS K H a xs) (e : Evl.Ex H H') : SqS K H' a xs := h.elim (fun h => .inl (Evl.ex_l e h)) (fun h => .inr (Evl.ex_t e h))
theorem rv_ixB {K : PySem.W.Frag} {H : Hp} {v : V} {p : Addr} {xs : List V} {i : Int} (h : SqS K H p xs) (ha : atI xs i = some v) : Evl.RV (rIxB K) (.ref p) (.int i) H v := fun H1 e Q q =>
  h.elim (fun h => .inl (Evl.rv_ixL h ha H1 e Q q)) (fun h => .inr (Evl.rv_ixT h ha H1 e Q q))
theorem ev_lenB {K : PySem.W.Frag} {ta : TE} {σ : L2.St} {H : Hp} {p : Addr} {xs : List V} (ha : Evl.Ev ta σ H (.ref p)) (h : SqS K H p xs) : Evl.Ev (tCB (Evl.rLenS K) (tCons ta tNil)) σ H (.int (xs.length : Int)) := fun H1 e Q q =>
  ha H1 e _ fun H2 e2 => ⟨p, xs, rfl, h.ex (e.trans e2), q H2 e2⟩
theorem ev_ixB {K : PySem.W.Frag} {te : TE} {σ : L2.St} {H : Hp} {a : Addr} {xs : List V} {j : Nat} {v : V} (h : Evl.Ev te σ H (.ref a)) (ha : SqS K H a xs) (hv : xs[j]? = some v) : Evl.Ev (tOp (rIxB K) te (tC (.int (j : Int)))) σ H v := Evl.ev_op h Evl.ev_c (rv_ixB ha (atI_nat hv))
/-- a walk over a list or a tuple -/
def iEi (K : PySem.W.Frag) (te : TE) : TI := fun σ H R => iList K te σ H R ∨ iTup K te σ H R
theorem pi_ei {X : Cx} {tg e : Expr} {te : TE} (he : PE X e te) : PI X tg e (iEi X.K te) := ⟨fun pins s σ H R I h => h.elim (fun h => (pi_list (tg := tg) he).run pins s σ H R I h) fun h => (pi_tup (tg := tg) he).run pins s σ H R I h⟩
theorem ei_ei {K : PySem.W.Frag} {σ : L2.St} {H : Hp} {te : TE} {a : Addr} {xs : List V} (h : Evl.Ev te σ H (.ref a)) (hs : SqS K H a xs) : EvI (iEi K te) σ H xs.length (YAt xs) := fun H1 e R k => hs.elim (fun hs => .inl (ei_list h hs H1 e R k)) fun hs => .inr (ei_tup h hs H1 e R k)
/-- a, b, .. = a list or a tuple of that length -/
def gEi (K : PySem.W.Frag) (n : Nat) (t : TGs) : TG := fun v σ H Q => gLst K n t v σ H Q ∨ gTup K n t v σ H Q
theorem gEi_of {K : PySem.W.Frag} {n : Nat} {t : TGs} {a : Addr} {xs : List V} {σ : L2.St} {H : Hp} {Q : L2.St → Hp → Prop} (h : SqS K H a xs) (hn : xs.length = n) (q : t xs σ H Q) : gEi K n t (.ref a) σ H Q := h.elim (fun h => .inl ⟨a, xs, rfl, h, hn, q⟩) fun h => .inr ⟨a, xs, rfl, h, hn, q⟩
theorem pg_ei {X : Cx} {pos : Pos} {es : List Expr} {k : Nat} {t : TGs} {n : Nat} (hc : X.calm = true) (h : PGs X es t)
    (hn : (assignEach es X.env).length = n := by rfl) (hst : (assignEach es X.env).findIdx? (·.1) = none := by rfl) : PG X (.Tuple es k pos) (gEi X.K n t) :=
  ⟨fun pins s σ H v u Q I r hw => hw.elim (fun hw => (pg_lst hc h hn hst).run pins s σ H v u Q I r hw) fun hw => (pg_tup hc h hn hst).run pins s σ H v u Q I r hw⟩
noncomputable def pd (p : Prop) : Bool := @decide p (Classical.propDecidable p)
theorem pd_true {p : Prop} (h : p) : pd p = true := @decide_eq_true p (Classical.propDecidable p) h
theorem pd_false {p : Prop} (h : ¬p) : pd p = false := @decide_eq_false p (Classical.propDecidable p) h
theorem pd_of {p : Prop} (h : pd p = true) : p := @of_decide_eq_true p (Classical.propDecidable p) h
theorem pd_not {p : Prop} (h : pd p = false) : ¬p := @of_decide_eq_false p (Classical.propDecidable p) h
theorem pd_is {p : Prop} {b : Bool} (h : p ↔ b = true) : pd p = b := by
  cases b with
  | true => exact pd_true (h.mpr rfl)
  | false => exact pd_false fun z => nomatch h.mp z
end Hk
end S_Wp
section S_Lj
namespace P59
open PySem PySem.Spec PyProof.Rows L2 Tl Hk LamX EnL
abbrev sTooI : Stmt := inClass sManyC 0
theorem scTooI : FnScope ["self", "what", "most"] ["self", "what", "most"] (defScope sTooI) := ⟨rfl, rfl, rfl, by decide +kernel, rfl, by decide +kernel, by decide +kernel⟩
theorem scWant : FnScope ["value", "least", "most", "part"] ["value", "least", "most", "part"] (defScope sWant) := ⟨rfl, rfl, rfl, by decide +kernel, rfl, by decide +kernel, by decide +kernel⟩
def spWant (K : PySem.W.Frag) (C : Addr) : Sp := fun vs H Q E => ∃ (x lo hi : V) (n : String) (pt : Str), vs = [x, lo, hi, .str pt] ∧ Ty7 K H x n ∧ Bnd lo ∧ Bnd hi ∧ (wi x lo hi = true → ∀ H1, Evl.Ex H H1 → Q .non H1) ∧
  (wi x lo hi = false → ∀ H1 d, Evl.Ex H H1 → H1 d = none → E (.ref C) (some d) (upd H1 d (.xd [(("part" : Str), .str pt)])))
/-! ### TooMany -/
def spTooI (C : Addr) : Sp := fun vs H Q _ => ∃ (a : Addr) (x y : V), vs = [.ref a, x, y] ∧ H a = some (exo a C none) ∧ ∀ dx H', H dx = none → dx ≠ a → (∀ b o, b ≠ a → H b = some o → H' b = some o) → H' a = some (exo a C (some dx)) → H' dx = some (exd dx [("most", y), ("what", x)]) → Q .non H'
section
variable {P : Program} {w : World} {K : PySem.W.Frag} {mg : Str → Option Value} {base : Heap}
theorem ok_tooI {f C : Addr} {oc od osl : _} {kV doc pm cdv ct : Value} {an : Option Addr} {k : Nat} (T : OexC K C) (n1 : PySem.W.findIn K (.ref C) "what" = some none) (n2 : PySem.W.findIn K (.ref C) "most" = some none)
    (lk : K.lookup f = some ⟨oc, od, .func (PySem.W.fnOf "__init__" "TooMany.__init__" (defArgs sTooI) (defBody sTooI) (defScope sTooI) .none kV doc pm an cdv ct), osl⟩) (hcd : PySem.W.codeIn K cdv "TooMany.__init__" = true) :
    FnOk P w K mg base CX0 (k + 1) f (PySem.W.fnOf "__init__" "TooMany.__init__" (defArgs sTooI) (defBody sTooI) (defScope sTooI) .none kV doc pm an cdv ct) ["self", "what", "most"] (spTooI C) := by
  refine fn_of lk hcd scTooI (fun {vs H Q E} h => ?_) (fun A outer s H vs Q E hr h => ?_)
  · obtain ⟨a, x, y, rfl, _⟩ := h
    rfl
  · obtain ⟨a, x, y, rfl, ha, q⟩ := h
    refine ⟨_, pss_cons (ps_ost (pv 0) (pv 1)) (pss_one (ps_ost (pv 0) (pv 2))), ?_⟩
    refine ⟨x, rfl, .ref a, rfl, a, C, rfl, T, n1, .inl ⟨ha, fun dx hd dne => ?_⟩⟩
    have ad : dx ≠ a := dne
    refine ⟨y, rfl, .ref a, rfl, a, C, rfl, T, n2, .inr ⟨dx, _, upd_same, by rw [upd_ne ad, upd_same], by show 1 ≤ 900; decide, ?_⟩⟩
    refine q dx _ hd dne (fun b o hb h => ?_) (by rw [upd_ne ad.symm, upd_same]) upd_same
    rw [upd_ne (ne_of_none h hd), upd_ne hb, upd_ne (ne_of_none h hd)]
    exact h
end
theorem spv_word {K : PySem.W.Frag} {H : Hp} {x : V} {r : Bool} (h : RowR K H (.int 0) .non x r) : Evl.SpV (spWord K) [x] H (.bl r) := fun H1 e Q q E => ⟨x, r, rfl, h.ex e, q⟩
/-- a value, and the web's turns if it is one -/
inductive WbV (K : PySem.W.Frag) (C : Addr) (H : Hp) : V → Option (List (List Int)) → Prop where
  | no {v : V} {n : String} (h : Ty7 K H v n) : WbV K C H v none
  | web {x : Addr} {ts : List (List Int)} (h : WebAt C H x ts) : WbV K C H (.ref x) (some ts)
theorem WbV.ex {K : PySem.W.Frag} {C : Addr} {H H' : Hp} {v : V} {o : Option (List (List Int))} (h : WbV K C H v o) (e : Evl.Ex H H') : WbV K C H' v o := by
  cases h with
  | no h => exact .no (h.ex e)
  | web h => exact .web (h.ex e)
theorem WbV.at {K : PySem.W.Frag} {C : Addr} {H : Hp} {v : V} {ts : List (List Int)} (h : WbV K C H v (some ts)) : ∃ x, v = .ref x ∧ WebAt C H x ts := by
  cases h with
  | web h => exact ⟨_, rfl, h⟩
abbrev tys : List String := ["NoneType", "bool", "int", "str", "list", "tuple", "dict"]
theorem Ty7.mem {K : PySem.W.Frag} {H : Hp} {v : V} {n : String} (h : Ty7 K H v n) : n ∈ tys := by
  cases h <;> decide
/-- isinstance of plain values in the class at C -/
def TKit (K : PySem.W.Frag) (C : Addr) : Prop := ∀ n ∈ tys, PySem.W.kitOne K (.type n) (.ref C) = some false
theorem rc_wbv {K : PySem.W.Frag} {mg : Str → Option Value} {C : Addr} {H : Hp} {v : V} {o : Option (List (List Int))} (T : TWeb K mg C) (I : TIns K C) (N : TKit K C) (h : WbV K C H v o) : Evl.RC (rIsi K) [v, .ref C] H (.bl o.isSome) := by
  cases h with
  | @no v n h => exact fun H1 e _ q => ⟨v, .ref C, .type n, .ref C, false, rfl, .own C, (h.ex e).tyx, N n h.mem, q H1 (Evl.Ex.refl H1)⟩
  | web h => exact rc_web T I h
abbrev Rz (C : Addr) (H : Hp) (E : XK) (part : Str) : Prop := ∀ H1 d, Evl.Ex H H1 → H1 d = none → E (.ref C) (some d) (upd H1 d (.xd [(("part" : Str), .str part)]))
abbrev RzM (C : Addr) (m : Nat) (H : Hp) (E : XK) : Prop := ∀ H1 d, Evl.Ex H H1 → H1 d = none → E (.ref C) (some d) (upd H1 d (.xd [(("most" : Str), .int (m : Int)), (("what" : Str), .str "places")]))
/-- the error classes' addresses -/
structure Er where
  cw : Addr
  cc : Addr
  cb : Addr
  cf : Addr
  cm : Addr
def spWantWeb (K : PySem.W.Frag) (C : Addr) (R : Er) : Sp := fun vs H Q E => ∃ (v : V) (o : Option (List (List Int))), vs = [v] ∧ WbV K C H v o ∧ (o = none → Rz R.cw H E "web") ∧ (o.isSome = true → ∀ H', Evl.Ex H H' → Q .non H')
def spWW (K : PySem.W.Frag) (C : Addr) (R : Er) : Sp := fun vs H Q E => ∃ (v x : V) (o : Option (List (List Int))) (b : Bool), vs = [v, x] ∧ WbV K C H v o ∧ RowR K H (.int 0) .non x b ∧ (o = none → Rz R.cw H E "web") ∧ (o.isSome = true → b = false → Rz R.cc H E "colours") ∧ (o.isSome = true → b = true → ∀ H', Evl.Ex H H' → Q .non H')
def spFit (K : PySem.W.Frag) (C : Addr) (R : Er) : Sp := fun vs H Q E => ∃ (x a : Addr) (ts : List (List Int)) (xs : List V) (m : Nat), vs = [.ref x, .ref a, .int (m : Int)] ∧ WebAt C H x ts ∧ SqS K H a xs ∧ (xs.length ≠ ts.length → Rz R.cf H E "colours") ∧ (xs.length = ts.length → m < ts.length → RzM R.cm m H E) ∧ (xs.length = ts.length → ts.length ≤ m → ∀ H', Evl.Ex H H' → Q .non H')
theorem scWW : FnScope ["web", "colours"] ["web", "colours"] (defScope sWantWord) := ⟨rfl, rfl, rfl, by decide +kernel, rfl, by decide +kernel, by decide +kernel⟩
theorem scFit : FnScope ["web", "colours", "most"] ["web", "colours", "most"] (defScope sWantFit) := ⟨rfl, rfl, rfl, by decide +kernel, rfl, by decide +kernel, by decide +kernel⟩
section
variable {P : Program} {w : World} {K : PySem.W.Frag} {mg : Str → Option Value} {base : Heap}
theorem ok_want {qI : Str} {f C fI fW : Addr} {fd fdW : FuncData} {k : Nat} (F : Fun K "want_number" "want_number" sWant f fd) (FW : Fun K "is_within" "is_within" sWithin fW fdW) (GW : FnOk P w K mg base CX0 (k + 2) fW fdW ["value", "least", "most"] (spWithin K)) (bW : Binds K fdW ["value", "least", "most"] []) (gW : mg "is_within" = some (.ref fW))
    (T : PySem.PartX.PartTxt K mg "BadNumber" qI C fI) : FnOk P w K mg base (L2.CX P w) (k + 3) f fd ["value", "least", "most", "part"] (spWant K C) := by
  refine F.okX scWant (fun vs H Q E h => ?_) (fun cdv A outer s H vs Q E hr h => ?_)
  · obtain ⟨x, lo, hi, n, pt, rfl, _⟩ := h
    rfl
  · obtain ⟨x, lo, hi, n, pt, rfl, h7, hlo, hhi, hy, hn⟩ := h
    refine ⟨_, pss_one (ps_if (pt_not (pt_val (pe_call GW hr (by rfl) gW FW.kp bW .nil pass0 (pa_cons (pv 0) (pa_cons (pv 1) (pa_cons (pv 2) pa_nil)))))) (pss_one (ps_raisePart rfl T (k := k + 2) hr (takes_of rfl rfl rfl rfl) (pa_cons (pv 3) pa_nil) (by rfl) (by decide))) pss_nil), ?_⟩
    refine Evl.s_when (Evl.et_not (Evl.et_B (Evl.ev_call (Evl.ea_cons (Evl.ev_var rfl) (Evl.ea_cons (Evl.ev_var rfl) (Evl.ea_cons (Evl.ev_var rfl) Evl.ea_nil))) (spv_within h7 hlo hhi)))) (fun hb H1 e1 => ?_) (fun hb H1 e1 => ?_)
    · have hw : wi x lo hi = false := by
        cases q : wi x lo hi with
        | false => rfl
        | true =>
          rw [q] at hb
          cases hb
      exact ⟨.str pt, rfl, .str pt, rfl, fun d hd => hn hw H1 d e1 hd⟩
    · have hw : wi x lo hi = true := by
        cases q : wi x lo hi with
        | true => rfl
        | false =>
          rw [q] at hb
          cases hb
      exact hy hw H1 e1
theorem ok_wantWeb {qI : Str} {f C fI : Addr} {R : Er} {fd : FuncData} {k : Nat} (F : Fun K "want_web" "want_web" sWantWeb f fd) (T : TWeb K mg C) (I : TIns K C) (N : TKit K C) (TP : PySem.PartX.PartTxt K mg "BadWeb" qI R.cw fI) (mi : mg "isinstance" = none) :
    FnOk P w K mg base (L2.CX P w) (k + 3) f fd ["web"] (spWantWeb K C R) := by
  refine F.okX scWantWeb (fun vs H Q E h => ?_) (fun cdv A outer s H vs Q E hr h => ?_)
  · obtain ⟨v, o, rfl, _⟩ := h
    rfl
  · obtain ⟨v, o, rfl, h, hn, hy⟩ := h
    refine ⟨_, pss_one (ps_if (pt_not (pt_val (pe_callB call_isi (by rfl) mi (by decide +kernel) (pa_cons (pv 0) (pa_cons (pe_glob (v := .ref C) (by rfl) T.mgC rfl) pa_nil))))) (pss_one (ps_raisePart rfl TP (k := k + 2) hr (takes_of rfl rfl rfl rfl) (pa_cons pe_str pa_nil) (by rfl) (by decide))) pss_nil), ?_⟩
    refine Evl.s_when (Evl.et_not (Evl.et_B (Evl.ev_cb (Evl.ea_cons (Evl.ev_var rfl) (Evl.ea_cons Evl.ev_c Evl.ea_nil)) (rc_wbv T I N h)))) (fun hb H1 e1 => ?_) fun hb H1 e1 => ?_
    · have ho : o = none := by
        cases o with
        | none => rfl
        | some ts => cases hb
      exact ⟨.str "web", rfl, fun d hd => hn ho H1 d e1 hd⟩
    · refine hy ?_ H1 e1
      cases o with
      | none => cases hb
      | some ts => rfl
theorem ok_ww {qI : Str} {f fW fI C fX : Addr} {R : Er} {fd fdW fdI : FuncData} {k : Nat} (F : Fun K "_want_web_and_word" "_want_web_and_word" sWantWord f fd)
    (FW : Fun K "want_web" "want_web" sWantWeb fW fdW) (GW : FnOk P w K mg base (L2.CX P w) (k + 2) fW fdW ["web"] (spWantWeb K C R)) (bW : Binds K fdW ["web"] []) (gW : mg "want_web" = some (.ref fW))
    (FI : Fun K "is_word" "is_word" sIsWord fI fdI) (GI : FnOk P w K mg base CX0 (k + 2) fI fdI ["value"] (spWord K)) (bI : Binds K fdI ["value"] []) (gI : mg "is_word" = some (.ref fI)) (TP : PySem.PartX.PartTxt K mg "BadColours" qI R.cc fX) :
    FnOk P w K mg base (L2.CX P w) (k + 3) f fd ["web", "colours"] (spWW K C R) := by
  refine F.okX scWW (fun vs H Q E h => ?_) (fun cdv A outer s H vs Q E hr h => ?_)
  · obtain ⟨v, x, o, b, rfl, _⟩ := h
    rfl
  · obtain ⟨v, x, o, b, rfl, h, hx, h1, h2, h3⟩ := h
    refine ⟨_, pss_cons (ps_expr (pe_callS GW hr (by rfl) gW FW.kp bW (fun σ => passAt (takes_of rfl rfl rfl rfl) σ) (pa_cons (pv 0) pa_nil)))
      (pss_one (ps_if (pt_not (pt_val (pe_call GI hr (by rfl) gI FI.kp bI .nil pass0 (pa_cons (pv 1) pa_nil)))) (pss_one (ps_raisePart rfl TP (k := k + 2) hr (takes_of rfl rfl rfl rfl) (pa_cons pe_str pa_nil) (by rfl) (by decide))) pss_nil)), ?_⟩
    refine ⟨v, rfl, v, o, rfl, h, h1, fun ho H1 e1 => ?_⟩
    refine Evl.s_when (Evl.et_not (Evl.et_B (Evl.ev_call (Evl.ea_cons (Evl.ev_var rfl) Evl.ea_nil) (spv_word (hx.ex e1))))) (fun hb H2 e2 => ?_) fun hb H2 e2 => ?_
    · exact ⟨.str "colours", rfl, fun d hd => h2 ho (by cases b with | false => rfl | true => cases hb) H2 d (e1.trans e2) hd⟩
    · exact h3 ho (by cases b with | true => rfl | false => cases hb) H2 (e1.trans e2)
end
end P59
end S_Lj
section S_Lk
namespace P59
open PySem PySem.Spec PyProof.Rows L2 Tl Hk LamX EnL
theorem del_upd {H : Hp} {d : Addr} {o : HO} : upd (fun b => if b = d then none else H b) d o = upd H d o := by
  funext b
  by_cases z : b = d
  · rw [z, upd_same, upd_same]
  · rw [upd_ne z, upd_ne z, if_neg z]
/-- what is asked ends so -/
inductive Out where
  | calm | web | col | num | mis
  | many (m : Nat)
/-- the ways in which the four raise -/
def Rs (R : Er) (H : Hp) (E : XK) : Out → Prop
  | .calm => True
  | .web => Rz R.cw H E "web"
  | .col => Rz R.cc H E "colours"
  | .num => Rz R.cb H E "most"
  | .mis => Rz R.cf H E "colours"
  | .many m => RzM R.cm m H E
/-- distinct colours, as many as places -/
structure Fine (K : PySem.W.Frag) (H : Hp) (a : Addr) (ts : List (List Int)) (ws : List Int) : Prop where
  at_ : SqL K H a (ws.map V.int)
  nd : ws.Nodup
  pos : ∀ x ∈ ws, 0 ≤ x ∧ x ≤ 1000
  len : ws.length = ts.length
theorem Fine.ex {K : PySem.W.Frag} {H H' : Hp} {a : Addr} {ts : List (List Int)} {ws : List Int} (h : Fine K H a ts ws) (e : Evl.Ex H H') : Fine K H' a ts ws := ⟨Evl.ex_l e h.at_, h.nd, h.pos, h.len⟩
inductive AskR (K : PySem.W.Frag) (C : Addr) (H : Hp) (v x : V) (mw : Nat) : Out → Prop where
  | web {b : Bool} (h : WbV K C H v none) (hx : RowR K H (.int 0) .non x b) : AskR K C H v x mw .web
  | col {ts : List (List Int)} (h : WbV K C H v (some ts)) (hx : RowR K H (.int 0) .non x false) : AskR K C H v x mw .col
  | mis {ts : List (List Int)} {a : Addr} {xs : List V} (h : WbV K C H v (some ts)) (hx : RowR K H (.int 0) .non x true) (ha : x = .ref a) (hs : SqS K H a xs) (hl : xs.length ≠ ts.length) : AskR K C H v x mw .mis
  | many {ts : List (List Int)} {a : Addr} {xs : List V} (h : WbV K C H v (some ts)) (hx : RowR K H (.int 0) .non x true) (ha : x = .ref a) (hs : SqS K H a xs) (hl : xs.length = ts.length) (hm : mw < ts.length) : AskR K C H v x mw (.many mw)
  | calm {ts : List (List Int)} {a : Addr} {ws : List Int} (h : WbV K C H v (some ts)) (hx : RowR K H (.int 0) .non x true) (ha : x = .ref a) (hf : Fine K H a ts ws) (hT : OkT ts) (hm : ts.length ≤ mw) : AskR K C H v x mw .calm
theorem AskR.ex {K : PySem.W.Frag} {C : Addr} {H H' : Hp} {v x : V} {mw : Nat} {o : Out} (h : AskR K C H v x mw o) (e : Evl.Ex H H') : AskR K C H' v x mw o := by
  cases h with
  | web h hx => exact .web (h.ex e) (hx.ex e)
  | col h hx => exact .col (h.ex e) (hx.ex e)
  | mis h hx ha hs hl => exact .mis (h.ex e) (hx.ex e) ha (hs.ex e) hl
  | many h hx ha hs hl hm => exact .many (h.ex e) (hx.ex e) ha (hs.ex e) hl hm
  | calm h hx ha hf hT hm => exact .calm (h.ex e) (hx.ex e) ha (hf.ex e) hT hm
/-- the same with a length asked for -/
inductive AskN (K : PySem.W.Frag) (C : Addr) (H : Hp) (v x y : V) : Out → Prop where
  | web {n : String} (h : AskR K C H v x 24 .web) (hy : Ty7 K H y n) : AskN K C H v x y .web
  | col {n : String} (h : AskR K C H v x 24 .col) (hy : Ty7 K H y n) : AskN K C H v x y .col
  | num {ts : List (List Int)} {n : String} (h : WbV K C H v (some ts)) (hx : RowR K H (.int 0) .non x true) (hy : Ty7 K H y n) (hw : wi y (.int 1) (.int 4) = false) : AskN K C H v x y .num
  | past {o : Out} {m : Nat} (h : AskR K C H v x 24 o) (ho : o ≠ .web ∧ o ≠ .col) (hy : y = .int (m : Int)) (h1 : 1 ≤ m) (h4 : m ≤ 4) : AskN K C H v x y o
theorem AskN.ex {K : PySem.W.Frag} {C : Addr} {H H' : Hp} {v x y : V} {o : Out} (h : AskN K C H v x y o) (e : Evl.Ex H H') : AskN K C H' v x y o := by
  cases h with
  | web h hy => exact .web (h.ex e) (hy.ex e)
  | col h hy => exact .col (h.ex e) (hy.ex e)
  | num h hx hy hw => exact .num (h.ex e) (hx.ex e) (hy.ex e) hw
  | past h ho hy h1 h4 => exact .past (h.ex e) ho hy h1 h4
theorem Rz.ex {C : Addr} {H H' : Hp} {E : XK} {part : Str} (h : Rz C H E part) (e : Evl.Ex H H') : Rz C H' E part := fun H1 d e1 hd => h H1 d (e.trans e1) hd
theorem RzM.ex {C : Addr} {m : Nat} {H H' : Hp} {E : XK} (h : RzM C m H E) (e : Evl.Ex H H') : RzM C m H' E := fun H1 d e1 hd => h H1 d (e.trans e1) hd
theorem Rs.ex {R : Er} {H H' : Hp} {E : XK} {o : Out} (h : Rs R H E o) (e : Evl.Ex H H') : Rs R H' E o := by
  cases o with
  | calm => trivial
  | web => exact Rz.ex h e
  | col => exact Rz.ex h e
  | num => exact Rz.ex h e
  | mis => exact Rz.ex h e
  | many m => exact RzM.ex h e
/-- _want_web_and_word and _want_fit behind one another -/
theorem ww_of {K : PySem.W.Frag} {C : Addr} {R : Er} {H : Hp} {v x : V} {mw : Nat} {o : Out} {Q : VK} {E : XK} (h : AskR K C H v x mw o) (hr : Rs R H E o) (q : o ≠ .web → o ≠ .col → ∀ H', Evl.Ex H H' → Q .non H') : spWW K C R [v, x] H Q E := by
  cases h with
  | web h hx => exact ⟨v, x, none, _, rfl, h, hx, fun _ => hr, (fun z => nomatch z), fun z => nomatch z⟩
  | col h hx => exact ⟨v, x, _, false, rfl, h, hx, (fun z => nomatch z), fun _ _ => hr, fun _ z => nomatch z⟩
  | mis h hx ha hs hl => exact ⟨v, x, _, true, rfl, h, hx, (fun z => nomatch z), (fun _ z => nomatch z), fun _ _ => q (fun z => nomatch z) fun z => nomatch z⟩
  | many h hx ha hs hl hm => exact ⟨v, x, _, true, rfl, h, hx, (fun z => nomatch z), (fun _ z => nomatch z), fun _ _ => q (fun z => nomatch z) fun z => nomatch z⟩
  | calm h hx ha hf hT hm => exact ⟨v, x, _, true, rfl, h, hx, (fun z => nomatch z), (fun _ z => nomatch z), fun _ _ => q (fun z => nomatch z) fun z => nomatch z⟩
theorem fit_of {K : PySem.W.Frag} {C : Addr} {R : Er} {H : Hp} {v x : V} {mw : Nat} {o : Out} {Q : VK} {E : XK} (h : AskR K C H v x mw o) (n1 : o ≠ .web) (n2 : o ≠ .col) (hr : Rs R H E o) (q : o = .calm → ∀ H', Evl.Ex H H' → Q .non H') : spFit K C R [v, x, .int (mw : Int)] H Q E := by
  cases h with
  | web h hx => exact absurd rfl n1
  | col h hx => exact absurd rfl n2
  | mis h hx ha hs hl =>
    obtain ⟨w, rfl, hw⟩ := h.at
    subst ha
    exact ⟨w, _, _, _, mw, rfl, hw, hs, fun _ => hr, fun z => absurd z hl, fun z => absurd z hl⟩
  | many h hx ha hs hl hm =>
    obtain ⟨w, rfl, hw⟩ := h.at
    subst ha
    exact ⟨w, _, _, _, mw, rfl, hw, hs, fun z => absurd hl z, fun _ _ => hr, fun _ z => absurd z (by omega)⟩
  | @calm ts a ws h hx ha hf hT hm =>
    obtain ⟨w, rfl, hw⟩ := h.at
    subst ha
    have hl : (ws.map V.int).length = ts.length := by rw [List.length_map, hf.len]
    exact ⟨w, _, _, _, mw, rfl, hw, .inl hf.at_, fun z => absurd hl z, fun _ z => absurd z (by omega), fun _ _ => q rfl⟩
theorem callS_go {sp : Sp} {vs : List V} {E : L2.St → XK} {ta : TA} {σ : L2.St} {H : Hp} {Q : VK} (h : Evl.EvA ta σ H vs) (k : ∀ H1, Evl.Ex H H1 → sp vs H1 Q (E σ)) : tCallS sp E ta σ H Q := h H (Evl.Ex.refl H) _ k
def spWays (K : PySem.W.Frag) (C : Addr) (R : Er) : Sp := fun vs H Q E => ∃ (v x y : V) (o : Out), vs = [v, x, y] ∧ AskN K C H v x y o ∧ Rs R H E o ∧ (o = .calm → ∀ H', Evl.Ex H H' → Q .non H')
theorem scWays : FnScope ["web", "colours", "most"] ["web", "colours", "most"] (defScope sWantWays) := ⟨rfl, rfl, rfl, by decide +kernel, rfl, by decide +kernel, by decide +kernel⟩
section
variable {P : Program} {w : World} {K : PySem.W.Frag} {mg : Str → Option Value} {base : Heap}
theorem ok_fit {qI : Str} {f C fI fTI : Addr} {R : Er} {fd fdTI : FuncData} {k : Nat} (F : Fun K "_want_fit" "_want_fit" sWantFit f fd) (TW : TWeb K mg C)
    (TP : PySem.PartX.PartTxt K mg "Misfit" qI R.cf fI) (TM : OexC K R.cm) (iCM : PySem.W.findIn K (.ref R.cm) "__init__" = some (some (.ref fTI))) (tI : PySem.W.typeIn K (.ref fTI) = some (.type "function")) (GI : FnOk P w K mg base CX0 (k + 1) fTI fdTI ["self", "what", "most"] (spTooI R.cm)) (bI : Binds K fdTI ["self", "what", "most"] []) (gCM : mg "TooMany" = some (.ref R.cm))
    (mlen : mg "len" = none) : FnOk P w K mg base (L2.CX P w) (k + 3) f fd ["web", "colours", "most"] (spFit K C R) := by
  refine F.okX scFit (fun vs H Q E h => ?_) (fun cdv A outer s H vs Q E hr h => ?_)
  · obtain ⟨x, a, ts, xs, m, rfl, _⟩ := h
    rfl
  · obtain ⟨x, a, ts, xs, m, rfl, hx, hs, h1, h2, h3⟩ := h
    refine ⟨_, pss_cons (ps_if (pt_cmpR op_ne (pe_callB call_len_seq (by rfl) mlen PySem.boot_len (pa_cons (pv 1) pa_nil)) (pe_fld (pv 0) rfl) (nomark _)) (pss_one (ps_raisePart rfl TP (k := k + 2) hr (takes_of rfl rfl rfl rfl) (pa_cons pe_str pa_nil) (by rfl) (by decide))) pss_nil)
      (pss_one (ps_if (pt_cmpR op_gt (pe_fld (pv 0) rfl) (pv 2) (nomark _))
        (pss_one (ps_raise rfl (takes_of rfl rfl rfl rfl) (pmk_oex TM iCM tI GI hr bI .nil (fun _ _ _ _ _ _ _ c => False.elim c) (by rfl) gCM (pa_cons pe_str (pa_cons (pv 2) pa_nil))))) pss_nil)), ?_⟩
    obtain ⟨dx, t, ti, a1, a2, a3⟩ := id hx
    refine Evl.q_when (b := decide (V.int (xs.length : Int) ≠ V.int (ts.length : Int))) (Evl.et_is (Evl.et_test (Evl.ev_op (ev_lenB (Evl.ev_var rfl) hs) (ev_fld (Evl.ev_var rfl) a1 TW.cl TW.nM (wf_m _ _ _)) (Evl.rv_ne rfl))) (by simp)) (fun hb H1 e1 => ?_) (fun hb H1 e1 => ?_)
    · have hl : xs.length ≠ ts.length := fun z => by
        rw [z] at hb
        simp at hb
      exact ⟨.str "colours", rfl, fun d hd => h1 hl H1 d e1 hd⟩
    · have hl : xs.length = ts.length := by
        have := of_decide_eq_false hb
        by_cases z : xs.length = ts.length
        · exact z
        · exact absurd (fun y => z (by have := V.int.inj y; omega)) this
      refine Evl.s_when (b := decide ((m : Int) < (ts.length : Int))) (Evl.et_test (Evl.ev_op (ev_fld (Evl.ev_var rfl) (e1 _ _ a1) TW.cl TW.nM (wf_m _ _ _)) (Evl.ev_var rfl) Evl.rv_I0)) (fun hb2 H2 e2 => ?_) (fun hb2 H2 e2 => ?_)
      · have hm : m < ts.length := by
          have := of_decide_eq_true hb2
          omega
        refine ⟨.int (m : Int), rfl, by show 2 ≤ 1000; decide, fun a' ha' => ⟨a', .str "places", .int (m : Int), rfl, upd_same, fun dx H' hdx dne hk hH' hD => ⟨rfl, dx, _, hH', hD, ?_, ?_⟩⟩⟩
        · rw [upd_ne dne] at hdx
          exact hdx
        · have hda : H2 dx = none := by rw [upd_ne dne] at hdx; exact hdx
          have eG : upd (del H' a') dx (.xd [(("most" : Str), V.int (m : Int)), (("what" : Str), V.str "places")]) = upd (fun b => if b = dx then none else del H' a' b) dx (.xd [(("most" : Str), V.int (m : Int)), (("what" : Str), V.str "places")]) := del_upd.symm
          rw [eG]
          refine h2 hl hm (fun b => if b = dx then none else del H' a' b) dx (fun b o ho => ?_) (if_pos rfl)
          have ho2 := e2 _ _ (e1 _ _ ho)
          have nd : b ≠ dx := fun z => by rw [z, hda] at ho2; cases ho2
          have na : b ≠ a' := fun z => by rw [z, ha'] at ho2; cases ho2
          dsimp only
          rw [if_neg nd, del_ne na]
          exact hk b o na (by rw [upd_ne na]; exact ho2)
      · refine h3 hl ?_ H2 (e1.trans e2)
        have := of_decide_eq_false hb2
        omega
theorem ok_ways {f fW fN fF C : Addr} {R : Er} {fd fdW fdN fdF : FuncData} {k : Nat} (F : Fun K "_want_ways" "_want_ways" sWantWays f fd)
    (FW : Fun K "_want_web_and_word" "_want_web_and_word" sWantWord fW fdW) (GW : FnOk P w K mg base (L2.CX P w) k fW fdW ["web", "colours"] (spWW K C R)) (bW : Binds K fdW ["web", "colours"] []) (gW : mg "_want_web_and_word" = some (.ref fW))
    (FN : Fun K "want_number" "want_number" sWant fN fdN) (GN : FnOk P w K mg base (L2.CX P w) k fN fdN ["value", "least", "most", "part"] (spWant K R.cb)) (bN : Binds K fdN ["value", "least", "most", "part"] []) (gN : mg "want_number" = some (.ref fN))
    (FF : Fun K "_want_fit" "_want_fit" sWantFit fF fdF) (GF : FnOk P w K mg base (L2.CX P w) k fF fdF ["web", "colours", "most"] (spFit K C R)) (bF : Binds K fdF ["web", "colours", "most"] []) (gF : mg "_want_fit" = some (.ref fF))
    {t1 t2 : Tok} (g1 : mg "MOST_HALF" = some (.int 4 t1)) (g2 : mg "MOST_FOR_WAYS" = some (.int 24 t2)) : FnOk P w K mg base (L2.CX P w) (k + 1) f fd ["web", "colours", "most"] (spWays K C R) := by
  refine F.okX scWays (fun vs H Q E h => ?_) (fun cdv A outer s H vs Q E hr h => ?_)
  · obtain ⟨v, x, y, o, rfl, _⟩ := h
    rfl
  · obtain ⟨v, x, y, o, rfl, h, hR, q⟩ := h
    refine ⟨_, pss_cons (ps_expr (pe_callS GW hr (by rfl) gW FW.kp bW (fun σ => passAt (takes_of rfl rfl rfl rfl) σ) (pa_cons (pv 0) (pa_cons (pv 1) pa_nil))))
      (pss_cons (ps_expr (pe_callS GN hr (by rfl) gN FN.kp bN (fun σ => passAt (takes_of rfl rfl rfl rfl) σ) (pa_cons (pv 2) (pa_cons pe_int (pa_cons (pe_glob (v := .int 4) (by rfl) g1 ⟨_, rfl⟩) (pa_cons pe_str pa_nil))))))
      (pss_one (ps_expr (pe_callS GF hr (by rfl) gF FF.kp bF (fun σ => passAt (takes_of rfl rfl rfl rfl) σ) (pa_cons (pv 0) (pa_cons (pv 1) (pa_cons (pe_glob (v := .int 24) (by rfl) g2 ⟨_, rfl⟩) pa_nil))))))), ?_⟩
    have two : Evl.EvA (tCons (tVar 0) (tCons (tVar 1) tNil)) (start ["web", "colours", "most"] [v, x, y]) H [v, x] := Evl.ea_cons (Evl.ev_var rfl) (Evl.ea_cons (Evl.ev_var rfl) Evl.ea_nil)
    refine callS_go two fun H1 e1 => ?_
    cases h with
    | web h hy => exact ww_of (h.ex e1) (hR.ex e1) fun z => absurd rfl z
    | col h hy => exact ww_of (h.ex e1) (hR.ex e1) fun _ z => absurd rfl z
    | num h hx hy hw =>
      exact ⟨v, x, _, true, rfl, h.ex e1, hx.ex e1, (fun z => nomatch z), (fun _ z => nomatch z), fun _ _ H2 e2 => ⟨y, rfl, y, .int 1, .int 4, _, "most", rfl, hy.ex (e1.trans e2), trivial, trivial, (fun z => by rw [hw] at z; cases z), fun _ => Rz.ex hR (e1.trans e2)⟩⟩
    | @past _ m h ho hy h1 h4 =>
      refine ww_of (h.ex e1) (hR.ex e1) fun n1 n2 H2 e2 => ?_
      refine callS_go (vs := [y, .int 1, .int 4, .str "most"]) (Evl.ea_cons (Evl.ev_var rfl) (Evl.ea_cons Evl.ev_c (Evl.ea_cons Evl.ev_c (Evl.ea_cons Evl.ev_c Evl.ea_nil)))) fun H3 e3 => ?_
      have hw : wi y (.int 1) (.int 4) = true := by
        rw [hy]
        show (decide ((1 : Int) ≤ (m : Int)) && decide ((m : Int) ≤ 4)) = true
        rw [decide_eq_true (by omega), decide_eq_true (by omega)]
        rfl
      refine ⟨y, .int 1, .int 4, "int", "most", rfl, by rw [hy]; exact .int _, trivial, trivial, fun _ H4 e4 => ?_, fun z => by rw [hw] at z; cases z⟩
      have e14 := ((e1.trans e2).trans e3).trans e4
      refine callS_go (vs := [v, x, .int 24]) (Evl.ea_cons (Evl.ev_var rfl) (Evl.ea_cons (Evl.ev_var rfl) (Evl.ea_cons Evl.ev_c Evl.ea_nil))) fun H5 e5 => ?_
      exact fit_of (mw := 24) (h.ex (e14.trans e5)) n1 n2 (hR.ex (e14.trans e5)) fun z H6 e6 => q z H6 ((e14.trans e5).trans e6)
end
end P59
end S_Lk
section S_Ll
namespace P59
open PySem PySem.Spec PyProof.Rows L2 Tl Hk LamX EnL
abbrev sPaperI : Stmt := inClass sPaperC 0
abbrev sSoundI : Stmt := inClass sSoundC 0
abbrev sFreeI : Stmt := inClass sFreeC 0
theorem scSoundI : SuScope ["self"] ["self"] (defScope sSoundI) := ⟨rfl, rfl, rfl, by decide +kernel, rfl, by decide +kernel, by decide +kernel, by decide +kernel, by decide +kernel, by decide +kernel⟩
theorem scFreeI : SuScope ["self", "most"] ["self", "most"] (defScope sFreeI) := ⟨rfl, rfl, rfl, by decide +kernel, rfl, by decide +kernel, by decide +kernel, by decide +kernel, by decide +kernel, by decide +kernel⟩
theorem pe_nv {X : Cx} {e : Expr} : PE X e (fun _ _ _ => False) := ⟨fun _ _ _ _ _ _ h => h.elim⟩

theorem scFixed : FnScope ["value", "item"] ["value"] (defScope sFixed) := ⟨rfl, rfl, rfl, by decide +kernel, rfl, by decide +kernel, by decide +kernel⟩
theorem scPaperI : FnScope ["self", "word", "parts"] ["self", "word", "parts"] (defScope sPaperI) := ⟨rfl, rfl, rfl, by decide +kernel, rfl, by decide +kernel, by decide +kernel⟩
def spFix0 : Sp := fun vs H Q _ => ∃ i : Int, vs = [.int i] ∧ ∀ H1, Evl.Ex H H1 → Q (.int i) H1
theorem spv_fix0 {H : Hp} {i : Int} : Evl.SpV spFix0 [.int i] H (.int i) := fun H1 e Q q E => ⟨i, rfl, q⟩
def spFix1 : Sp := fun vs H Q _ => ∃ (a : Addr) (ns : List Int), vs = [.ref a] ∧ H a = some (.tup (ns.map V.int)) ∧ ns.length ≤ 4000 ∧ ∀ v H1, Evl.Ex H H1 → (∃ t, v = .ref t ∧ H t = none ∧ H1 t = some (.tup (ns.map V.int))) → Q v H1
structure TPap (K : PySem.W.Frag) (C : Addr) : Prop where
  cl : Cls K C
  nW : NoAttr K C "word"
  nP : NoAttr K C "parts"
def spPaper (K : PySem.W.Frag) : Sp := fun vs H Q _ => ∃ (x C dx p : Addr) (w : V) (fs : List (Str × V)) (ns : List Int), vs = [.ref x, w, .ref p] ∧ H x = some (.ins C dx fs) ∧ TPap K C ∧ fs.length < 900 ∧ H p = some (.tup (ns.map V.int)) ∧ ns.length ≤ 4000 ∧
  ∀ t H', (∀ b o, b ≠ x → H b = some o → H' b = some o) → H' x = some (.ins C dx (putF "parts" (.ref t) (putF "word" w fs))) → H' t = some (.tup (ns.map V.int)) → Q .non H'
theorem putF_len (f : Str) (v : V) : ∀ fs : List (Str × V), (putF f v fs).length ≤ fs.length + 1
  | [] => Nat.le_refl _
  | (g, y) :: r => by
    unfold putF
    split
    · simp
    · have := putF_len f v r
      simp
      omega
/-- return f([..]) -/
theorem go_elRet {r : List V → Hp → VK → Prop} {te : TE} {D : Ends} {σ : L2.St} {H : Hp} {xs : List V} (h : Evl.EvL te σ H xs) (k : ∀ p H1, H p = none → Evl.Ex H H1 → H1 p = some (.lst xs) → r [.ref p] H1 D.rt) : tRet (tCB r (tCons te tNil)) D σ H := h H (Evl.Ex.refl H) _ k
section
variable {P : Program} {w : World} {K : PySem.W.Frag} {mg : Str → Option Value} {base : Heap}
theorem ok_fix0 {f fL : Addr} {fd fdL : FuncData} {k : Nat} (F : Fun K "fixed" "fixed" sFixed f fd)
    (FL : Fun K "is_list" "is_list" sList fL fdL) (GL : FnOk P w K mg base CX0 k fL fdL ["value"] (spList K)) (bL : Binds K fdL ["value"] []) (gL : mg "is_list" = some (.ref fL)) : FnOk P w K mg base CX0 (k + 1) f fd ["value"] spFix0 := by
  refine F.ok scFixed (fun vs H Q E h => ?_) (fun cdv A outer s H vs Q E hr h => ?_)
  · obtain ⟨i, rfl, _⟩ := h
    rfl
  · obtain ⟨i, rfl, q⟩ := h
    refine ⟨_, pss_cons (ps_if (pt_val (pe_call GL hr (by rfl) gL FL.kp bL .nil pass0 (pa_cons (pv 0) pa_nil))) (pss_one ps_never) pss_nil) (pss_one (ps_ret (pv 0))), ?_⟩
    refine Evl.q_when (b := false) (Evl.et_is (Evl.et_B (Evl.ev_call (Evl.ea_cons (Evl.ev_var rfl) Evl.ea_nil) (spv_list (.int i)))) (by decide)) (fun z => by cases z) fun _ H1 e1 => ?_
    exact Evl.s_ret (Evl.ev_var rfl) fun H2 e2 => q H2 (e1.trans e2)
theorem ok_fix1 {f fL : Addr} {fd fdL : FuncData} {k : Nat} (F : Fun K "fixed" "fixed" sFixed f fd)
    (FL : Fun K "is_list" "is_list" sList fL fdL) (GL : FnOk P w K mg base CX0 k fL fdL ["value"] (spList K)) (bL : Binds K fdL ["value"] []) (gL : mg "is_list" = some (.ref fL))
    (G0 : FnOk P w K mg base CX0 k f fd ["value"] spFix0) (b0 : Binds K fd ["value"] []) (g0 : mg "fixed" = some (.ref f)) (mtup : mg "tuple" = none) : FnOk P w K mg base CX0 (k + 1) f fd ["value"] spFix1 := by
  refine F.ok scFixed (fun vs H Q E h => ?_) (fun cdv A outer s H vs Q E hr h => ?_)
  · obtain ⟨a, ns, rfl, _⟩ := h
    rfl
  · obtain ⟨a, ns, rfl, ha, hl, q⟩ := h
    have nd := scFixed.nd
    refine ⟨_, pss_cons (ps_if (pt_val (pe_call GL hr (by rfl) gL FL.kp bL .nil pass0 (pa_cons (pv 0) pa_nil))) (pss_one (ps_ret (pe_callTy call_tuple_of (by rfl) mtup (by decide +kernel) (pa_cons
        (pe_lc (own := [("item", 1)]) (g := gName 1) (tt := tYes) rfl nd (pi_tup (pv 0)) (blkOk_by (N := ["value", "item"]) (sc := defScope sFixed) (by decide +kernel)) (fun _ _ _ _ _ => pg_name (i := 1) nd rfl (Or.inl rfl)) (fun _ _ _ _ _ => pts_nil)
          (fun _ _ _ _ _ => pe_call G0 hr (by rfl) g0 F.kp b0 .nil pass0 (pa_cons (pv 1) pa_nil))) pa_nil)))) pss_nil) (pss_one ps_never), ?_⟩
    refine Evl.q_when (b := true) (Evl.et_is (Evl.et_B (Evl.ev_call (Evl.ea_cons (Evl.ev_var rfl) Evl.ea_nil) (spv_list (.tup (Evl.st_of ha))))) (by decide)) (fun _ H1 e1 => ?_) (fun z => by cases z)
    have e0 : (ns.map V.int).length = ns.length := List.length_map ..
    refine go_elRet ?_ fun p H2 hp e2 h2 => ⟨p, _, rfl, .inl ⟨Evl.sq_of h2, fun t ht => q _ _ ((e1.trans e2).trans (Evl.Ex.new ht)) ⟨t, rfl, Evl.fresh_back (e1.trans e2) ht, upd_same⟩⟩⟩
    have hh := el_lcT (K := K) (xs := ns.map V.int) (te := tCall spFix0 [] E0 (tCons (tVar 1) tNil)) (t := tYes) (σ := start ["value", "item"] [.ref a]) (H := H1) (j := 1) (vs := [1]) (fun _ => true) (fun i => V.int (ns.getD i 0)) (Evl.ev_var (i := 0) rfl) (Evl.st_of (e1 _ _ ha)) (by omega) (fun _ => rfl) (fun _ _ _ _ _ => et_yes)
      fun i v H2 e2 hv _ => by
        have hi : i < ns.length := by rw [← e0]; exact (List.getElem?_eq_some_iff.mp hv).1
        have ev : v = .int (ns.getD i 0) := by
          have := ints_getD hi
          rw [List.getD_eq_getElem?_getD, hv] at this
          exact this
        subst ev
        exact Evl.ev_call (Evl.ea_cons (Evl.ev_var rfl) Evl.ea_nil) spv_fix0
    rw [e0, given_all ns 0 V.int] at hh
    exact hh
theorem ok_paperI {f fX oc od osl : _} {kV doc pm cdv ct : Value} {an : Option Addr} {fdX : FuncData} {k : Nat}
    (lk : K.lookup f = some ⟨oc, od, .func (PySem.W.fnOf "__init__" "Paper.__init__" (defArgs sPaperI) (defBody sPaperI) (defScope sPaperI) .none kV doc pm an cdv ct), osl⟩) (hcd : PySem.W.codeIn K cdv "Paper.__init__" = true)
    (FX : Fun K "fixed" "fixed" sFixed fX fdX) (GX : FnOk P w K mg base CX0 k fX fdX ["value"] spFix1) (bX : Binds K fdX ["value"] []) (gX : mg "fixed" = some (.ref fX)) :
    FnR P w K mg base CX0 (k + 1) f (fun vs H Q E => ∃ ws rest, vs = ws ++ rest ∧ ws.length = 2 ∧ rest.length ≤ sizeLine ∧ ∀ p, H p = Option.none → spPaper K (ws ++ [V.ref p]) (upd H p (.tup rest)) Q E) := by
  refine StX.fn_star (N := ["self", "word", "parts"]) (ps := ["self", "word"]) (pv := "parts") (sp := spPaper K) lk hcd scPaperI StX.cxUp_none (fun us rest hl => ?_) (fun A outer s H vs Q E hr h => ?_)
  · match us, hl, rest with
    | [_, _], _, [] => rfl
    | [_, _], _, _ :: _ => rfl
  · obtain ⟨x, C, dx, p, w, fs, ns, rfl, hx, T, hf, hp, hl, q⟩ := h
    refine ⟨_, pss_cons (ps_fld (pv 0) (pv 1) rfl) (pss_one (ps_fld (pv 0) (pe_call GX hr (by rfl) gX FX.kp bX .nil pass0 (pa_cons (pv 2) pa_nil)) rfl)), ?_⟩
    have xp : p ≠ x := fun z => by
      rw [z, hx] at hp
      cases hp
    refine ⟨w, rfl, _, rfl, x, C, dx, fs, rfl, hx, T.cl, T.nW, by omega, _, rfl, p, ns, rfl, by rw [upd_ne xp]; exact hp, hl, fun v H1 e1 hv => ?_⟩
    obtain ⟨t, rfl, ht, h1⟩ := hv
    have hx1 := e1 _ _ upd_same
    have xt : t ≠ x := fun z => by rw [z, upd_same] at ht; cases ht
    have := putF_len "word" w fs
    refine ⟨_, rfl, x, C, dx, _, rfl, hx1, T.cl, T.nP, by omega, ?_⟩
    refine q t _ (fun b o hb h => ?_) upd_same (by rw [upd_ne xt]; exact h1)
    rw [upd_ne hb]
    exact e1 _ _ (by rw [upd_ne hb]; exact h)
def spSoundI (C : Addr) : Sp := fun vs H Q _ => ∃ (x dx : Addr), vs = [.ref x] ∧ H x = some (.ins C dx []) ∧ ∀ H' fs, (∀ q o, q ≠ x → H q = some o → H' q = some o) → H' x = some (.ins C dx fs) → Q .non H'
def spFreeI (C : Addr) : Sp := fun vs H Q _ => ∃ (x dx : Addr) (m : Int), vs = [.ref x, .int m] ∧ H x = some (.ins C dx []) ∧ ∀ H' fs, (∀ q o, q ≠ x → H q = some o → H' q = some o) → H' x = some (.ins C dx fs) → Q .non H'
set_option maxHeartbeats 2000000 in
theorem ok_soundI {f f2 C cc cda : Addr} {kV doc pm ct : Value} {an : Option Addr} {k : Nat}
    (B : SuFacts P K f f2 C C cc cda (PySem.W.ksFn "__init__" "Sound.__init__" (defArgs sSoundI) (defBody sSoundI) (defScope sSoundI) .none kV doc pm an (.ref cda) ct cc) "self")
    (hcd : PySem.W.codeIn K (.ref cda) "Sound.__init__" = true) (ms : mg "super" = none) (T : TPap K C)
    (F2 : FnR P w K mg base CX0 k f2 (fun vs H Q E => ∃ ws rest, vs = ws ++ rest ∧ ws.length = 2 ∧ rest.length ≤ sizeLine ∧ ∀ p, H p = Option.none → spPaper K (ws ++ [V.ref p]) (upd H p (.tup rest)) Q E)) :
    FnOk P w K mg base CX0 (k + 1) f (PySem.W.ksFn "__init__" "Sound.__init__" (defArgs sSoundI) (defBody sSoundI) (defScope sSoundI) .none kV doc pm an (.ref cda) ct cc) ["self"] (spSoundI C) := by
  refine fn_super (N := ["self"]) (sp := spSoundI C) B hcd scSoundI rfl ms F2 (fun {vs H Q E} h => ?_) (fun A outer s H vs Q E hr h => ?_) (pl := pure false) ?_ ?_ ?_ ?_
  · obtain ⟨x, dx, rfl, _⟩ := h
    rfl
  · obtain ⟨x, dx, rfl, hx, q⟩ := h
    refine ⟨_, _, x, dx, [], pa_cons pe_str pa_nil, pss_nil, rfl, hx, fun m hm => ?_⟩
    refine ⟨upd_same, [.ref x, .str "sound"], [], rfl, rfl, Nat.zero_le _, fun p hp => ?_⟩
    have mx : x ≠ m := ne_of_none hx hm
    have px : x ≠ p := fun z => by rw [← z, upd_ne mx, hx] at hp; cases hp
    refine ⟨x, C, dx, p, .str "sound", [], [], rfl, by rw [upd_ne px, upd_ne mx]; exact hx, T, by show 0 < 900; omega, upd_same, Nat.zero_le _, fun t H' hk hx' ht => ?_⟩
    refine q H' _ (fun c o hc h => hk c o hc ?_) hx'
    have qm : c ≠ m := ne_of_none h hm
    have qp : c ≠ p := fun z => by rw [← z, upd_ne qm, h] at hp; cases hp
    rw [upd_ne qp, upd_ne qm]
    exact h
  · exact fun env => rfl
  · exact fun env => rfl
  · exact fun env => rfl
  · exact fun env => rfl
set_option maxHeartbeats 2000000 in
theorem ok_freeI {f f2 C cc cda : Addr} {kV doc pm ct : Value} {an : Option Addr} {k : Nat}
    (B : SuFacts P K f f2 C C cc cda (PySem.W.ksFn "__init__" "Free.__init__" (defArgs sFreeI) (defBody sFreeI) (defScope sFreeI) .none kV doc pm an (.ref cda) ct cc) "self")
    (hcd : PySem.W.codeIn K (.ref cda) "Free.__init__" = true) (ms : mg "super" = none) (T : TPap K C) (nM : NoAttr K C "most")
    (F2 : FnR P w K mg base CX0 k f2 (fun vs H Q E => ∃ ws rest, vs = ws ++ rest ∧ ws.length = 2 ∧ rest.length ≤ sizeLine ∧ ∀ p, H p = Option.none → spPaper K (ws ++ [V.ref p]) (upd H p (.tup rest)) Q E)) :
    FnOk P w K mg base CX0 (k + 1) f (PySem.W.ksFn "__init__" "Free.__init__" (defArgs sFreeI) (defBody sFreeI) (defScope sFreeI) .none kV doc pm an (.ref cda) ct cc) ["self", "most"] (spFreeI C) := by
  refine fn_super (N := ["self", "most"]) (sp := spFreeI C) B hcd scFreeI rfl ms F2 (fun {vs H Q E} h => ?_) (fun A outer s H vs Q E hr h => ?_) (pl := pure false) ?_ ?_ ?_ ?_
  · obtain ⟨x, dx, m0, rfl, _⟩ := h
    rfl
  · obtain ⟨x, dx, m0, rfl, hx, q⟩ := h
    refine ⟨_, _, x, dx, [], pa_cons pe_str (pa_cons (pv 1) pa_nil), pss_one (ps_fld (pv 0) (pe_ix ix_tup (pe_fld (pv 0) rfl) pe_int (fun _ _ => rfl)) rfl), rfl, hx, fun m hm => ?_⟩
    refine ⟨_, rfl, upd_same, [.ref x, .str "free"], [.int m0], rfl, rfl, by show 1 ≤ sizeLine; decide, fun p hp => ?_⟩
    have mx : x ≠ m := ne_of_none hx hm
    have px : x ≠ p := fun z => by rw [← z, upd_ne mx, hx] at hp; cases hp
    refine ⟨x, C, dx, p, .str "free", [], [m0], rfl, by rw [upd_ne px, upd_ne mx]; exact hx, T, by show 0 < 900; omega, upd_same, by show 1 ≤ 4000; omega, fun t H' hk hx' ht => ?_⟩
    have h1 : ∀ q o, q ≠ x → H q = some o → H' q = some o := fun q o hq h => hk q o hq (by
      have qm : q ≠ m := ne_of_none h hm
      have qp : q ≠ p := fun z => by rw [← z, upd_ne qm, h] at hp; cases hp
      rw [upd_ne qp, upd_ne qm]
      exact h)
    have l0 := putF_len "word" (V.str "free") []
    have l1 := putF_len "parts" (V.ref t) (putF "word" (V.str "free") [])
    rw [List.length_nil] at l0
    refine ⟨_, rfl, x, C, dx, _, .ref t, rfl, hx', T.cl, T.nP, by rw [lookup_putF, if_pos rfl], t, [.int m0], 0, .int m0, rfl, rfl, Evl.st_of ht, rfl, _, rfl, x, C, dx, _, rfl, hx', T.cl, nM, by omega, ?_⟩
    exact q _ _ (fun c o hc h => by rw [upd_ne hc]; exact h1 c o hc h) upd_same
  · exact fun env => rfl
  · exact fun env => rfl
  · exact fun env => rfl
  · exact fun env => rfl
end
end P59
end S_Ll
section S_Lm
namespace P59
open PySem PySem.Spec PyProof.Rows L2 Tl Hk LamX EnL
abbrev sWebS : Stmt := inClass sWeb 2
abbrev teS (j : Nat) : TE := tCB (fun xs H Q => ∃ i, xs = [V.int i] ∧ i.natAbs.log2 < 1920 ∧ Q (.str (toString i)) H) (tCons (tVar j) tNil)
theorem nat_len : ∀ n : Nat, n < 1001 → (toString (n : Int) : Str).length ≤ 10 := by decide +kernel
theorem int_len {i : Int} (h0 : 0 ≤ i) (h1 : i ≤ 1000) : (toString i : Str).length ≤ 10 := by
  have := nat_len i.toNat (by omega)
  rwa [show ((i.toNat : Nat) : Int) = i by omega] at this
theorem int_log {i : Int} (h0 : 0 ≤ i) (h1 : i ≤ 1000) : i.natAbs.log2 < 1920 := by
  have h : i.natAbs < 2 ^ 11 := by
    have : (2:Nat) ^ 11 = 2048 := rfl
    omega
  by_cases z : i.natAbs = 0
  · rw [z]; decide
  · have := (Nat.log2_lt z).mpr h
    omega
theorem sum_le {m : Nat} : ∀ {ys : List Str}, (∀ y ∈ ys, y.length ≤ m) → (ys.map (·.length)).sum ≤ ys.length * m
  | [], _ => by simp
  | y :: r, h => by
    have := sum_le (ys := r) fun z hz => h z (List.mem_cons_of_mem _ hz)
    have h0 := h y List.mem_cons_self
    simp only [List.map_cons, List.sum_cons, List.length_cons, Nat.add_mul]
    omega
theorem join_le (a : Str) (ys : List Str) {m : Nat} (h : ∀ y ∈ ys, y.length ≤ m) : (Txt.join a ys).length ≤ ys.length * m + ys.length * a.length := by
  have := join_len a ys
  have := sum_le h
  omega
theorem ev_joinI {K : PySem.W.Frag} {σ : L2.St} {H : Hp} {ta : TE} {ys : List Str} {m : Nat} (h : Evl.EvL ta σ H (ys.map V.str)) (hm : ∀ y ∈ ys, y.length ≤ m) {a : Str} (hz : ys.length * m + ys.length * a.length ≤ 16777216) :
    Evl.Ev (tBM K "str" (fun x xs H Q => ∃ a p, ∃ ys : List Str, x = .str a ∧ xs = [.ref p] ∧ (SqL K H p (ys.map V.str) ∨ SqT K H p (ys.map V.str)) ∧ (ys.map (·.length)).sum + ys.length * a.length ≤ 16777216 ∧ Q (.str (Txt.join a ys)) H) (tC (.str a)) (tCons ta tNil)) σ H (.str (Txt.join a ys)) := fun H1 e Q q => by
  have hs := sum_le hm
  exact ⟨rfl, h H1 e _ fun p H2 hp e2 h2 => ⟨a, p, ys, rfl, rfl, .inl (Evl.sq_of h2), by omega, q H2 e2⟩⟩
/-- the text of a turn -/
def ttx (ns : List Int) : Str := if ns.isEmpty = true then "-" else Txt.join " " (ns.map fun i => (toString i : Str))
theorem ttx_len {ns : List Int} (hb : ∀ x ∈ ns, 0 ≤ x ∧ x ≤ 1000) (hl : ns.length ≤ 1000) : (ttx ns).length ≤ 11000 := by
  have hm : ∀ y ∈ ns.map (fun i => (toString i : Str)), y.length ≤ 10 := fun y hy => by
    obtain ⟨i, hi, rfl⟩ := List.mem_map.mp hy
    exact int_len (hb i hi).1 (hb i hi).2
  have hj := join_le " " _ hm
  rw [List.length_map] at hj
  have h1 : ((" " : Str)).length = 1 := rfl
  rw [h1] at hj
  unfold ttx
  split
  · decide
  · omega
def spTurnText : Sp := fun vs H Q _ => ∃ (a : Addr) (ns : List Int), vs = [.ref a] ∧ H a = some (.tup (ns.map V.int)) ∧ ns.length ≤ 1000 ∧ (∀ x ∈ ns, 0 ≤ x ∧ x ≤ 1000) ∧ ∀ H1, Evl.Ex H H1 → Q (.str (ttx ns)) H1
theorem spv_turnText {H : Hp} {a : Addr} {ns : List Int} (h : H a = some (.tup (ns.map V.int))) (hl : ns.length ≤ 1000) (hb : ∀ x ∈ ns, 0 ≤ x ∧ x ≤ 1000) : Evl.SpV spTurnText [.ref a] H (.str (ttx ns)) := fun H1 e Q q E => ⟨a, ns, rfl, e _ _ h, hl, hb, q⟩
def spWebS (C : Addr) : Sp := fun vs H Q _ => ∃ (x : Addr) (ts : List (List Int)), vs = [.ref x] ∧ WebAt C H x ts ∧ OkT ts ∧ ∀ H1, Evl.Ex H H1 → Q (.str (Txt.join " / " (ts.map ttx))) H1
theorem scWebS : FnScope ["self", "turn"] ["self"] (defScope sWebS) := ⟨rfl, rfl, rfl, by decide +kernel, rfl, by decide +kernel, by decide +kernel⟩
theorem scTurnText : FnScope ["turn", "place"] ["turn"] (defScope sTurnText) := ⟨rfl, rfl, rfl, by decide +kernel, rfl, by decide +kernel, by decide +kernel⟩
section
variable {P : Program} {w : World} {K : PySem.W.Frag} {mg : Str → Option Value} {base : Heap}
theorem ok_turnText {f : Addr} {fd : FuncData} {k : Nat} (F : Fun K "_turn_text" "_turn_text" sTurnText f fd) (mstr : mg "str" = none) : FnOk P w K mg base CX0 (k + 1) f fd ["turn"] spTurnText := by
  refine F.ok scTurnText (fun vs H Q E h => ?_) (fun cdv A outer s H vs Q E hr h => ?_)
  · obtain ⟨a, ns, rfl, _⟩ := h
    rfl
  · obtain ⟨a, ns, rfl, ha, hl, hb, q⟩ := h
    have nd := scTurnText.nd
    refine ⟨_, pss_one (ps_ret (pe_ifExp (pt_truth (pv 0) (by intro _; rfl))
      (pe_bm PySem.F.plainAttrs_str PySem.F.slot_str_join PySem.F.type_str_join mt_join pe_str (pa_cons
        (pe_lc (own := [("place", 1)]) (g := gName 1) (tt := tYes) (te := teS 1) rfl nd (pi_tup (pv 0)) (blkOk_by (N := ["turn", "place"]) (sc := defScope sTurnText) (by decide +kernel)) (fun _ _ _ _ _ => pg_name (i := 1) nd rfl (Or.inl rfl)) (fun _ _ _ _ _ => pts_nil)
          (fun _ _ _ _ _ => pe_callTy call_str_int (by rfl) mstr (by decide +kernel) (pa_cons (pv 1) pa_nil))) pa_nil)) pe_str)), ?_⟩
    have e0 : (ns.map V.int).length = ns.length := List.length_map ..
    refine ⟨_, rfl, _, .inr (.inl ⟨_, Evl.st_of ha, rfl⟩), ?_⟩
    by_cases hn : (ns.map V.int).isEmpty = true
    · rw [hn]
      have := q H (Evl.Ex.refl _)
      unfold ttx at this
      rw [if_pos (by simpa using hn)] at this
      exact this
    · rw [Bool.not_eq_true] at hn
      rw [hn]
      have hm : ∀ y ∈ ns.map (fun i => (toString i : Str)), y.length ≤ 10 := fun y hy => by
        obtain ⟨i, hi, rfl⟩ := List.mem_map.mp hy
        exact int_len (hb i hi).1 (hb i hi).2
      have h1 : ((" " : Str)).length = 1 := rfl
      refine ev_joinI (K := K) (σ := start ["turn", "place"] [.ref a]) (ys := ns.map (fun i => (toString i : Str))) ?_ hm (by rw [List.length_map, h1]; omega) H (Evl.Ex.refl _) _ fun H2 e2 => by
        have := q H2 e2
        unfold ttx at this
        rw [if_neg (by simpa using hn)] at this
        exact this
      have hh := el_lcT (K := K) (te := teS 1) (t := tYes) (σ := start ["turn", "place"] [.ref a]) (H := H) (j := 1) (vs := [1]) (fun _ => true) (fun i => V.str (toString (ns.getD i 0))) (Evl.ev_var (i := 0) rfl) (Evl.st_of ha) (by omega) (fun _ => rfl) (fun _ _ _ _ _ => et_yes)
        fun i v H2 e2 hv _ => by
          have hi : i < ns.length := by rw [← e0]; exact (List.getElem?_eq_some_iff.mp hv).1
          have ev : v = .int (ns.getD i 0) := by
            have := ints_getD hi
            rw [List.getD_eq_getElem?_getD, hv] at this
            exact this
          subst ev
          have hd := hb _ (List.getElem_mem hi)
          have eg : ns.getD i 0 = ns[i] := by rw [List.getD_eq_getElem?_getD, List.getElem?_eq_getElem hi]; rfl
          exact Evl.ev_cb (Evl.ea_cons (Evl.ev_var rfl) Evl.ea_nil) fun H3 e3 Q q => ⟨_, rfl, by rw [eg]; exact int_log hd.1 hd.2, q H3 (Evl.Ex.refl _)⟩
      rw [e0, given_all ns 0 (fun i => V.str (toString i))] at hh
      rw [List.map_map]
      exact hh
theorem ok_webS {C f fT : Addr} {fd fdT : FuncData} {k : Nat} (F : Fun K "__str__" "Web.__str__" sWebS f fd) (T : TWeb K mg C)
    (FT : Fun K "_turn_text" "_turn_text" sTurnText fT fdT) (GT : FnOk P w K mg base CX0 k fT fdT ["turn"] spTurnText) (bT : Binds K fdT ["turn"] []) (gT : mg "_turn_text" = some (.ref fT)) : FnOk P w K mg base CX0 (k + 1) f fd ["self"] (spWebS C) := by
  refine F.ok scWebS (fun vs H Q E h => ?_) (fun cdv A outer s H vs Q E hr h => ?_)
  · obtain ⟨x, ts, rfl, _⟩ := h
    rfl
  · obtain ⟨x, ts, rfl, hx, hT, q⟩ := h
    have nd := scWebS.nd
    refine ⟨_, pss_one (ps_ret (pe_bm PySem.F.plainAttrs_str PySem.F.slot_str_join PySem.F.type_str_join mt_join pe_str (pa_cons
        (pe_lc (own := [("turn", 1)]) (g := gName 1) (tt := tYes) rfl nd (pi_tup (pe_fld (pv 0) rfl)) (blkOk_by (N := ["self", "turn"]) (sc := defScope sWebS) (by decide +kernel)) (fun _ _ _ _ _ => pg_name (i := 1) nd rfl (Or.inl rfl)) (fun _ _ _ _ _ => pts_nil)
          (fun _ _ _ _ _ => pe_call GT hr (by rfl) gT FT.kp bT .nil pass0 (pa_cons (pv 1) pa_nil))) pa_nil))), ?_⟩
    obtain ⟨dx, t, ti, a1, ⟨as, hl, ha, hrow⟩, a3⟩ := hx
    have p2 := hT.most
    have hmap : (as.map V.ref).length = ts.length := by rw [List.length_map, ha]
    have row : ∀ i, i < ts.length → ∃ a ns, as[i]? = some a ∧ ts[i]? = some ns ∧ H a = some (.tup (ns.map V.int)) := fun i hi => by
      obtain ⟨a, ns, h1, h2⟩ := both_at ha (show i < as.length by omega)
      exact ⟨a, ns, h1, h2, hrow i a ns h1 h2⟩
    have fine : ∀ ns ∈ ts, ns.length ≤ 1000 ∧ ∀ x ∈ ns, 0 ≤ x ∧ x ≤ 1000 := fun ns hns => by
      obtain ⟨i, hi, rfl⟩ := List.mem_iff_getElem.mp hns
      have hg := List.getElem?_eq_getElem hi
      obtain ⟨t1, t2, t3⟩ := hT.pl i _ hg
      refine ⟨by have := hT.short hg; omega, fun x hx => ?_⟩
      have := t2 x hx
      omega
    have hm : ∀ y ∈ ts.map ttx, y.length ≤ 11000 := fun y hy => by
      obtain ⟨ns, hns, rfl⟩ := List.mem_map.mp hy
      exact ttx_len (fine ns hns).2 (fine ns hns).1
    refine Evl.s_ret (ev_joinI (K := K) (ys := ts.map ttx) ?_ hm (by rw [List.length_map]; show ts.length * 11000 + ts.length * 3 ≤ 16777216; omega)) q
    have hh := el_lcT (K := K) (te := tCall spTurnText [] E0 (tCons (tVar 1) tNil)) (t := tYes) (σ := start ["self", "turn"] [.ref x]) (H := H) (j := 1) (vs := [1]) (fun _ => true) (fun i => V.str (ttx (ts.getD i []))) (ev_fld (Evl.ev_var (i := 0) rfl) a1 T.cl T.nT (wf_t _ _ _)) (Evl.st_of hl) (by omega) (fun _ => rfl) (fun _ _ _ _ _ => et_yes)
      fun i v H2 e2 hv _ => by
        have hi : i < ts.length := by rw [← hmap]; exact (List.getElem?_eq_some_iff.mp hv).1
        obtain ⟨a, ns, h1, h2, h3⟩ := row i hi
        have ev : v = .ref a := by
          rw [List.getElem?_map, h1] at hv
          exact (Option.some.inj hv).symm
        subst ev
        have ed : ts.getD i [] = ns := by rw [List.getD_eq_getElem?_getD, h2]; rfl
        rw [ed]
        have hf := fine ns (List.mem_of_getElem? h2)
        exact Evl.ev_call (Evl.ea_cons (Evl.ev_var rfl) Evl.ea_nil) (spv_turnText (e2 _ _ h3) hf.1 hf.2)
    rw [hmap, given_all ts [] (fun ns => V.str (ttx ns))] at hh
    rw [List.map_map]
    exact hh
end
end P59
end S_Lm
section S_Ln
namespace P59
open PySem PySem.Spec PyProof.Rows L2 Tl Hk LamX EnL
def spAlike (K : PySem.W.Frag) : Sp := fun vs H Q _ => ∃ (a : Addr) (ts : List (List Int)) (ws : List Int), vs = [.ref a] ∧ Fine K H a ts ws ∧ ws.length ≤ 1000 ∧ ∀ p H1, H p = none → Evl.Ex H H1 → H1 p = some (.lst []) → Q (.ref p) H1
theorem scAlike : FnScope ["colours", "marked", "one", "own", "other", "shade"] ["colours"] (defScope sAlike) := ⟨rfl, rfl, rfl, by decide +kernel, rfl, by decide +kernel, by decide +kernel⟩
theorem rows_none {β : Type} {m : Nat → Nat} {b : Nat → Nat → β} : ∀ n, rows m (fun _ _ => false) b n = []
  | 0 => by simp [rows]
  | n + 1 => by
    rw [rows_succ, rows_none n]
    simp [els]
theorem enK_at {c : Int} {xs : List V} {i : Nat} (hi : i < xs.length) : (enK c xs)[i]? = some (Sum.inl (c + (i : Nat)), xs.getD i .non) := by
  unfold enK
  rw [List.getElem?_map, List.getElem?_eq_getElem (by simpa using hi)]
  simp
theorem paired_at {α β : Type} {F : α → β → Prop} : ∀ {as : List α} {bs : List β}, Paired F as bs → ∀ {i : Nat} {a : α} {b : β}, as[i]? = some a → bs[i]? = some b → F a b
  | _, _, .nil, i, a, b, h, _ => by simp at h
  | _, _, .cons h r, 0, a, b, h1, h2 => by
    cases h1
    cases h2
    exact h
  | _, _, .cons h r, i + 1, a, b, h1, h2 => paired_at r (i := i) (by simpa using h1) (by simpa using h2)
theorem Fine.apart {K : PySem.W.Frag} {H : Hp} {a : Addr} {ts : List (List Int)} {ws : List Int} (h : Fine K H a ts ws) {i j : Nat} (hi : i < ws.length) (hj : j < ws.length) (e : ws.getD i 0 = ws.getD j 0) : i = j := by
  rw [List.getD_eq_getElem?_getD, List.getD_eq_getElem?_getD, List.getElem?_eq_getElem hi, List.getElem?_eq_getElem hj] at e
  exact (List.getElem_inj h.nd).mp e
section
variable {P : Program} {w : World} {K : PySem.W.Frag} {mg : Str → Option Value} {base : Heap}
theorem ok_alike {f : Addr} {fd : FuncData} {k : Nat} (F : Fun K "_pairs_alike" "_pairs_alike" sAlike f fd) (mlist : mg "list" = none) (menum : mg "enumerate" = none) : FnOk P w K mg base CX0 (k + 1) f fd ["colours"] (spAlike K) := by
  refine F.ok scAlike (fun vs H Q E h => ?_) (fun cdv A outer s H vs Q E hr h => ?_)
  · obtain ⟨a, ts, ws, rfl, _⟩ := h
    rfl
  · obtain ⟨a, ts, ws, rfl, hf, hw, q⟩ := h
    have nd := scAlike.nd
    refine ⟨_, pss_cons (ps_set (i := 1) nd rfl (.inr rfl) (pe_listEn rfl (pa_cons (pv 0) pa_nil) (pk_cons pe_int pk_nil) (by rfl) mlist (by decide +kernel) (by rfl) menum))
      (pss_one (ps_ret (pe_lc2 (own := [("one", 2), ("own", 3), ("other", 4), ("shade", 5)]) (vs1 := [4, 5]) (wi1 := iList K (tVar 1)) (g := gTup K 2 (gCons (gName 2) (gCons (gName 3) gNil))) (g1 := gTup K 2 (gCons (gName 4) (gCons (gName 5) gNil))) (tt := tYes) rfl nd (pi_list (pv 1)) (blkOk_by (N := ["colours", "marked", "one", "own", "other", "shade"]) (sc := defScope sAlike) (by decide +kernel)) (by decide)
            (fun _ _ _ _ _ => pg_tup (by rfl) (pgs_cons (pg_name (i := 2) nd rfl (Or.inl rfl)) (pgs_cons (pg_name (i := 3) nd rfl (Or.inl rfl)) pgs_nil))) (fun _ _ _ _ _ => pts_nil)
            (fun _ _ _ _ _ => pi_list (pv 1)) (fun _ _ _ _ _ => pg_tup (by rfl) (pgs_cons (pg_name (i := 4) nd rfl (Or.inl rfl)) (pgs_cons (pg_name (i := 5) nd rfl (Or.inl rfl)) pgs_nil)))
            (fun _ _ _ _ _ => pts_one (PW.pt (pw_and (pt_cmpR op_ne (pv 2) (pv 4) (nomark _)) (pw_and1 (pt_cmpR op_eq (pv 3) (pv 5) (nomark _))))))
            (fun _ _ _ _ _ => pe_tup (pa_cons (pv 2) (pa_cons (pv 4) pa_nil)))))), ?_⟩
    have e0 : (ws.map V.int).length = ws.length := List.length_map ..
    refine ⟨_, rfl, a, ws.map V.int, 1, rfl, rfl, by decide, by decide, hf.at_, fun H1 p tks e1 hp h1 hP => ?_⟩
    have e1 : Evl.Ex H H1 := fun b o h => e1 b o h
    have lt : tks.length = ws.length := by
      have := hP.length
      unfold enK at this
      simpa using this
    have row : ∀ i v, i < ws.length → (tks.map V.ref)[i]? = some v → ∃ r, v = .ref r ∧ H1 r = some (.tup [V.int (1 + (i : Nat)), V.int (ws.getD i 0)]) := fun i v hi hv => by
      have ht : i < tks.length := by omega
      rw [List.getElem?_map, List.getElem?_eq_getElem ht] at hv
      have := paired_at hP (List.getElem?_eq_getElem ht) (enK_at (c := 1) (xs := ws.map V.int) (i := i) (by rw [e0]; exact hi))
      rw [ints_getD hi] at this
      exact ⟨_, (Option.some.inj hv).symm, this⟩
    have l2 : (tks.map V.ref).length = ws.length := by rw [List.length_map, lt]
    have aim : ∀ j1 j2, Aims (gTup K 2 (gCons (gName j1) (gCons (gName j2) gNil))) ws.length
        (YRow (tks.map V.ref) fun H => ∀ i v, i < ws.length → (tks.map V.ref)[i]? = some v → ∃ r, v = .ref r ∧ H r = some (.tup [V.int (1 + (i : Nat)), V.int (ws.getD i 0)])) (fun i σ => (σ.set j1 (some (V.int (1 + (i : Nat))))).set j2 (some (V.int (ws.getD i 0)))) :=
      fun j1 j2 => aims_rowT2 (c := fun i => (V.int (1 + (i : Nat)), V.int (ws.getD i 0)))
    have walk : ∀ {σ : L2.St}, σ[1]? = some (some (.ref p)) → EvI (iList K (tVar 1)) σ H1 ws.length (YRow (tks.map V.ref) fun H => ∀ i v, i < ws.length → (tks.map V.ref)[i]? = some v → ∃ r, v = .ref r ∧ H r = some (.tup [V.int (1 + (i : Nat)), V.int (ws.getD i 0)])) :=
      fun hs => ei_rowsL (Evl.ev_var hs) (Evl.sq_of h1) l2.symm fun A hA i v hi hv => by
        obtain ⟨r, e, hr⟩ := row i v hi hv
        exact ⟨r, e, hA _ _ hr⟩
    have hh : EvNL (tLc2 (iList K (tVar 1)) (gTup K 2 (gCons (gName 2) (gCons (gName 3) gNil))) tYes (iList K (tVar 1)) (gTup K 2 (gCons (gName 4) (gCons (gName 5) gNil))) (tAnd (tTest (tOp rNe (tVar 2) (tVar 4))) (tTest (tOp rEq (tVar 3) (tVar 5)))) (tTup (tCons (tVar 2) (tCons (tVar 4) tNil))) [2, 3, 4, 5] [4, 5]) [some (.ref a), some (.ref p), none, none, none, none] H1
        (Row2 (fun (_ : Nat) _ _ => True) (rows (fun _ => ws.length) (fun _ _ => false) (fun _ _ => 0) ws.length)) := by
      refine en_lc2 (walk rfl) (aim 2 3) (fun _ => rfl) (fun i hi => walk rfl) (fun i => aim 4 5) (fun i j => rfl) _ _ _ (fun i j hi hj => ?_) (fun i j hi hj z => nomatch z) ?_
      · refine Evl.et_is (Evl.et_and (Evl.et_test (Evl.ev_op (Evl.ev_var rfl) (Evl.ev_var rfl) (Evl.rv_ne rfl))) fun _ => Evl.et_test (Evl.ev_op (Evl.ev_var rfl) (Evl.ev_var rfl) (Evl.rv_eq rfl))) ?_
        by_cases ij : i = j
        · rw [ij]
          simp
        · have : ¬ (V.int (ws.getD i 0) = V.int (ws.getD j 0)) := fun z => ij (hf.apart hi hj (V.int.inj z))
          rw [decide_eq_false this, Bool.and_false]
      · rw [rows_none]
        exact Nat.zero_le _
    rw [rows_none] at hh
    refine hh H1 (Evl.Ex.refl _) _ fun p2 xs H2 hp2 e2 h2 hR => ?_
    obtain ⟨z, _⟩ := hR H2 e2 fun _ _ _ _ h => h
    cases xs with
    | nil => exact q p2 H2 (Evl.fresh_back e1 hp2) (e1.trans e2) h2
    | cons _ _ => cases z
end
end P59
end S_Ln
section S_Lo
namespace P59
open PySem PySem.Spec PyProof.Rows L2 Tl Hk LamX EnL
section
variable {K : PySem.W.Frag} {σ : L2.St} {H : Hp}
theorem ea_star {te : TE} {t : TA} {p : Addr} {xs ys : List V} (h : Evl.Ev te σ H (.ref p)) (hx : SqT K H p xs) (ht : Evl.EvA t σ H ys) : Evl.EvA (StX.tStar K te t) σ H (xs ++ ys) := fun H1 e Q q =>
  h H1 e _ fun H2 e2 => ⟨p, xs, rfl, .inl (Evl.ex_t (e.trans e2) hx), ht H2 (e.trans e2) _ fun H3 e3 => q H3 (e2.trans e3)⟩
theorem ei_tupU {te : TE} {xs : List V} (h : Evl.EvU te σ H xs) : EvI (iTup K te) σ H xs.length (YAt xs) := fun H1 e R k =>
  h H1 e _ fun a H2 ha e2 hx => ⟨a, rfl, ⟨xs, Evl.st_of hx⟩, k _ _ H2 e2 walk_tup fun A _ ab => Evl.st_of (ab _ _ ha hx)⟩
end
theorem putK_new {kvs : List (L2.Key × V)} {k : L2.Key} {v : V} (h : valV kvs k = none) : putK kvs k v = kvs ++ [(k, v)] := by
  unfold putK
  rw [if_neg]
  intro z
  obtain ⟨kv, h1, h2⟩ := List.any_eq_true.mp z
  have h3 := of_decide_eq_true h2
  unfold valV at h
  cases hf : kvs.find? (fun kv => decide (kv.1 = k)) with
  | none =>
    have := List.find?_eq_none.mp hf kv h1
    exact this (decide_eq_true h3)
  | some q => rw [hf] at h; cases h
theorem valV_mem {kvs : List (L2.Key × V)} {k : L2.Key} {v : V} (h : valV kvs k = some v) : ∃ q ∈ kvs, q.2 = v := by
  unfold valV at h
  cases hf : kvs.find? (fun kv => decide (kv.1 = k)) with
  | none => rw [hf] at h; cases h
  | some q =>
    rw [hf] at h
    exact ⟨q, List.mem_of_find?_eq_some hf, Option.some.inj h⟩
theorem scNear : FnScope ["web", "colours", "near", "place", "turn", "shades", "other"] ["web", "colours"] (defScope sNear) := ⟨rfl, rfl, rfl, by decide +kernel, rfl, by decide +kernel, by decide +kernel⟩
def spNear (K : PySem.W.Frag) (C : Addr) : Sp := fun vs H Q _ => ∃ (x a : Addr) (ts : List (List Int)) (ws : List Int), vs = [.ref x, .ref a] ∧ WebAt C H x ts ∧ OkT ts ∧ Fine K H a ts ws ∧ ∀ v H1, Evl.Ex H H1 → Q v H1
/-- the dict at D: lists made since B -/
def Shades (B : Hp) (H : Hp) (D : Addr) (j : Nat) : Prop := ∃ kvs : List (L2.Key × V), H D = some (.dK kvs) ∧ kvs.length ≤ j ∧ ∀ q ∈ kvs, ∃ l ys, q.2 = .ref l ∧ B l = none ∧ H l = some (.lst ys) ∧ ys.length ≤ j
set_option maxHeartbeats 1000000 in
section
variable {P : Program} {w : World} {K : PySem.W.Frag} {mg : Str → Option Value} {base : Heap}
theorem ok_near {C f : Addr} {fd : FuncData} {k : Nat} (F : Fun K "_near_places" "_near_places" sNear f fd) (T : TWeb K mg C) (menum : mg "enumerate" = none) : FnOk P w K mg base CX0 (k + 1) f fd ["web", "colours"] (spNear K C) := by
  refine F.ok scNear (fun vs H Q E h => ?_) (fun cdv A outer s H vs Q E hr h => ?_)
  · obtain ⟨x, a, ts, ws, rfl, _⟩ := h
    rfl
  · obtain ⟨x, a, ts, ws, rfl, hx, hT, hf, q⟩ := h
    have nd := scNear.nd
    refine ⟨_, pss_cons (ps_set (i := 2) nd rfl (.inl rfl) (pe_lst pa_nil))
      (pss_cons (ps_for PassesOwn.never rfl (pi_enumS (by rfl) menum (pa_cons (pe_fld (pv 0) rfl) pa_nil) (pk_cons pe_int pk_nil)) (pg_tup (by rfl) (pgs_cons (pg_name (i := 3) nd rfl (Or.inl rfl)) (pgs_cons (pg_name (i := 4) nd rfl (Or.inl rfl)) pgs_nil)))
        (pss_cons (ps_set (i := 5) nd rfl (.inl rfl) pe_dnewK)
        (pss_cons (ps_for PassesOwn.never rfl (pi_tup (pe_tup (pa_cons (pv 3) (StX.pa_star (pv 4) pa_nil)))) (pg_name (i := 6) nd rfl (Or.inl rfl))
            (pss_one (ps_expr (pe_bm PySem.F.plainAttrs_list PySem.F.slot_list_append PySem.F.type_list_append mt_append (pe_dsetd (pv 5) (pe_ix ix_list (pv 1) (pe_op op_sub (pv 6) pe_int) (fun _ _ => rfl)) (pe_lst pa_nil) ⟨rfl, rfl, rfl, rfl⟩) (pa_cons (pv 6) pa_nil)))))
        (pss_one (ps_expr (pe_bm PySem.F.plainAttrs_list PySem.F.slot_list_append PySem.F.type_list_append mt_append (pv 2) (pa_cons (pv 5) pa_nil)))))))
      (pss_one (ps_ret (pv 2)))), ?_⟩
    obtain ⟨dx, t, ti, a1, ⟨as, hl, ha, hrow⟩, a3⟩ := hx
    have p2 := hT.most
    have hmap : (as.map V.ref).length = ts.length := by rw [List.length_map, ha]
    have hcl : (ws.map V.int).length = ts.length := by rw [List.length_map, hf.len]
    have row : ∀ i, i < ts.length → ∃ a ns, as[i]? = some a ∧ ts[i]? = some ns ∧ H a = some (.tup (ns.map V.int)) := fun i hi => by
      obtain ⟨a, ns, h1, h2⟩ := both_at ha (show i < as.length by omega)
      exact ⟨a, ns, h1, h2, hrow i a ns h1 h2⟩
    refine ⟨Nat.zero_le _, fun N hN => ?_⟩
    have e1 : Evl.Ex H (upd H N (.lst [])) := Evl.Ex.new hN
    refine q_forI (n := (as.map V.ref).length) (B := H) (ei_enumS (K := K) (a := t) (xs := as.map V.ref) (c := 1) (Evl.ea_cons (ev_fld (Evl.ev_var (i := 0) rfl) a1 T.cl T.nT (wf_t _ _ _)) Evl.ea_nil) (Evl.ea_cons Evl.ev_c Evl.ea_nil) (Evl.st_of hl) (by decide) (by decide)) aims_enumS e1
      (fun H2 i σ' H' => (∃ x3 x4 x5 x6, σ' = [some (.ref x), some (.ref a), some (.ref N), x3, x4, x5, x6]) ∧ Evl.Ex (less H2 N) H' ∧ ∃ ys, H' N = some (.lst ys) ∧ ys.length = i)
      (fun H2 e2 => ⟨⟨_, _, _, _, rfl⟩, less_ex _ _, [], e2 _ _ upd_same, rfl⟩) (fun H2 i σ' H' e2 hi hp => ?_) (fun H2 i σ' H' H'' e2 hi hp e3 => ?_) (fun H2 σ' H' e2 hp => ?_)
    · obtain ⟨_, h1, _⟩ := hp
      have nN : ∀ b o, H b = some o → b ≠ N := fun b o ho z => by rw [z, hN] at ho; cases ho
      refine ⟨fun b o ho => h1 _ _ (less_of (e2 _ _ (e1 _ _ ho)) (nN b o ho)), fun b o hn ho => h1 _ _ (less_of ho fun z => ?_)⟩
      rw [z, upd_same] at hn
      cases hn
    · obtain ⟨⟨x3, x4, x5, x6, rfl⟩, h1, ys, h2, h3⟩ := hp
      obtain ⟨tu, ns, r1, r2, r3⟩ := row i (by omega)
      have eT : (as.map V.ref).getD i .non = .ref tu := refs_getD r1
      rw [eT]
      have nN : ∀ {b : Addr} {o : HO}, H b = some o → H'' b = some o := fun {b o} ho => e3 _ _ (h1 _ _ (less_of (e2 _ _ (e1 _ _ ho)) fun z => by rw [z, hN] at ho; cases ho))
      have hN' := e3 _ _ h2
      intro D hD
      have e4 : Evl.Ex H'' (upd H'' D (.dK [])) := Evl.Ex.new hD
      obtain ⟨t1, t2, t3⟩ := hT.pl i ns r2
      have hsh := hT.short r2
      have hns : (ns.map V.int).length = ns.length := List.length_map ..
      have hw : EvI (iTup K (tTup (tCons (tVar 3) (StX.tStar K (tVar 4) tNil)))) [some (.ref x), some (.ref a), some (.ref N), some (.int (1 + (i : Nat))), some (.ref tu), some (.ref D), x6] H'' (V.int (1 + (i : Nat)) :: (ns.map V.int ++ [])).length (YAt (V.int (1 + (i : Nat)) :: (ns.map V.int ++ []))) :=
        ei_tupU (Evl.eu_tup (Evl.ea_cons (Evl.ev_var rfl) (ea_star (Evl.ev_var rfl) (Evl.st_of (nN r3)) Evl.ea_nil)) (by rw [List.length_cons, List.length_append, hns]; show ns.length + 0 + 1 ≤ 100000; omega))
      have hlen : (V.int (1 + (i : Nat)) :: (ns.map V.int ++ [])).length = ns.length + 1 := by rw [List.length_cons, List.length_append, hns]; rfl
      have item : ∀ j, j < (V.int (1 + (i : Nat)) :: (ns.map V.int ++ [])).length → ∃ o : Int, (V.int (1 + (i : Nat)) :: (ns.map V.int ++ [])).getD j .non = .int o ∧ 1 ≤ o ∧ o ≤ (ts.length : Int) := fun j hj => by
        rw [List.append_nil] at hj ⊢
        cases j with
        | zero => exact ⟨1 + (i : Nat), rfl, by omega, by omega⟩
        | succ j =>
          have hj2 : j < ns.length := by simpa using hj
          have hm := t2 _ (List.getElem_mem hj2)
          refine ⟨ns[j], ?_, hm.1, hm.2⟩
          show (ns.map V.int).getD j .non = _
          rw [ints_getD hj2, List.getD_eq_getElem?_getD, List.getElem?_eq_getElem hj2]
          rfl
      refine q_forI (B := H'') hw (aims_at (j := 6)) e4 (fun A j σ2 B => (∃ y, σ2 = [some (.ref x), some (.ref a), some (.ref N), some (.int (1 + (i : Nat))), some (.ref tu), some (.ref D), y]) ∧ Evl.Ex (less A D) B ∧ Shades A B D j)
        (fun A eA => ⟨⟨_, rfl⟩, less_ex _ _, [], eA _ _ upd_same, Nat.le_refl _, fun q hq => nomatch hq⟩) (fun A j σ2 B eA hj hp => ?_) (fun A j σ2 B B2 eA hj hp eB => ?_) (fun A σ2 B eA hp => ?_)
      · obtain ⟨_, k1, _⟩ := hp
        refine ⟨fun b o ho => k1 _ _ (less_of (eA _ _ (e4 _ _ ho)) fun z => by rw [z, hD] at ho; cases ho), fun b o hn ho => k1 _ _ (less_of ho fun z => ?_)⟩
        rw [z, upd_same] at hn
        cases hn
      · obtain ⟨⟨y, rfl⟩, k1, kvs, k2, k3, k4⟩ := hp
        obtain ⟨o, io, o1, o2⟩ := item j hj
        rw [io]
        have inB : ∀ {b : Addr} {o : HO}, H'' b = some o → B2 b = some o := fun {b o} ho => eB _ _ (k1 _ _ (less_of (eA _ _ (e4 _ _ ho)) fun z => by rw [z, hD] at ho; cases ho))
        have hAD : ¬ A D = none := fun z => by rw [eA _ _ upd_same] at z; cases z
        have hkB := eB _ _ k2
        have big : (2000:Nat) ≤ sizeLine := by decide
        have hc : (ws.map V.int)[(o - 1).toNat]? = some (.int (ws.getD (o - 1).toNat 0)) := by
          have : (o - 1).toNat < ws.length := by have := hf.len; omega
          rw [List.getElem?_map, List.getElem?_eq_getElem this, List.getD_eq_getElem?_getD, List.getElem?_eq_getElem this]
          rfl
        have hcB : SqL K B2 a (ws.map V.int) := Evl.ex_l (show Evl.Ex H B2 from fun b o ho => inB (nN ho)) hf.at_
        refine ⟨.ref D, rfl, D, rfl, .inl ⟨kvs, .inl hkB⟩, ?_⟩
        have hat : atI (ws.map V.int) (o - 1) = some (.int (ws.getD (o - 1).toNat 0)) := by
          have eo : ((o - 1).toNat : Int) = o - 1 := by omega
          have := atI_nat hc
          rwa [eo] at this
        have hev : Evl.Ev (tOp (rIxL K) (tVar 1) (tOp rSub (tVar 6) (tC (.int 1)))) [some (.ref x), some (.ref a), some (.ref N), some (.int (1 + (i : Nat))), some (.ref tu), some (.ref D), some (.int o)] B2 (.int (ws.getD (o - 1).toNat 0)) :=
          Evl.ev_op (Evl.ev_var rfl) (Evl.ev_op (Evl.ev_var rfl) Evl.ev_c Evl.rv_I0) (Evl.rv_ixL hcB hat)
        refine hev B2 (Evl.Ex.refl _) _ fun B3 e5 => ?_
        refine ⟨Nat.zero_le _, fun L hL => ?_⟩
        have LD : D ≠ L := fun z => by rw [← z, e5 _ _ hkB] at hL; cases hL
        have hkL : upd B3 L (.lst []) D = some (.dK kvs) := by rw [upd_ne LD]; exact e5 _ _ hkB
        have toB3 : Evl.Ex (less A D) B3 := fun b o ho => e5 _ _ (eB _ _ (k1 _ _ ho))
        have hLA : less A D L = none := by
          cases z : less A D L with
          | none => rfl
          | some o => rw [toB3 _ _ z] at hL; cases hL
        have hLA2 : A L = none := by
          unfold less at hLA
          rwa [if_neg LD.symm] at hLA
        refine ⟨kvs, .inl (ws.getD (o - 1).toNat 0), hkL, rfl, by omega, fun v hv => ?_, fun hv => ?_⟩
        · obtain ⟨q0, m0, rfl⟩ := valV_mem hv
          obtain ⟨l, ys0, l1, l2, l3, l4⟩ := k4 q0 m0
          rw [l1]
          have lL : l ≠ L := fun z => by rw [← z, e5 _ _ (eB _ _ l3)] at hL; cases hL
          have lD : l ≠ D := fun z => hAD (by rw [← z]; exact l2)
          have hl3 : upd B3 L (.lst []) l = some (.lst ys0) := by rw [upd_ne lL]; exact e5 _ _ (eB _ _ l3)
          have hlA : less A D l = none := by unfold less; rw [if_neg lD]; exact l2
          refine ⟨.inl ⟨rfl, ys0, Evl.sq_of hl3⟩, _, rfl, l, ys0, .int o, rfl, rfl, hl3, by omega, ⟨_, rfl⟩, (toB3.mut hLA).mut hlA, kvs, by rw [upd_ne lD.symm]; exact hkL, by omega, fun q1 hq1 => ?_⟩
          obtain ⟨l', ys', m1, m2, m3, m4⟩ := k4 q1 hq1
          by_cases z : l' = l
          · exact ⟨l, ys0 ++ [.int o], by rw [m1, z], l2, upd_same, by rw [List.length_append]; show ys0.length + 1 ≤ _; omega⟩
          · have l'L : l' ≠ L := fun z => by rw [← z, e5 _ _ (eB _ _ m3)] at hL; cases hL
            exact ⟨l', ys', m1, m2, by rw [upd_ne z, upd_ne l'L]; exact e5 _ _ (eB _ _ m3), by omega⟩
        · rw [putK_new hv]
          have hLL : upd (upd B3 L (.lst [])) D (.dK (kvs ++ [(.inl (ws.getD (o - 1).toNat 0), .ref L)])) L = some (.lst []) := by rw [upd_ne LD.symm, upd_same]
          refine ⟨.inl ⟨rfl, [], Evl.sq_of hLL⟩, _, rfl, L, [], .int o, rfl, rfl, hLL, by show 0 < sizeLine; omega, ⟨_, rfl⟩, ((toB3.mut hLA).mut (less_none _ _)).mut hLA, _, by rw [upd_ne LD, upd_same], by rw [List.length_append]; show kvs.length + 1 ≤ _; omega, fun q1 hq1 => ?_⟩
          rcases List.mem_append.mp hq1 with h | h
          · obtain ⟨l', ys', m1, m2, m3, m4⟩ := k4 q1 h
            have l'L : l' ≠ L := fun z => by rw [← z, e5 _ _ (eB _ _ m3)] at hL; cases hL
            have l'D : l' ≠ D := fun z => hAD (by rw [← z]; exact m2)
            exact ⟨l', ys', m1, m2, by rw [upd_ne l'L, upd_ne l'D, upd_ne l'L]; exact e5 _ _ (eB _ _ m3), by omega⟩
          · rw [List.mem_singleton.mp h]
            exact ⟨L, [.int o], rfl, hLA2, upd_same, by show 1 ≤ j + 1; omega⟩
      · obtain ⟨⟨y, rfl⟩, k1, k2⟩ := hp
        have hNB : B N = some (.lst ys) := k1 _ _ (less_of (eA _ _ (e4 _ _ hN')) fun z => by rw [z, hD] at hN'; cases hN')
        refine ⟨_, rfl, .inl ⟨rfl, ys, Evl.sq_of hNB⟩, _, rfl, N, ys, .ref D, rfl, rfl, hNB, by show ys.length < sizeLine; have := (show (2000:Nat) ≤ sizeLine by decide); omega, ⟨_, _, _, _, rfl⟩, ?_, _, upd_same, by rw [List.length_append, h3]; rfl⟩
        refine Evl.Ex.mut (fun b o ho => ?_) (less_none _ _)
        have h4 := e3 _ _ (h1 _ _ ho)
        exact k1 _ _ (less_of (eA _ _ (e4 _ _ h4)) fun z => by rw [z, hD] at h4; cases h4)
    · obtain ⟨⟨x3, x4, x5, x6, rfl⟩, h1, ys, h2, h3⟩ := hp
      exact ⟨_, rfl, q _ _ fun b o ho => h1 _ _ (less_of (e2 _ _ (e1 _ _ ho)) fun z => by rw [z, hN] at ho; cases ho)⟩
end
end P59
end S_Lo
section S_Lp
namespace P59
open PySem PySem.Spec PyProof.Rows L2 Tl Hk LamX EnL
theorem scEcho : FnScope ["web", "colours", "near", "seen", "pair", "part", "step", "ends"] ["web", "colours"] (defScope sEcho) := ⟨rfl, rfl, rfl, by decide +kernel, rfl, by decide +kernel, by decide +kernel⟩
theorem scRep : FnScope ["web", "colours", "most", "near", "one", "other", "way"] ["web", "colours", "most"] (defScope sRep) := ⟨rfl, rfl, rfl, by decide +kernel, rfl, by decide +kernel, by decide +kernel⟩
def spEcho (K : PySem.W.Frag) (C : Addr) : Sp := fun vs H Q _ => ∃ (x a : Addr) (ts : List (List Int)) (ws : List Int), vs = [.ref x, .ref a] ∧ WebAt C H x ts ∧ OkT ts ∧ Fine K H a ts ws ∧ ∀ H1, Evl.Ex H H1 → Q .non H1
def spRep (K : PySem.W.Frag) (C : Addr) : Sp := fun vs H Q _ => ∃ (x a : Addr) (y : V) (ts : List (List Int)) (ws : List Int), vs = [.ref x, .ref a, y] ∧ WebAt C H x ts ∧ OkT ts ∧ Fine K H a ts ws ∧ ∀ H1, Evl.Ex H H1 → Q .non H1
theorem el_alike {K : PySem.W.Frag} {σ : L2.St} {H : Hp} {ta : TA} {a : Addr} {ts : List (List Int)} {ws : List Int} (h : Evl.EvA ta σ H [.ref a]) (hf : Fine K H a ts ws) (hw : ws.length ≤ 1000) : Evl.EvL (tCall (spAlike K) [] E0 ta) σ H [] := fun H1 e Q q =>
  h H1 e _ fun H2 e2 => ⟨a, ts, ws, rfl, hf.ex (e.trans e2), hw, fun p H3 hp e3 h3 => q p H3 (Evl.fresh_back e2 hp) (e2.trans e3) h3⟩
theorem ev_near {K : PySem.W.Frag} {C : Addr} {σ : L2.St} {H : Hp} {ta : TA} {x a : Addr} {ts : List (List Int)} {ws : List Int} {Q : VK} (h : Evl.EvA ta σ H [.ref x, .ref a]) (hx : WebAt C H x ts) (hT : OkT ts) (hf : Fine K H a ts ws) (q : ∀ v H1, Evl.Ex H H1 → Q v H1) : tCall (spNear K C) [] E0 ta σ H Q :=
  h H (Evl.Ex.refl H) _ fun H2 e2 => ⟨x, a, ts, ws, rfl, hx.ex e2, hT, hf.ex e2, fun v H3 e3 => q v H3 (e2.trans e3)⟩
section
variable {P : Program} {w : World} {K : PySem.W.Frag} {mg : Str → Option Value} {base : Heap}
theorem ok_echo {C f fN fA : Addr} {fd fdN fdA : FuncData} {k : Nat} (F : Fun K "_echo_walk" "_echo_walk" sEcho f fd)
    (FN : Fun K "_near_places" "_near_places" sNear fN fdN) (GN : FnOk P w K mg base CX0 k fN fdN ["web", "colours"] (spNear K C)) (bN : Binds K fdN ["web", "colours"] []) (gN : mg "_near_places" = some (.ref fN))
    (FA : Fun K "_pairs_alike" "_pairs_alike" sAlike fA fdA) (GA : FnOk P w K mg base CX0 k fA fdA ["colours"] (spAlike K)) (bA : Binds K fdA ["colours"] []) (gA : mg "_pairs_alike" = some (.ref fA)) : FnOk P w K mg base CX0 (k + 1) f fd ["web", "colours"] (spEcho K C) := by
  refine F.ok scEcho (fun vs H Q E h => ?_) (fun cdv A outer s H vs Q E hr h => ?_)
  · obtain ⟨x, a, ts, ws, rfl, _⟩ := h
    rfl
  · obtain ⟨x, a, ts, ws, rfl, hx, hT, hf, q⟩ := h
    have nd := scEcho.nd
    refine ⟨_, pss_cons (ps_set (i := 2) nd rfl (.inl rfl) (pe_call GN hr (by rfl) gN FN.kp bN .nil pass0 (pa_cons (pv 0) (pa_cons (pv 1) pa_nil))))
      (pss_cons (ps_set (i := 3) nd rfl (.inl rfl) pe_dnewK)
      (pss_cons (ps_for PassesOwn.never rfl (pi_list (pe_call GA hr (by rfl) gA FA.kp bA .nil pass0 (pa_cons (pv 1) pa_nil))) (pg_name (i := 4) nd rfl (Or.inl rfl)) pss_never)
      (pss_one (ps_ret pe_non)))), ?_⟩
    refine ev_near (Evl.ea_cons (Evl.ev_var rfl) (Evl.ea_cons (Evl.ev_var rfl) Evl.ea_nil)) hx hT hf fun v H1 e1 D hD => ?_
    have e2 : Evl.Ex H (upd H1 D (.dK [])) := e1.trans (Evl.Ex.new hD)
    refine q_forI (n := ([] : List V).length) (ei_listN (K := K) (el_alike (Evl.ea_cons (Evl.ev_var rfl) Evl.ea_nil) (hf.ex e2) (by have := hf.len; have := hT.most; omega))) (aims_at (xs := []) (j := 4)) (Evl.Ex.refl _) (fun H2 i σ' H' => H' = H2) (fun _ _ => rfl) (fun H2 i σ' H' e hi hp => ?_) (fun H2 i σ' H' H'' e hi => absurd hi (Nat.not_lt_zero _)) (fun H2 σ' H' e hp => ?_)
    · rw [hp]
      exact ⟨e, fun _ _ _ h => h⟩
    · rw [hp]
      exact q H2 (e2.trans e)
theorem ok_rep {C f fN fA : Addr} {fd fdN fdA : FuncData} {k : Nat} (F : Fun K "_repeat_way" "_repeat_way" sRep f fd)
    (FN : Fun K "_near_places" "_near_places" sNear fN fdN) (GN : FnOk P w K mg base CX0 k fN fdN ["web", "colours"] (spNear K C)) (bN : Binds K fdN ["web", "colours"] []) (gN : mg "_near_places" = some (.ref fN))
    (FA : Fun K "_pairs_alike" "_pairs_alike" sAlike fA fdA) (GA : FnOk P w K mg base CX0 k fA fdA ["colours"] (spAlike K)) (bA : Binds K fdA ["colours"] []) (gA : mg "_pairs_alike" = some (.ref fA)) : FnOk P w K mg base CX0 (k + 1) f fd ["web", "colours", "most"] (spRep K C) := by
  refine F.ok scRep (fun vs H Q E h => ?_) (fun cdv A outer s H vs Q E hr h => ?_)
  · obtain ⟨x, a, y, ts, ws, rfl, _⟩ := h
    rfl
  · obtain ⟨x, a, y, ts, ws, rfl, hx, hT, hf, q⟩ := h
    have nd := scRep.nd
    refine ⟨_, pss_cons (ps_set (i := 3) nd rfl (.inl rfl) (pe_call GN hr (by rfl) gN FN.kp bN .nil pass0 (pa_cons (pv 0) (pa_cons (pv 1) pa_nil))))
      (pss_cons (ps_for (g := gTup K 2 (gCons (gName 4) (gCons (gName 5) gNil))) PassesOwn.never rfl (pi_list (pe_call GA hr (by rfl) gA FA.kp bA .nil pass0 (pa_cons (pv 1) pa_nil))) (pg_tup (by rfl) (pgs_cons (pg_name (i := 4) nd rfl (Or.inl rfl)) (pgs_cons (pg_name (i := 5) nd rfl (Or.inl rfl)) pgs_nil))) pss_never)
      (pss_one (ps_ret pe_non))), ?_⟩
    refine ev_near (Evl.ea_cons (Evl.ev_var rfl) (Evl.ea_cons (Evl.ev_var rfl) Evl.ea_nil)) hx hT hf fun v H1 e1 => ?_
    refine q_forI (n := ([] : List V).length) (s := fun _ σ => σ) (ei_listN (K := K) (el_alike (Evl.ea_cons (Evl.ev_var rfl) Evl.ea_nil) (hf.ex e1) (by have := hf.len; have := hT.most; omega))) (fun i σ H x H' hi => absurd hi (Nat.not_lt_zero _)) (Evl.Ex.refl _) (fun H2 i σ' H' => H' = H2) (fun _ _ => rfl) (fun H2 i σ' H' e hi hp => ?_) (fun H2 i σ' H' H'' e hi => absurd hi (Nat.not_lt_zero _)) (fun H2 σ' H' e hp => ?_)
    · rw [hp]
      exact ⟨e, fun _ _ _ h => h⟩
    · rw [hp]
      exact q H2 (e1.trans e)
end
end P59
end S_Lp
section S_Lq
namespace P59
open PySem PySem.Spec PyProof.Rows L2 Tl Hk LamX EnL
theorem scJWalks : FnScope ["web", "colours", "walk"] ["web", "colours"] (defScope sJWalks) := ⟨rfl, rfl, rfl, by decide +kernel, rfl, by decide +kernel, by decide +kernel⟩
theorem scSWalks : FnScope ["web", "colours", "value"] ["web", "colours", "value"] (defScope sSWalks) := ⟨rfl, rfl, rfl, by decide +kernel, rfl, by decide +kernel, by decide +kernel⟩
theorem scJWays : FnScope ["web", "colours", "most", "way"] ["web", "colours", "most"] (defScope sJWays) := ⟨rfl, rfl, rfl, by decide +kernel, rfl, by decide +kernel, by decide +kernel⟩
theorem scSWays : FnScope ["web", "colours", "most", "value"] ["web", "colours", "most", "value"] (defScope sSWays) := ⟨rfl, rfl, rfl, by decide +kernel, rfl, by decide +kernel, by decide +kernel⟩
def spJW (K : PySem.W.Frag) (C : Addr) (R : Er) : Sp := fun vs H Q E => ∃ (v x : V) (o : Out), vs = [v, x] ∧ AskR K C H v x 40 o ∧ Rs R H E o ∧ (o = .calm → ∀ u H', Evl.Ex H H' → Q u H')
def spSW (K : PySem.W.Frag) (C : Addr) (R : Er) : Sp := fun vs H Q E => ∃ (v x : V) (o : Out), vs = [v, x, .non] ∧ AskR K C H v x 40 o ∧ Rs R H E o ∧ (o = .calm → ∀ u H', Evl.Ex H H' → Q u H')
def spJY (K : PySem.W.Frag) (C : Addr) (R : Er) : Sp := fun vs H Q E => ∃ (v x y : V) (o : Out), vs = [v, x, y] ∧ AskN K C H v x y o ∧ Rs R H E o ∧ (o = .calm → ∀ u H', Evl.Ex H H' → Q u H')
/-- an instance of the class at C -/
def SndV (C : Addr) (H : Hp) (s : V) : Prop := ∃ z dx fs, s = .ref z ∧ H z = some (.ins C dx fs)
theorem SndV.ex {C : Addr} {H H' : Hp} {s : V} (h : SndV C H s) (e : Evl.Ex H H') : SndV C H' s := by
  obtain ⟨z, dx, fs, h1, h2⟩ := h
  exact ⟨z, dx, fs, h1, e _ _ h2⟩
def spSY (K : PySem.W.Frag) (C CS : Addr) (R : Er) : Sp := fun vs H Q E => ∃ (v x y s : V) (o : Out), vs = [v, x, y, s] ∧ AskN K C H v x y o ∧ SndV CS H s ∧ Rs R H E o ∧ (o = .calm → ∀ u H', Evl.Ex H H' → Q u H')
theorem rc_ins {K : PySem.W.Frag} {C D : Addr} {H : Hp} {s : V} (cl : Cls K C) (I : TIns K C) (kf : PySem.W.kitOne K (.ref C) (.ref D) = some false) (h : SndV C H s) : Evl.RC (rIsi K) [s, .ref D] H (.bl false) := fun H1 e _ q => by
  obtain ⟨z, dx, fs, rfl, h1⟩ := h.ex e
  exact ⟨.ref z, .ref D, .ref C, .ref D, false, rfl, .own D, .base (.ins h1 cl I.ha I.hn I.ht I.hm), kf, q H1 (Evl.Ex.refl H1)⟩
theorem rc_non {K : PySem.W.Frag} {D : Addr} {H : Hp} (N : TKit K D) : Evl.RC (rIsi K) [.non, .ref D] H (.bl false) := fun H1 e _ q => ⟨.non, .ref D, .type "NoneType", .ref D, false, rfl, .own D, .base .non, N _ (by decide), q H1 (Evl.Ex.refl H1)⟩
section
variable {P : Program} {w : World} {K : PySem.W.Frag} {mg : Str → Option Value} {base : Heap}
set_option maxHeartbeats 1000000 in
theorem ok_jWalks {C CS f fW fF fE fS : Addr} {R : Er} {fd fdW fdF fdE fdS : FuncData} {k : Nat} {t40 : Tok} (F : Fun K "judged_walks" "judged_walks" sJWalks f fd)
    (FW : Fun K "_want_web_and_word" "_want_web_and_word" sWantWord fW fdW) (GW : FnOk P w K mg base (L2.CX P w) (k + 1) fW fdW ["web", "colours"] (spWW K C R)) (bW : Binds K fdW ["web", "colours"] []) (gW : mg "_want_web_and_word" = some (.ref fW))
    (FF : Fun K "_want_fit" "_want_fit" sWantFit fF fdF) (GF : FnOk P w K mg base (L2.CX P w) (k + 1) fF fdF ["web", "colours", "most"] (spFit K C R)) (bF : Binds K fdF ["web", "colours", "most"] []) (gF : mg "_want_fit" = some (.ref fF))
    (FE : Fun K "_echo_walk" "_echo_walk" sEcho fE fdE) (GE : FnOk P w K mg base CX0 (k + 1) fE fdE ["web", "colours"] (spEcho K C)) (bE : Binds K fdE ["web", "colours"] []) (gE : mg "_echo_walk" = some (.ref fE))
    (M : Mk K CS fS) (GS : FnOk P w K mg base CX0 k fS fdS ["self"] (spSoundI CS)) (bS : Binds K fdS ["self"] []) (gS : mg "Sound" = some (.ref CS)) (g40 : mg "MOST_FOR_WALKS" = some (.int 40 t40)) : FnOk P w K mg base (L2.CX P w) (k + 2) f fd ["web", "colours"] (spJW K C R) := by
  refine F.okX scJWalks (fun vs H Q E h => ?_) (fun cdv A outer s H vs Q E hr h => ?_)
  · obtain ⟨v, x, o, rfl, _⟩ := h
    rfl
  · obtain ⟨v, x, o, rfl, h, hR, q⟩ := h
    have nd := scJWalks.nd
    refine ⟨_, pss_cons (ps_expr (pe_callS GW hr (by rfl) gW FW.kp bW (fun σ => passAt (takes_of rfl rfl rfl rfl) σ) (pa_cons (pv 0) (pa_cons (pv 1) pa_nil))))
      (pss_cons (ps_expr (pe_callS GF hr (by rfl) gF FF.kp bF (fun σ => passAt (takes_of rfl rfl rfl rfl) σ) (pa_cons (pv 0) (pa_cons (pv 1) (pa_cons (pe_glob (v := .int 40) (by rfl) g40 ⟨_, rfl⟩) pa_nil)))))
      (PSs.nox (pss_cons (ps_set (i := 2) nd rfl (.inl rfl) (pe_call GE hr (by rfl) gE FE.kp bE .nil pass0 (pa_cons (pv 0) (pa_cons (pv 1) pa_nil))))
        (pss_one (ps_ret (pe_ifExp (pt_cmpR op_isN (pv 2) pe_non (nomark _)) (pe_make0 M GS hr (by rfl) gS bS .nil pass0) pe_nv)))))), ?_⟩
    refine callS_go (vs := [v, x]) (Evl.ea_cons (Evl.ev_var rfl) (Evl.ea_cons (Evl.ev_var rfl) Evl.ea_nil)) fun H1 e1 => ?_
    refine ww_of (h.ex e1) (hR.ex e1) fun n1 n2 H2 e2 => ?_
    refine callS_go (vs := [v, x, .int 40]) (Evl.ea_cons (Evl.ev_var rfl) (Evl.ea_cons (Evl.ev_var rfl) (Evl.ea_cons Evl.ev_c Evl.ea_nil))) fun H3 e3 => ?_
    have e13 := (e1.trans e2).trans e3
    refine fit_of (mw := 40) (h.ex e13) n1 n2 (hR.ex e13) fun ho H4 e4 => ?_
    subst ho
    have e14 := e13.trans e4
    have h4 := h.ex e14
    cases h4 with
    | calm hw hx ha hf hT hm =>
    obtain ⟨wb, rfl, hwb⟩ := hw.at
    subst ha
    show tSeq (tAsg (tCall (spEcho K C) [] E0 (tCons (tVar 0) (tCons (tVar 1) tNil))) (gName 2)) _ _ _ _
    refine Evl.q_asg (v := .non) (fun H5 e Q' q' => ⟨.ref wb, rfl, _, rfl, wb, _, _, _, rfl, hwb.ex e, hT, hf.ex e, q'⟩) fun H5 e5 => ?_
    refine ⟨.non, rfl, rfl, true, rfl, ?_⟩
    show _
    refine if_go (fun _ => ?_) (fun z => nomatch z)
    refine fun c dx hc hd ne => ⟨c, dx, rfl, upd_same, fun H' fs hk hx => ⟨rfl, ?_⟩⟩
    refine q rfl _ H' (fun b o ho => ?_)
    have h2 := e5 _ _ (e14 _ _ ho)
    have nc : b ≠ c := ne_of_none h2 hc
    exact hk b o nc (by rw [upd_ne nc, upd_ne (ne_of_none h2 hd)]; exact h2)
theorem ok_sWalks {C CS CE f fW fF : Addr} {R : Er} {fd fdW fdF : FuncData} {k : Nat} {t40 : Tok} (F : Fun K "shows_walks" "shows_walks" sSWalks f fd)
    (FW : Fun K "_want_web_and_word" "_want_web_and_word" sWantWord fW fdW) (GW : FnOk P w K mg base (L2.CX P w) (k + 1) fW fdW ["web", "colours"] (spWW K C R)) (bW : Binds K fdW ["web", "colours"] []) (gW : mg "_want_web_and_word" = some (.ref fW))
    (FF : Fun K "_want_fit" "_want_fit" sWantFit fF fdF) (GF : FnOk P w K mg base (L2.CX P w) (k + 1) fF fdF ["web", "colours", "most"] (spFit K C R)) (bF : Binds K fdF ["web", "colours", "most"] []) (gF : mg "_want_fit" = some (.ref fF))
    (NE : TKit K CE) (gE : mg "Echo" = some (.ref CE)) (NS : TKit K CS) (gS : mg "Sound" = some (.ref CS)) (mi : mg "isinstance" = none) (g40 : mg "MOST_FOR_WALKS" = some (.int 40 t40)) : FnOk P w K mg base (L2.CX P w) (k + 2) f fd ["web", "colours", "value"] (spSW K C R) := by
  refine F.okX scSWalks (fun vs H Q E h => ?_) (fun cdv A outer s H vs Q E hr h => ?_)
  · obtain ⟨v, x, o, rfl, _⟩ := h
    rfl
  · obtain ⟨v, x, o, rfl, h, hR, q⟩ := h
    have nd := scSWalks.nd
    refine ⟨_, pss_cons (ps_expr (pe_callS GW hr (by rfl) gW FW.kp bW (fun σ => passAt (takes_of rfl rfl rfl rfl) σ) (pa_cons (pv 0) (pa_cons (pv 1) pa_nil))))
      (pss_cons (ps_expr (pe_callS GF hr (by rfl) gF FF.kp bF (fun σ => passAt (takes_of rfl rfl rfl rfl) σ) (pa_cons (pv 0) (pa_cons (pv 1) (pa_cons (pe_glob (v := .int 40) (by rfl) g40 ⟨_, rfl⟩) pa_nil)))))
      (pss_cons (ps_if (pt_val (pe_callB call_isi (by rfl) mi (by decide +kernel) (pa_cons (pv 2) (pa_cons (pe_glob (v := .ref CE) (by rfl) gE rfl) pa_nil)))) pss_never pss_nil)
      (pss_one (ps_ret (pe_and (pe_callB call_isi (by rfl) mi (by decide +kernel) (pa_cons (pv 2) (pa_cons (pe_glob (v := .ref CS) (by rfl) gS rfl) pa_nil))) (pe_one pe_nv)))))), ?_⟩
    refine callS_go (vs := [v, x]) (Evl.ea_cons (Evl.ev_var rfl) (Evl.ea_cons (Evl.ev_var rfl) Evl.ea_nil)) fun H1 e1 => ?_
    refine ww_of (h.ex e1) (hR.ex e1) fun n1 n2 H2 e2 => ?_
    refine callS_go (vs := [v, x, .int 40]) (Evl.ea_cons (Evl.ev_var rfl) (Evl.ea_cons (Evl.ev_var rfl) (Evl.ea_cons Evl.ev_c Evl.ea_nil))) fun H3 e3 => ?_
    have e13 := (e1.trans e2).trans e3
    refine fit_of (mw := 40) (h.ex e13) n1 n2 (hR.ex e13) fun ho H4 e4 => ?_
    refine Evl.q_when (b := false) (Evl.et_B (Evl.ev_cb (Evl.ea_cons (Evl.ev_var rfl) (Evl.ea_cons Evl.ev_c Evl.ea_nil)) (rc_non NE))) (fun z => nomatch z) fun _ H5 e5 => ?_
    exact Evl.s_ret (Evl.ev_andV (b := false) (Evl.ev_cb (Evl.ea_cons (Evl.ev_var rfl) (Evl.ea_cons Evl.ev_c Evl.ea_nil)) (rc_non NS)) fun z => nomatch z) fun H6 e6 => q ho _ H6 ((e13.trans e4).trans (e5.trans e6))
theorem ok_jWays {C CS f fW fE fS : Addr} {R : Er} {fd fdW fdE fdS : FuncData} {k : Nat} (F : Fun K "judged_ways" "judged_ways" sJWays f fd)
    (FW : Fun K "_want_ways" "_want_ways" sWantWays fW fdW) (GW : FnOk P w K mg base (L2.CX P w) (k + 1) fW fdW ["web", "colours", "most"] (spWays K C R)) (bW : Binds K fdW ["web", "colours", "most"] []) (gW : mg "_want_ways" = some (.ref fW))
    (FE : Fun K "_repeat_way" "_repeat_way" sRep fE fdE) (GE : FnOk P w K mg base CX0 (k + 1) fE fdE ["web", "colours", "most"] (spRep K C)) (bE : Binds K fdE ["web", "colours", "most"] []) (gE : mg "_repeat_way" = some (.ref fE))
    (M : Mk K CS fS) (GS : FnOk P w K mg base CX0 k fS fdS ["self", "most"] (spFreeI CS)) (bS : Binds K fdS ["self", "most"] []) (gS : mg "Free" = some (.ref CS)) : FnOk P w K mg base (L2.CX P w) (k + 2) f fd ["web", "colours", "most"] (spJY K C R) := by
  refine F.okX scJWays (fun vs H Q E h => ?_) (fun cdv A outer s H vs Q E hr h => ?_)
  · obtain ⟨v, x, y, o, rfl, _⟩ := h
    rfl
  · obtain ⟨v, x, y, o, rfl, h, hR, q⟩ := h
    have nd := scJWays.nd
    refine ⟨_, pss_cons (ps_expr (pe_callS GW hr (by rfl) gW FW.kp bW (fun σ => passAt (takes_of rfl rfl rfl rfl) σ) (pa_cons (pv 0) (pa_cons (pv 1) (pa_cons (pv 2) pa_nil)))))
      (PSs.nox (pss_cons (ps_set (i := 3) nd rfl (.inl rfl) (pe_call GE hr (by rfl) gE FE.kp bE .nil pass0 (pa_cons (pv 0) (pa_cons (pv 1) (pa_cons (pv 2) pa_nil)))))
        (pss_one (ps_ret (pe_ifExp (pt_cmpR op_isN (pv 3) pe_non (nomark _)) (pe_make M GS hr (by rfl) gS bS .nil pass0 (pa_cons (pv 2) pa_nil)) pe_nv))))), ?_⟩
    refine callS_go (vs := [v, x, y]) (Evl.ea_cons (Evl.ev_var rfl) (Evl.ea_cons (Evl.ev_var rfl) (Evl.ea_cons (Evl.ev_var rfl) Evl.ea_nil))) fun H1 e1 => ?_
    refine ⟨v, x, y, o, rfl, h.ex e1, hR.ex e1, fun ho H4 e4 => ?_⟩
    subst ho
    have e14 := e1.trans e4
    have h4 := h.ex e14
    cases h4 with
    | @past _ m h5 hn hy m1 m4 =>
    cases h5 with
    | calm hw hx ha hf hT hm =>
    obtain ⟨wb, rfl, hwb⟩ := hw.at
    subst ha
    subst hy
    show tSeq (tAsg (tCall (spRep K C) [] E0 (tCons (tVar 0) (tCons (tVar 1) (tCons (tVar 2) tNil)))) (gName 3)) _ _ _ _
    refine Evl.q_asg (v := .non) (fun H5 e Q' q' => ⟨.ref wb, rfl, _, rfl, _, rfl, wb, _, _, _, _, rfl, hwb.ex e, hT, hf.ex e, q'⟩) fun H5 e5 => ?_
    refine ⟨.non, rfl, rfl, true, rfl, ?_⟩
    show _
    refine if_go (fun _ => ?_) (fun z => nomatch z)
    refine ⟨_, rfl, fun c dx hc hd ne => ⟨c, dx, _, rfl, upd_same, fun H' fs hk hx => ⟨rfl, ?_⟩⟩⟩
    refine q rfl _ H' (fun b o ho => ?_)
    have h2 := e5 _ _ (e14 _ _ ho)
    have nc : b ≠ c := ne_of_none h2 hc
    exact hk b o nc (by rw [upd_ne nc, upd_ne (ne_of_none h2 hd)]; exact h2)
theorem ok_sWays {C CS CR CF f fW : Addr} {R : Er} {fd fdW : FuncData} {k : Nat} (F : Fun K "shows_ways" "shows_ways" sSWays f fd)
    (FW : Fun K "_want_ways" "_want_ways" sWantWays fW fdW) (GW : FnOk P w K mg base (L2.CX P w) (k + 1) fW fdW ["web", "colours", "most"] (spWays K C R)) (bW : Binds K fdW ["web", "colours", "most"] []) (gW : mg "_want_ways" = some (.ref fW))
    (cl : Cls K CS) (I : TIns K CS) (kR : PySem.W.kitOne K (.ref CS) (.ref CR) = some false) (kF : PySem.W.kitOne K (.ref CS) (.ref CF) = some false) (gR : mg "Repeat" = some (.ref CR)) (gF : mg "Free" = some (.ref CF)) (mi : mg "isinstance" = none) :
    FnOk P w K mg base (L2.CX P w) (k + 2) f fd ["web", "colours", "most", "value"] (spSY K C CS R) := by
  refine F.okX scSWays (fun vs H Q E h => ?_) (fun cdv A outer s H vs Q E hr h => ?_)
  · obtain ⟨v, x, y, s, o, rfl, _⟩ := h
    rfl
  · obtain ⟨v, x, y, s, o, rfl, h, hs, hR, q⟩ := h
    have nd := scSWays.nd
    refine ⟨_, pss_cons (ps_expr (pe_callS GW hr (by rfl) gW FW.kp bW (fun σ => passAt (takes_of rfl rfl rfl rfl) σ) (pa_cons (pv 0) (pa_cons (pv 1) (pa_cons (pv 2) pa_nil)))))
      (pss_cons (ps_if (pt_val (pe_callB call_isi (by rfl) mi (by decide +kernel) (pa_cons (pv 3) (pa_cons (pe_glob (v := .ref CR) (by rfl) gR rfl) pa_nil)))) pss_never pss_nil)
      (pss_one (ps_ret (pe_and (pe_callB call_isi (by rfl) mi (by decide +kernel) (pa_cons (pv 3) (pa_cons (pe_glob (v := .ref CF) (by rfl) gF rfl) pa_nil))) pe_nv)))), ?_⟩
    refine callS_go (vs := [v, x, y]) (Evl.ea_cons (Evl.ev_var rfl) (Evl.ea_cons (Evl.ev_var rfl) (Evl.ea_cons (Evl.ev_var rfl) Evl.ea_nil))) fun H1 e1 => ?_
    refine ⟨v, x, y, o, rfl, h.ex e1, hR.ex e1, fun ho H4 e4 => ?_⟩
    have hs4 := hs.ex (e1.trans e4)
    refine Evl.q_when (b := false) (Evl.et_B (Evl.ev_cb (Evl.ea_cons (Evl.ev_var rfl) (Evl.ea_cons Evl.ev_c Evl.ea_nil)) (rc_ins cl I kR hs4))) (fun z => nomatch z) fun _ H5 e5 => ?_
    exact Evl.s_ret (Evl.ev_andV (b := false) (Evl.ev_cb (Evl.ea_cons (Evl.ev_var rfl) (Evl.ea_cons Evl.ev_c Evl.ea_nil)) (rc_ins cl I kF (hs4.ex e5))) fun z => nomatch z) fun H6 e6 => q ho _ H6 ((e1.trans e4).trans (e5.trans e6))
end
end P59
end S_Lq
section S_Lr
namespace P59
open PySem PySem.Spec PyProof.Rows L2 Tl Hk LamX EnL
theorem scHeard : FnScope nAsk ["ask"] (defScope sHeard) := ⟨rfl, rfl, rfl, by decide +kernel, rfl, by decide +kernel, by decide +kernel⟩
abbrev isA (K : PySem.W.Frag) (C : Addr) : TE := tCB (fun xs H Q => rIsi K xs H Q ∨ rIsK K xs H Q) (tCons (tVar 1) (tCons (tC (.ref C)) tNil))
abbrev pairT (K : PySem.W.Frag) (nm : Str) : TE := tTup (tCons (tC (.str nm)) (tCons (tKeptF K "part" (tVar 1)) tNil))
abbrev trH (K : PySem.W.Frag) (R : Er) : TS := tSeq (tIfS (tB (isA K R.cw)) (tRet (pairT K "web")) tNext)
  (tSeq (tIfS (tB (isA K R.cc)) (tRet (pairT K "colours")) tNext)
  (tSeq (tIfS (tB (isA K R.cb)) (tRet (pairT K "number")) tNext)
  (tSeq (tIfS (tB (isA K R.cf)) (tRet (pairT K "misfit")) tNext)
    (tRet (tIf (tB (isA K R.cm)) (tTup (tCons (tC (.str "many")) (tCons (tKeptF K "what" (tVar 1)) (tCons (tKeptF K "most" (tVar 1)) tNil)))) (tVar 1))))))
/-- what is known of the error classes -/
structure TE59 (K : PySem.W.Frag) (mg : Str → Option Value) (R : Er) (CS : Addr) : Prop where
  gw : mg "BadWeb" = some (.ref R.cw)
  gc : mg "BadColours" = some (.ref R.cc)
  gb : mg "BadNumber" = some (.ref R.cb)
  gf : mg "Misfit" = some (.ref R.cf)
  gm : mg "TooMany" = some (.ref R.cm)
  gS : mg "LaneError" = some (.ref CS)
  ew : ErrC K R.cw
  ec : ErrC K R.cc
  eb : ErrC K R.cb
  ef : ErrC K R.cf
  em : ErrC K R.cm
  nw : PySem.W.findIn K (.ref R.cw) "part" = some none
  nc : PySem.W.findIn K (.ref R.cc) "part" = some none
  nb : PySem.W.findIn K (.ref R.cb) "part" = some none
  nf : PySem.W.findIn K (.ref R.cf) "part" = some none
  n1 : PySem.W.findIn K (.ref R.cm) "what" = some none
  n2 : PySem.W.findIn K (.ref R.cm) "most" = some none
  xw : PySem.W.exmOne K (.ref R.cw) (.ref CS) = some true
  xc : PySem.W.exmOne K (.ref R.cc) (.ref CS) = some true
  xb : PySem.W.exmOne K (.ref R.cb) (.ref CS) = some true
  xf : PySem.W.exmOne K (.ref R.cf) (.ref CS) = some true
  xm : PySem.W.exmOne K (.ref R.cm) (.ref CS) = some true
  kww : PySem.W.kitOne K (.ref R.cw) (.ref R.cw) = some true
  kcw : PySem.W.kitOne K (.ref R.cc) (.ref R.cw) = some false
  kcc : PySem.W.kitOne K (.ref R.cc) (.ref R.cc) = some true
  kbw : PySem.W.kitOne K (.ref R.cb) (.ref R.cw) = some false
  kbc : PySem.W.kitOne K (.ref R.cb) (.ref R.cc) = some false
  kbb : PySem.W.kitOne K (.ref R.cb) (.ref R.cb) = some true
  kfw : PySem.W.kitOne K (.ref R.cf) (.ref R.cw) = some false
  kfc : PySem.W.kitOne K (.ref R.cf) (.ref R.cc) = some false
  kfb : PySem.W.kitOne K (.ref R.cf) (.ref R.cb) = some false
  kff : PySem.W.kitOne K (.ref R.cf) (.ref R.cf) = some true
  kmw : PySem.W.kitOne K (.ref R.cm) (.ref R.cw) = some false
  kmc : PySem.W.kitOne K (.ref R.cm) (.ref R.cc) = some false
  kmb : PySem.W.kitOne K (.ref R.cm) (.ref R.cb) = some false
  kmf : PySem.W.kitOne K (.ref R.cm) (.ref R.cf) = some false
  kmm : PySem.W.kitOne K (.ref R.cm) (.ref R.cm) = some true
  kNw : PySem.W.kitOne K (.type "NoneType") (.ref R.cw) = some false
  kNc : PySem.W.kitOne K (.type "NoneType") (.ref R.cc) = some false
  kNb : PySem.W.kitOne K (.type "NoneType") (.ref R.cb) = some false
  kNf : PySem.W.kitOne K (.type "NoneType") (.ref R.cf) = some false
  kNm : PySem.W.kitOne K (.type "NoneType") (.ref R.cm) = some false
theorem gives_heard {X : Cx} {fH CS : Addr} {R : Er} {cdv : Value} {q : Str} (mi : X.mg "isinstance" = none) (E : TE59 X.K X.mg R CS) :
    GivesTo X nAsk "_law_heard" (defScope sHeard) fH cdv (defBody sHeard) "ask" q (THeardS X.K CS (trH X.K R)) := by
  refine heard_givesS (e := "LaneError") scHeard (by rfl) (by rfl) (by rfl) E.gS (by decide) fun A s H => ?_
  have v1 : ∀ {p : Pos}, PE (cxA X "_law_heard" (defScope sHeard) fH cdv A s H) (.Name "caught" p) (tVar 1) := pe_var (i := 1) rfl (Or.inl (by rfl))
  have is : ∀ {x : Str} {C : Addr} {p1 p2 p3 p4 : Pos}, X.mg x = some (.ref C) → (defScope sHeard).names.lookup x = some .globalImplicit → (x == ("__debug__" : Str)) = false → PE (cxA X "_law_heard" (defScope sHeard) fH cdv A s H) (.Call (.Name "isinstance" p1) [.Name "caught" p2, .Name x p3] [] p4) (isA X.K C) := fun {x C p1 p2 p3 p4} h1 h2 h3 =>
    pe_callB call_isAny (by rfl) mi (by decide +kernel) (pa_cons v1 (pa_cons (pe_glob (v := .ref C) h2 h1 rfl h3) pa_nil))
  exact pss_cons (ps_if (pt_val (is E.gw (by rfl) (by decide))) (pss_one (ps_ret (pe_tup (pa_cons pe_str (pa_cons (pe_keptF v1) pa_nil))))) pss_nil)
    (pss_cons (ps_if (pt_val (is E.gc (by rfl) (by decide))) (pss_one (ps_ret (pe_tup (pa_cons pe_str (pa_cons (pe_keptF v1) pa_nil))))) pss_nil)
    (pss_cons (ps_if (pt_val (is E.gb (by rfl) (by decide))) (pss_one (ps_ret (pe_tup (pa_cons pe_str (pa_cons (pe_keptF v1) pa_nil))))) pss_nil)
    (pss_cons (ps_if (pt_val (is E.gf (by rfl) (by decide))) (pss_one (ps_ret (pe_tup (pa_cons pe_str (pa_cons (pe_keptF v1) pa_nil))))) pss_nil)
    (pss_one (ps_ret (pe_ifExp (pt_val (is E.gm (by rfl) (by decide))) (pe_tup (pa_cons pe_str (pa_cons (pe_keptF v1) (pa_cons (pe_keptF v1) pa_nil)))) v1))))))
section
variable {K : PySem.W.Frag} {mg : Str → Option Value} {R : Er} {CS : Addr}
theorem DictAt.go {H H' : Hp} {d : Option Addr} {fs : List (Str × V)} (h : DictAt H d fs) (e : Evl.Ex H H') : DictAt H' d fs := h.imp fun x ⟨y, z⟩ => ⟨y, e _ _ z⟩
/-- an error at a -/
structure ErrH (K : PySem.W.Frag) (D : Addr) (fs : List (Str × V)) (G : Hp) (σ : L2.St) (a d : Addr) : Prop where
  at_ : G a = some (ErrAt (.ref D) (some d) a)
  fs_ : DictAt G (some d) fs
  cls : ErrC K D
  var : σ[1]? = some (some (.ref a))
theorem ErrH.go {D : Addr} {fs : List (Str × V)} {G G' : Hp} {σ : L2.St} {a d : Addr} (h : ErrH K D fs G σ a d) (e : Evl.Ex G G') : ErrH K D fs G' σ a d := ⟨e _ _ h.at_, DictAt.go h.fs_ e, h.cls, h.var⟩
theorem h_no {D C : Addr} {fs : List (Str × V)} {G : Hp} {σ : L2.St} {a d : Addr} {x : TS} {rest : TS} {D' : Ends} (h : ErrH K D fs G σ a d) (k : PySem.W.kitOne K (.ref D) (.ref C) = some false) (next : ∀ G', Evl.Ex G G' → ErrH K D fs G' σ a d → rest D' σ G') : tSeq (tIfS (tB (isA K C)) x tNext) rest D' σ G :=
  Evl.q_when (b := false) (Evl.et_B (ev_isK h.var h.at_ h.fs_ h.cls k)) (fun z => nomatch z) fun _ G' e => next G' e (h.go e)
theorem h_yes {D : Addr} {nm s : Str} {G : Hp} {σ : L2.St} {a d : Addr} {rest : TS} {D' : Ends} (h : ErrH K D [(("part" : Str), .str s)] G σ a d) (k : PySem.W.kitOne K (.ref D) (.ref D) = some true) (n : PySem.W.findIn K (.ref D) "part" = some none)
    (q : ∀ p G', G p = none → Evl.Ex G G' → G' p = some (.tup [.str nm, .str s]) → D'.rt (.ref p) G') : tSeq (tIfS (tB (isA K D)) (tRet (pairT K nm)) tNext) rest D' σ G := by
  refine Evl.q_when (b := true) (Evl.et_B (ev_isK h.var h.at_ h.fs_ h.cls k)) (fun _ H1 e1 => ?_) fun z => nomatch z
  have h1 := h.go e1
  refine Evl.s_retU (Evl.eu_tup (Evl.ea_cons Evl.ev_c (Evl.ea_cons (ev_keptF h1.var h1.at_ h1.fs_ h1.cls n (by simp [List.lookup])) Evl.ea_nil)) (by show 2 ≤ 100000; decide)) fun p H2 hp e2 h2 => q p H2 (Evl.fresh_back e1 hp) (e1.trans e2) h2
theorem look_what (x y : V) : ([(("most" : Str), x), (("what" : Str), y)] : List (Str × V)).lookup ("what" : Str) = some y := by
  simp [List.lookup]
  rw [show (Str.ofString "what" == Str.ofString "most") = false by decide +kernel]
theorem rd_w (E : TE59 K mg R CS) {s : Str} {G : Hp} {a d : Addr} {σ : L2.St} {D' : Ends} (h : ErrH K R.cw [(("part" : Str), .str s)] G σ a d) (q : ∀ p G', G p = none → Evl.Ex G G' → G' p = some (.tup [.str "web", .str s]) → D'.rt (.ref p) G') : trH K R D' σ G :=
  h_yes h E.kww E.nw q
theorem rd_c (E : TE59 K mg R CS) {s : Str} {G : Hp} {a d : Addr} {σ : L2.St} {D' : Ends} (h : ErrH K R.cc [(("part" : Str), .str s)] G σ a d) (q : ∀ p G', G p = none → Evl.Ex G G' → G' p = some (.tup [.str "colours", .str s]) → D'.rt (.ref p) G') : trH K R D' σ G :=
  h_no h E.kcw fun G1 e1 h1 => h_yes h1 E.kcc E.nc fun p G' hp e => q p G' (Evl.fresh_back e1 hp) (e1.trans e)
theorem rd_b (E : TE59 K mg R CS) {s : Str} {G : Hp} {a d : Addr} {σ : L2.St} {D' : Ends} (h : ErrH K R.cb [(("part" : Str), .str s)] G σ a d) (q : ∀ p G', G p = none → Evl.Ex G G' → G' p = some (.tup [.str "number", .str s]) → D'.rt (.ref p) G') : trH K R D' σ G :=
  h_no h E.kbw fun G1 e1 h1 => h_no h1 E.kbc fun G2 e2 h2 => h_yes h2 E.kbb E.nb fun p G' hp e => q p G' (Evl.fresh_back (e1.trans e2) hp) ((e1.trans e2).trans e)
theorem rd_f (E : TE59 K mg R CS) {s : Str} {G : Hp} {a d : Addr} {σ : L2.St} {D' : Ends} (h : ErrH K R.cf [(("part" : Str), .str s)] G σ a d) (q : ∀ p G', G p = none → Evl.Ex G G' → G' p = some (.tup [.str "misfit", .str s]) → D'.rt (.ref p) G') : trH K R D' σ G :=
  h_no h E.kfw fun G1 e1 h1 => h_no h1 E.kfc fun G2 e2 h2 => h_no h2 E.kfb fun G3 e3 h3 => h_yes h3 E.kff E.nf fun p G' hp e => q p G' (Evl.fresh_back ((e1.trans e2).trans e3) hp) (((e1.trans e2).trans e3).trans e)
theorem rd_m (E : TE59 K mg R CS) {m : Nat} {G : Hp} {a d : Addr} {σ : L2.St} {D' : Ends} (h : ErrH K R.cm [(("most" : Str), .int (m : Int)), (("what" : Str), .str "places")] G σ a d) (q : ∀ p G', G p = none → Evl.Ex G G' → G' p = some (.tup [.str "many", .str "places", .int (m : Int)]) → D'.rt (.ref p) G') : trH K R D' σ G :=
  h_no h E.kmw fun G1 e1 h1 => h_no h1 E.kmc fun G2 e2 h2 => h_no h2 E.kmb fun G3 e3 h3 => h_no h3 E.kmf fun G4 e4 h4 => by
    have e14 := ((e1.trans e2).trans e3).trans e4
    refine (Evl.et_B (ev_isK h4.var h4.at_ h4.fs_ h4.cls E.kmm)) G4 (Evl.Ex.refl G4) _ fun G5 e5 => if_go (fun _ => ?_) (fun z => nomatch z)
    have h5 := h4.go e5
    exact Evl.eu_tup (Evl.ea_cons Evl.ev_c (Evl.ea_cons (ev_keptF h5.var h5.at_ h5.fs_ h5.cls E.n1 (look_what _ _)) (Evl.ea_cons (ev_keptF h5.var h5.at_ h5.fs_ h5.cls E.n2 (by simp [List.lookup])) Evl.ea_nil))) (by show 3 ≤ 100000; decide) G5 (Evl.Ex.refl G5) _ fun p G6 hp e6 h6 => q p G6 (Evl.fresh_back (e14.trans e5) hp) ((e14.trans e5).trans e6) h6
theorem rd_N (E : TE59 K mg R CS) {G : Hp} {f : Addr} {D' : Ends} (k : ∀ G', Evl.Ex G G' → D'.rt .non G') : trH K R D' [some (.ref f), some .non, none] G := by
  refine Evl.q_when (b := false) (Evl.et_B (ev_isNone rfl E.kNw)) (fun z => nomatch z) fun _ H1 e1 => ?_
  refine Evl.q_when (b := false) (Evl.et_B (ev_isNone rfl E.kNc)) (fun z => nomatch z) fun _ H2 e2 => ?_
  refine Evl.q_when (b := false) (Evl.et_B (ev_isNone rfl E.kNb)) (fun z => nomatch z) fun _ H3 e3 => ?_
  refine Evl.q_when (b := false) (Evl.et_B (ev_isNone rfl E.kNf)) (fun z => nomatch z) fun _ H4 e4 => ?_
  refine (Evl.et_B (ev_isNone rfl E.kNm)) H4 (Evl.Ex.refl H4) _ fun H5 e5 => if_go (fun z => nomatch z) fun _ => ?_
  exact ⟨.non, rfl, k H5 ((((e1.trans e2).trans e3).trans e4).trans e5)⟩
end
end P59
end S_Lr
section S_Wq
namespace Hk
open PySem PySem.Spec PyProof.Rows L2 Tl
theorem asc_eq : ∀ {xs ys : List Int}, xs.Pairwise (· < ·) → ys.Pairwise (· < ·) → (∀ k, k ∈ xs ↔ k ∈ ys) → xs = ys
  | [], [], _, _, _ => rfl
  | [], y :: r, _, _, h => by have := (h y).mpr List.mem_cons_self; cases this
  | x :: r, [], _, _, h => by have := (h x).mp List.mem_cons_self; cases this
  | x :: r, y :: s, h1, h2, h => by
    obtain ⟨a1, a2⟩ := List.pairwise_cons.mp h1
    obtain ⟨b1, b2⟩ := List.pairwise_cons.mp h2
    have e : x = y := by
      rcases List.mem_cons.mp ((h x).mp List.mem_cons_self) with z | z
      · exact z
      · rcases List.mem_cons.mp ((h y).mpr List.mem_cons_self) with u | u
        · exact u.symm
        · have := a1 y u
          have := b1 x z
          omega
    subst e
    rw [asc_eq a2 b2 fun k => ?_]
    constructor
    · intro hk
      rcases List.mem_cons.mp ((h k).mp (List.mem_cons_of_mem _ hk)) with z | z
      · have := a1 k hk; omega
      · exact z
    · intro hk
      rcases List.mem_cons.mp ((h k).mpr (List.mem_cons_of_mem _ hk)) with z | z
      · have := b1 k hk; omega
      · exact z
theorem in_ints (x : Int) (ns : List Int) : inV (.int x) (ns.map V.int) = decide (x ∈ ns) := by
  unfold inV
  induction ns with
  | nil => rfl
  | cons a r ih =>
    rw [List.map_cons, List.any_cons, ih]
    have e : eqV (.int a) (.int x) = decide (x = a) := by
      show decide (a = x) = decide (x = a)
      exact decide_eq_decide.mpr eq_comm
    rw [e, ← Bool.decide_or]
    exact decide_eq_decide.mpr List.mem_cons.symm
theorem flat_ints (ns : List Int) : (ns.map V.int).all flatV = true := by
  rw [List.all_eq_true]
  intro v hv
  obtain ⟨i, _, rfl⟩ := List.mem_map.mp hv
  rfl
section
open Evl
variable {K : PySem.W.Frag} {σ : L2.St} {H : Hp} {ta tb te : TE}
theorem el_from1 {tl : TO} {a : Addr} {xs : List V} (h : Ev te σ H (.ref a)) (h2 : EvO tl σ H (some (1 : Int))) (hs : SqL K H a xs) : EvL (tSl (rSlL K) te tl tNoPart) σ H (xs.drop 1) := by
  rw [← cutFrom]
  exact el_sl h h2 eo_none hs
theorem el_sortedSet {w : World} {ns : List Int} (h : EvL ta σ H (ns.map V.int)) (hp : ns.Pairwise (· < ·)) (hl : ns.length < 60) : EvL (tCB (rSortedSet w) (tCons (tCB (rSetL K w) (tCons ta tNil)) tNil)) σ H (ns.map V.int) := fun H1 e Q q =>
  h H1 e _ fun l H2 hl' e2 h2 => ⟨l, ns, rfl, sq_of h2, by omega, fun p c hp' hc => ⟨p, _, c, rfl, upd_same, by omega, fun ms r hpw hmem hlen hr => by
    obtain rfl : ms = ns := asc_eq hpw hp fun k => (hmem k).trans decide_eq_true_iff
    exact q r _ (fresh_back (e2.trans (Ex.new hp')) hr) ((e2.trans (Ex.new hp')).trans (Ex.new hr)) upd_same⟩⟩
theorem ev_notIn {x : Int} {ns : List Int} (h : Ev ta σ H (.int x)) (h2 : EvL tb σ H (ns.map V.int)) : Ev (tOp (rIn K true) ta tb) σ H (.bl !decide (x ∈ ns)) := fun H1 e Q q =>
  h H1 e _ fun H2 e2 => h2 H2 (e.trans e2) _ fun p H3 hp e3 h3 => ⟨p, _, rfl, .inl (sq_of h3), rfl, flat_ints ns, by
    show Q (.bl !inV (.int x) (ns.map V.int)) H3
    rw [in_ints]
    exact q H3 (e2.trans e3)⟩
end
section
open Evl
variable {K : PySem.W.Frag} {σ : L2.St} {H : Hp} {ta tb : TE}
/-- a new list of ints is the sorted set of the same -/
theorem ev_eqSS {w : World} {ns : List Int} (h : EvL ta σ H (ns.map V.int)) (h2 : EvL tb σ H (ns.map V.int)) (hl : ns.length < 60) : Ev (tOp (rEqD K) ta (tCB (rSortedSet w) (tCons (tCB (rSetL K w) (tCons tb tNil)) tNil))) σ H (.bl (pd (ns.Pairwise (· < ·)))) := fun H1 e Q q =>
  h H1 e _ fun l1 H2 hl1 e2 hh1 => h2 H2 (e.trans e2) _ fun l H3 hl' e3 hh2 => ⟨l, ns, rfl, sq_of hh2, by omega, fun p c hp' hc => ⟨p, _, c, rfl, upd_same, by omega, fun ms r hpw hmem hlen hr => by
    have e4 : Ex H3 (upd (upd H3 p _) r (.lst (ms.map V.int))) := (Ex.new hp').trans (Ex.new hr)
    refine ⟨.list (zD ns), .list (zD ms), .lst (sq_of (e4 _ _ (e3 _ _ hh1))) (dp_zD ns), .lst (sq_of upd_same) (dp_zD ms), PySem.W.ke_shaped_ints ns, PySem.W.ke_shaped_ints ms, ?_⟩
    rw [eqv_zD]
    have hm : ∀ k, k ∈ ms ↔ k ∈ ns := fun k => (hmem k).trans decide_eq_true_iff
    have hp : decide (ns = ms) = pd (ns.Pairwise (· < ·)) := by
      by_cases z : ns.Pairwise (· < ·)
      · rw [pd_true z, decide_eq_true (asc_eq z hpw fun k => (hm k).symm)]
      · rw [pd_false z, decide_eq_false (fun y : ns = ms => z (by rw [y]; exact hpw))]
    rw [hp]
    exact q _ ((e2.trans e3).trans e4)⟩⟩
end
end Hk
end S_Wq
section S_Wr
namespace Hk
open PySem PySem.Spec PyProof.Rows L2 Tl
theorem refs_of {H : Hp} : ∀ {xs : List V} {P : Nat → Addr → Hp → Prop}, (∀ i v, xs[i]? = some v → ∃ r, v = .ref r ∧ P i r H) → ∃ rs : List Addr, xs = rs.map V.ref ∧ rs.length = xs.length ∧ ∀ i r, rs[i]? = some r → P i r H
  | [], P, hx => ⟨[], rfl, rfl, fun i r z => by simp at z⟩
  | v :: r, P, hx => by
    obtain ⟨a, rfl, ha⟩ := hx 0 v rfl
    obtain ⟨rs, h1, h2, h3⟩ := refs_of (xs := r) (P := fun i => P (i + 1)) fun i u hu => hx (i + 1) u (by simpa using hu)
    refine ⟨a :: rs, by rw [h1, List.map_cons], by rw [List.length_cons, List.length_cons, h2], fun i u hu => ?_⟩
    cases i with
    | zero => cases hu; exact ha
    | succ i => exact h3 i u (by simpa using hu)
theorem holds_refs {P : Nat → Addr → Hp → Prop} {n : Nat} {xs : List V} {H : Hp} (h : Holds (fun i v H => ∃ r, v = .ref r ∧ P i r H) n xs H) : ∃ rs : List Addr, xs = rs.map V.ref ∧ rs.length = n ∧ ∀ i r, rs[i]? = some r → P i r H := by
  obtain ⟨hl, hx⟩ := h
  subst hl
  exact refs_of hx
theorem eu_tupL {K : PySem.W.Frag} {σ : L2.St} {H : Hp} {ta : TE} {xs : List V} (h : Evl.EvL ta σ H xs) : Evl.EvU (tCB (fun xs H Q => ∃ p ys, xs = [V.ref p] ∧ ((SqL K H p ys ∧ ∀ l, H l = none → Q (V.ref l) (upd H l (HO.tup ys))) ∨ (SqT K H p ys ∧ Q (V.ref p) H))) (tCons ta tNil)) σ H xs := fun H1 e Q q =>
  h H1 e _ fun p H2 hp e2 h2 => ⟨p, xs, rfl, .inl ⟨Evl.sq_of h2, fun t ht => q t _ (Evl.fresh_back e2 ht) (e2.trans (Evl.Ex.new ht)) upd_same⟩⟩
theorem sum_le {ps : List Str} {m : Nat} (h : ∀ s ∈ ps, s.length ≤ m) : (ps.map (·.length)).sum ≤ m * ps.length := by
  induction ps with
  | nil => simp
  | cons a r ih =>
    have := h a List.mem_cons_self
    have := ih fun s hs => h s (List.mem_cons_of_mem _ hs)
    rw [List.map_cons, List.sum_cons, List.length_cons, Nat.mul_add, Nat.mul_one]
    omega
end Hk
namespace Hk
open PySem PySem.Spec PyProof.Rows L2 Tl
theorem cons_any {te : TE} {tr : TA} {σ : L2.St} {H : Hp} {Q : List V → Hp → Prop} (h : te σ H fun v H1 => tr σ H1 fun vs H2 => Q (v :: vs) H2) : tCons te tr σ H Q := h
theorem asg_go {te : TE} {tz : TS} {i : Nat} {D : Ends} {σ : L2.St} {H : Hp} (h : te σ H fun v H1 => tz D (σ.set i (some v)) H1) : tSeq (tAsg te (gName i)) tz D σ H := h
theorem sl_go {r : V → Option Int → Option Int → Hp → VK → Prop} {te : TE} {tl th : TO} {σ : L2.St} {H : Hp} {Q : VK} (h : te σ H fun x H1 => tl σ H1 fun lo H2 => th σ H2 fun hi H3 => r x lo hi H3 Q) : tSl r te tl th σ H Q := h
theorem op_go {r : R2} {ta tb : TE} {σ : L2.St} {H : Hp} {Q : VK} (h : ta σ H fun x H1 => tb σ H1 fun y H2 => r x y H2 Q) : tOp r ta tb σ H Q := h
theorem tup_go {ta : TA} {σ : L2.St} {H : Hp} {Q : VK} (h : ta σ H fun xs H1 => xs.length ≤ sizeLine ∧ ∀ p, H1 p = none → Q (.ref p) (upd H1 p (.tup xs))) : tTup ta σ H Q := h
theorem lst_go {ta : TA} {σ : L2.St} {H : Hp} {Q : VK} (h : ta σ H fun xs H1 => xs.length ≤ sizeLine ∧ ∀ p, H1 p = none → Q (.ref p) (upd H1 p (.lst xs))) : tLst ta σ H Q := h
theorem ret_go {te : TE} {D : Ends} {σ : L2.St} {H : Hp} (h : te σ H D.rt) : tRet te D σ H := h
theorem call_go {sp : Sp} {dvs vs : List V} {E : XK} {ta : TA} {σ : L2.St} {H : Hp} {Q : VK} (h : Evl.EvA ta σ H vs) (k : ∀ H1, Evl.Ex H H1 → sp (vs ++ dvs) H1 Q E) : tCall sp dvs E ta σ H Q := h H (Evl.Ex.refl H) _ k
theorem cons_c {v : V} {tr : TA} {σ : L2.St} {H : Hp} {Q : List V → Hp → Prop} (h : tr σ H fun vs H2 => Q (v :: vs) H2) : tCons (tC v) tr σ H Q := h
theorem call_raw {sp : Sp} {dvs : List V} {E : XK} {ta : TA} {σ : L2.St} {H : Hp} {Q : VK} (h : ta σ H fun vs H1 => sp (vs ++ dvs) H1 Q E) : tCall sp dvs E ta σ H Q := h
theorem cb_go {r : List V → Hp → VK → Prop} {ta : TA} {σ : L2.St} {H : Hp} {Q : VK} (h : ta σ H fun vs H1 => r vs H1 Q) : tCB r ta σ H Q := h
theorem par_go {i j : Nat} {ta : TA} {tz : TS} {D : Ends} {σ : L2.St} {H : Hp} (h : ta σ H fun vs H1 => ∃ v w, vs = [v, w] ∧ tz D ((σ.set i (some v)).set j (some w)) H1) : tSeq (tPar i j ta) tz D σ H := h
theorem ev_slS {σ : L2.St} {H : Hp} {te : TE} {tl th : TO} {z : Str} {lo hi : Option Int} (h : Evl.Ev te σ H (.str z)) (h1 : Evl.EvO tl σ H lo) (h2 : Evl.EvO th σ H hi) (hz : z.length ≤ sizeLine) : Evl.Ev (tSl rSlS te tl th) σ H (.str (cutS z lo hi)) := fun H1 e Q q =>
  h H1 e _ fun H2 e2 => h1 H2 (e.trans e2) _ fun H3 e3 => h2 H3 ((e.trans e2).trans e3) _ fun H4 e4 => ⟨z, rfl, hz, q H4 ((e2.trans e3).trans e4)⟩
theorem rv_cat {H : Hp} {x y : Str} (h : x.length + y.length ≤ sizeLine) : Evl.RV (fun x y H Q => ∃ i j, x = V.str i ∧ y = V.str j ∧ i.length + j.length ≤ sizeLine ∧ Q (.str (i ++ j)) H) (.str x) (.str y) H (.str (x ++ y)) := fun H1 e Q q => ⟨x, y, rfl, rfl, h, q H1 (Evl.Ex.refl _)⟩
theorem ev_callN {sp : Sp} {gV : List V → List V → List V} {E : XK} {tk : TA} {σ : L2.St} {H : Hp} {zs : List V} {m : Nat} {v : V} (h : Evl.EvA tk σ H zs) (hm : zs.length = m) (hs : Evl.SpV sp (gV [] zs) H v) : Evl.Ev (tCallN 0 m sp gV E tNil tk) σ H v := fun H1 e Q q =>
  h H1 e _ fun H2 e2 => ⟨rfl, hm, hs H2 (e.trans e2) Q (fun H3 e3 => q H3 (e2.trans e3)) E⟩
theorem et_chain {σ : L2.St} {H : Hp} {ta tb tc : TE} {i j k : Int} (h1 : Evl.Ev ta σ H (.int i)) (h2 : Evl.Ev tb σ H (.int j)) (h3 : Evl.Ev tc σ H (.int k)) : Evl.EvT (tTest (tChain (rI0 fun i j => .bl (decide (i ≤ j))) (rI0 fun i j => .bl (decide (i ≤ j))) ta tb tc)) σ H (decide (i ≤ j) && decide (j ≤ k)) := fun H1 e Q q =>
  h1 H1 e _ fun H2 e2 => h2 H2 (e.trans e2) _ fun H3 e3 => ⟨i, j, rfl, rfl, decide (i ≤ j), rfl, if_go (fun hb => h3 H3 ((e.trans e2).trans e3) _ fun H4 e4 => ⟨j, k, rfl, rfl, decide (j ≤ k), rfl, by rw [hb, Bool.true_and] at q; exact q H4 ((e2.trans e3).trans e4)⟩) (fun hb => ⟨false, rfl, by rw [hb, Bool.false_and] at q; exact q H3 (e2.trans e3)⟩)⟩
theorem _root_.Evl.SpV.is {sp : Sp} {vs : List V} {H : Hp} {v w : V} (h : Evl.SpV sp vs H v) (e : v = w) : Evl.SpV sp vs H w := e ▸ h
end Hk
namespace Hk
open PySem PySem.Spec PyProof.Rows L2 Tl
open Evl
theorem ei_rowsN {K : PySem.W.Frag} {σ : L2.St} {H : Hp} {te : TE} {xs : List V} {n : Nat} {W : Hp → Prop} (h : EvL te σ H xs) (hn : n = xs.length) (hW : ∀ A, Ex H A → W A) : EvI (iList K te) σ H n (YRow xs W) := fun H1 e R k => by
  subst hn
  exact h H1 e _ fun a H2 ha e2 hx => ⟨a, rfl, ⟨xs, sq_of hx⟩, k _ (fun A => SqL K A a xs ∧ W A) H2 e2 (walk_list.mono (fun _ q => q.1) fun i A v A' hi q y => ⟨y.1, y.2, q.2⟩) fun A ab s => ⟨sq_of (s _ _ ha hx), hW A ab⟩⟩
/-- a list of ints that stands is not the sorted set of the same -/
theorem ev_neSS {K : PySem.W.Frag} {σ : L2.St} {H : Hp} {ta tb : TE} {w : World} {a : Addr} {ns : List Int} (h : Ev ta σ H (.ref a)) (h2 : Ev tb σ H (.ref a)) (hs : H a = some (.lst (ns.map V.int))) (hl : ns.length < 60) : Ev (tOp (rNeD K) ta (tCB (rSortedSet w) (tCons (tCB (rSetL K w) (tCons tb tNil)) tNil))) σ H (.bl (!pd (ns.Pairwise (· < ·)))) := fun H1 e Q q =>
  h H1 e _ fun H2 e2 => h2 H2 (e.trans e2) _ fun H3 e3 => ⟨a, ns, rfl, sq_of (e3 _ _ (e2 _ _ (e _ _ hs))), by omega, fun p c hp' hc => ⟨p, _, c, rfl, upd_same, by omega, fun ms r hpw hmem hlen hr => by
    have e4 : Ex H3 (upd (upd H3 p _) r (.lst (ms.map V.int))) := (Ex.new hp').trans (Ex.new hr)
    refine ⟨.list (zD ns), .list (zD ms), .lst (sq_of (e4 _ _ (e3 _ _ (e2 _ _ (e _ _ hs))))) (dp_zD ns), .lst (sq_of upd_same) (dp_zD ms), PySem.W.ke_shaped_ints ns, PySem.W.ke_shaped_ints ms, ?_⟩
    rw [eqv_zD]
    have hm : ∀ k, k ∈ ms ↔ k ∈ ns := fun k => (hmem k).trans decide_eq_true_iff
    have hp : decide (ns = ms) = pd (ns.Pairwise (· < ·)) := by
      by_cases z : ns.Pairwise (· < ·)
      · rw [pd_true z, decide_eq_true (asc_eq z hpw fun k => (hm k).symm)]
      · rw [pd_false z, decide_eq_false (fun y : ns = ms => z (by rw [y]; exact hpw))]
    rw [hp]
    exact q _ ((e2.trans e3).trans e4)⟩⟩
end Hk
end S_Wr
section S_Ls
namespace P59
open PySem PySem.Spec PyProof.Rows L2 Tl Hk LamX EnL
/-- the tuple that is heard -/
def ansL : Out → Option (List V)
  | .calm => none
  | .web => some [.str "web", .str "web"]
  | .col => some [.str "colours", .str "colours"]
  | .num => some [.str "number", .str "most"]
  | .mis => some [.str "misfit", .str "colours"]
  | .many m => some [.str "many", .str "places", .int (m : Int)]
def AnsAt (H : Hp) (v : V) (o : Out) : Prop := match ansL o with
  | none => v = .non
  | some vs => ∃ p, v = .ref p ∧ H p = some (.tup vs)
theorem AnsAt.ex {H H' : Hp} {v : V} {o : Out} (h : AnsAt H v o) (e : Evl.Ex H H') : AnsAt H' v o := by
  unfold AnsAt at h ⊢
  cases hl : ansL o with
  | none =>
    rw [hl] at h
    exact h
  | some vs =>
    rw [hl] at h
    obtain ⟨p, h1, h2⟩ := h
    exact ⟨p, h1, e _ _ h2⟩
section
variable {K : PySem.W.Frag} {mg : Str → Option Value} {R : Er} {CS : Addr} {σ : L2.St}
theorem lam_out {T : List (Addr × Str)} {t : XK → TE} {B H : Hp} {Q : VK} {o : Out} (E2 : TE59 K mg R CS) (l : Live T B H)
    (ht : ∀ H1 E Q', Evl.Ex B H1 → Rs R H1 E o → (o = .calm → ∀ u H2, Evl.Ex H1 H2 → Q' u H2) → t E σ H1 Q')
    (k : ∀ v B' H3, Live T B' H3 → Evl.Ex B B' → AnsAt B' v o → Q v H3) : tLam T (THeardS K CS (trH K R)) t σ H Q := by
  cases o with
  | calm => exact lam_calm l (fun H1 E Q' ex q => ht H1 E Q' ex trivial fun _ => q) (fun G f D' q => rd_N E2 q) fun H3 L3 => k .non B H3 L3 (Evl.Ex.refl _) rfl
  | web => exact lam_raise (fs := [(("part" : Str), .str "web")]) (vs := [.str "web", .str "web"]) l E2.xw (fun H1 E Q' ex q => ht H1 E Q' ex q fun z => nomatch z) (fun G a d σ' D' h1 h2 h3 h4 q => rd_w E2 ⟨h1, h2, E2.ew, h4⟩ q) fun p H3 L3 _ f => k _ _ H3 L3 (Evl.Ex.new f) ⟨p, rfl, upd_same⟩
  | col => exact lam_raise (fs := [(("part" : Str), .str "colours")]) (vs := [.str "colours", .str "colours"]) l E2.xc (fun H1 E Q' ex q => ht H1 E Q' ex q fun z => nomatch z) (fun G a d σ' D' h1 h2 h3 h4 q => rd_c E2 ⟨h1, h2, E2.ec, h4⟩ q) fun p H3 L3 _ f => k _ _ H3 L3 (Evl.Ex.new f) ⟨p, rfl, upd_same⟩
  | num => exact lam_raise (fs := [(("part" : Str), .str "most")]) (vs := [.str "number", .str "most"]) l E2.xb (fun H1 E Q' ex q => ht H1 E Q' ex q fun z => nomatch z) (fun G a d σ' D' h1 h2 h3 h4 q => rd_b E2 ⟨h1, h2, E2.eb, h4⟩ q) fun p H3 L3 _ f => k _ _ H3 L3 (Evl.Ex.new f) ⟨p, rfl, upd_same⟩
  | mis => exact lam_raise (fs := [(("part" : Str), .str "colours")]) (vs := [.str "misfit", .str "colours"]) l E2.xf (fun H1 E Q' ex q => ht H1 E Q' ex q fun z => nomatch z) (fun G a d σ' D' h1 h2 h3 h4 q => rd_f E2 ⟨h1, h2, E2.ef, h4⟩ q) fun p H3 L3 _ f => k _ _ H3 L3 (Evl.Ex.new f) ⟨p, rfl, upd_same⟩
  | many m => exact lam_raise (fs := [(("most" : Str), .int (m : Int)), (("what" : Str), .str "places")]) (vs := [.str "many", .str "places", .int (m : Int)]) l E2.xm (fun H1 E Q' ex q => ht H1 E Q' ex q fun z => nomatch z) (fun G a d σ' D' h1 h2 h3 h4 q => rd_m E2 ⟨h1, h2, E2.em, h4⟩ q) fun p H3 L3 _ f => k _ _ H3 L3 (Evl.Ex.new f) ⟨p, rfl, upd_same⟩
end
theorem AnsAt.put {H : Hp} {v : V} {o : Out} {p : Addr} {xs : List V} {u : HO} (h : AnsAt H v o) (hp : H p = some (.lst xs)) : AnsAt (upd H p u) v o := by
  unfold AnsAt at h ⊢
  cases hl : ansL o with
  | none =>
    rw [hl] at h
    exact h
  | some vs =>
    rw [hl] at h
    obtain ⟨q, h1, h2⟩ := h
    refine ⟨q, h1, ?_⟩
    rw [upd_ne (fun z => by rw [z, hp] at h2; cases h2)]
    exact h2
theorem _root_.Hk.Live.put {T : List (Addr × Str)} {B H : Hp} {p : Addr} {xs ys : List V} (l : Live T B H) (h : H p = some (.lst xs)) : Live T (upd B p (.lst ys)) (upd H p (.lst ys)) := ⟨fun a o e => by
  by_cases z : a = p
  · rw [z, upd_same] at e ⊢
    exact e
  · rw [upd_ne z] at e ⊢
    exact l.ex a o e, fun a ps => by
  by_cases z : a = p
  · rw [z, upd_same]
    exact fun e => nomatch e
  · rw [upd_ne z]
    exact l.nt a ps, fun q hq => by
  obtain ⟨ps, h1, h2⟩ := l.tabs q hq
  refine ⟨ps, ?_, h2.1, fun pos cv hcv => by
    obtain ⟨c, k1, k2⟩ := h2.2 pos cv hcv
    refine ⟨c, k1, ?_⟩
    rw [upd_ne (fun z => by rw [z, h] at k2; cases k2)]
    exact k2⟩
  rw [upd_ne (fun z => by rw [z, h] at h1; cases h1)]
  exact h1⟩
/-- the last two exchanged -/
def sw3 {α : Type} : List α → List α → List α := fun _ ws => match ws with
  | [a, b, c] => [a, c, b]
  | ws => ws
abbrev nmF : Str := "_law_four.<locals>.<lambda>"
abbrev Ts (T : Addr) : List (Addr × Str) := [(T, nmF)]
abbrev nFour : List Str := ["web", "colours", "most", "heard"]
theorem scFour : FnScope nFour ["web", "colours", "most"] (defScope sFour) := ⟨rfl, rfl, rfl, by decide +kernel, rfl, by decide +kernel, by decide +kernel⟩
theorem hx1F : ("x1" : Str) ∉ nFour := by decide
def spFour (K : PySem.W.Frag) (C T : Addr) : Sp := fun vs H Q _ => ∃ (v x y : V) (o1 o2 : Out) (B : Hp), vs = [v, x, y] ∧ Live (Ts T) B H ∧ AskR K C B v x 40 o1 ∧ AskN K C B v x y o2 ∧
  ∀ p v1 v2 v3 v4 B' H', Live (Ts T) B' H' → Evl.Ex B B' → B p = none → B' p = some (.lst [v1, v2, v3, v4]) → AnsAt B' v1 o1 → AnsAt B' v2 o1 → AnsAt B' v3 o2 → AnsAt B' v4 o2 → Q (.ref p) H'
section
variable {P : Program} {w : World} {K : PySem.W.Frag} {mg : Str → Option Value} {base : Heap}
set_option maxHeartbeats 4000000 in
theorem ok_four {f fJW fSW fJY fSY fH fS C CN CS c T : Addr} {R : Er} {fd fdJW fdSW fdJY fdSY fdH fdS : FuncData} {k : Nat} (F : Fun K "_law_four" "_law_four" sFour f fd) (hcode : fd.code = .ref c) (TB : TabB base mg c T)
    (FJW : Fun K "judged_walks" "judged_walks" sJWalks fJW fdJW) (GJW : FnOk P w K mg base (L2.CX P w) (k + 1) fJW fdJW ["web", "colours"] (spJW K C R)) (bJW : Binds K fdJW ["web", "colours"] []) (gJW : mg "judged_walks" = some (.ref fJW))
    (FSW : Fun K "shows_walks" "shows_walks" sSWalks fSW fdSW) (GSW : FnOk P w K mg base (L2.CX P w) (k + 1) fSW fdSW ["web", "colours", "value"] (spSW K C R)) (bSW : Binds K fdSW ["web", "colours", "value"] []) (gSW : mg "shows_walks" = some (.ref fSW))
    (FJY : Fun K "judged_ways" "judged_ways" sJWays fJY fdJY) (GJY : FnOk P w K mg base (L2.CX P w) (k + 1) fJY fdJY ["web", "colours", "most"] (spJY K C R)) (kJY : KBn K fdJY ["web", "colours", "most"] 0 ["web", "most", "colours"] sw3 sw3) (gJY : mg "judged_ways" = some (.ref fJY))
    (FSY : Fun K "shows_ways" "shows_ways" sSWays fSY fdSY) (GSY : FnOk P w K mg base (L2.CX P w) (k + 1) fSY fdSY ["web", "colours", "most", "value"] (spSY K C CN R)) (bSY : Binds K fdSY ["web", "colours", "most", "value"] []) (gSY : mg "shows_ways" = some (.ref fSY))
    (M : Mk K CN fS) (GS : FnOk P w K mg base CX0 k fS fdS ["self"] (spSoundI CN)) (bS : Binds K fdS ["self"] []) (gS : mg "Sound" = some (.ref CN))
    (FH : Fun K "_law_heard" "_law_heard" sHeard fH fdH) (bH : Binds K fdH ["ask"] []) (gH : mg "_law_heard" = some (.ref fH)) (E2 : TE59 K mg R CS)
    (mi : mg "isinstance" = none) : FnG P w K mg base (k + 4) f fd ["web", "colours", "most"] (spFour K C T) := by
  obtain ⟨ocH, odH, kVH, docH, pmH, anH, cdH, ctH, oslH, rfl, lkH, hcdH⟩ := FH.ex
  refine fn_gC F hcode scFour (fun {vs H Q E} h => ?_) (fun A outer s H vs Q E hgd hr h => ?_)
  · obtain ⟨v, x, y, o1, o2, B, rfl, _⟩ := h
    rfl
  · obtain ⟨v, x, y, o1, o2, B, rfl, LV, h1, h2, q⟩ := h
    have nd := scFour.nd
    have hTm : (T, nmF) ∈ Ts T := List.mem_cons_self
    refine ⟨_, pss_cons (ps_set (i := 3) nd rfl (.inl rfl) (pe_lst (pa_cons
          (pe_lamcall (k := k + 1) (T := Ts T) (t := fun E => tCallS (spJW K C R) (fun _ => E) (tCons (tVar 0) (tCons (tVar 1) tNil))) (by rfl) gH FH.kp lkH hcdH bH scHeard rfl (Or.inl (by rfl)) (gives_heard mi E2) TB rfl hTm (fun p hp _ => by rw [List.mem_singleton.mp hp] <;> rfl) hr (lamS_by (sc := defScope sFour) (by decide +kernel)) (by rfl) (fun _ _ _ _ _ => rfl)
            (fun A outer s H E f' c' hr2 => by exact (pe_callS GJW hr2 (by rfl) gJW FJW.kp bJW (fun σ => passAt (takes_of rfl rfl rfl rfl) σ) (pa_cons (pv 0) (pa_cons (pv 1) pa_nil))))) (pa_cons
          (pe_lamcallD (k := k + 1) (x := "x1") (T := Ts T) (t := fun E => tCallS (spSW K C R) (fun _ => E) (tCons (tVar 0) (tCons (tVar 1) (tCons (tC .non) tNil)))) (by rfl) gH FH.kp lkH hcdH bH scHeard rfl (Or.inl (by rfl)) (gives_heard mi E2) TB rfl hTm (fun p hp _ => by rw [List.mem_singleton.mp hp] <;> rfl) hr (lamSD_by (sc := defScope sFour) (by decide +kernel)) hx1F rfl (fun _ _ _ _ _ _ _ => ⟨_, rfl, rfl⟩)
            (fun A outer s H E f' c' hr2 => by exact (pe_callS GSW hr2 (by rfl) gSW FSW.kp bSW (fun σ => passAt (takes_of rfl rfl rfl rfl) σ) (pa_cons (pv 0) (pa_cons (pv 1) (pa_cons pe_non pa_nil)))))) pa_nil))))
      (pss_cons (ps_expr (pe_bm PySem.F.plainAttrs_list PySem.F.slot_list_append PySem.F.type_list_append mt_append (pv 3) (pa_cons
          (pe_lamcall (k := k + 1) (T := Ts T) (t := fun E => tCallSN (["web", "most", "colours"] : List Str).length (spJY K C R) sw3 (fun _ => E) (tCons (tVar 0) (tCons (tVar 2) (tCons (tVar 1) tNil)))) (by rfl) gH FH.kp lkH hcdH bH scHeard rfl (Or.inl (by rfl)) (gives_heard mi E2) TB rfl hTm (fun p hp _ => by rw [List.mem_singleton.mp hp] <;> rfl) hr (lamS_by (sc := defScope sFour) (by decide +kernel)) (by rfl) (fun _ _ _ _ _ => rfl)
            (fun A outer s H E f' c' hr2 => by exact (pe_callSN (ks := ["web", "most", "colours"]) GJY hr2 (by rfl) gJY FJY.kp kJY (fun σ => passAt (takes_of rfl rfl rfl rfl) σ) (pk_cons (pv 0) (pk_cons (pv 2) (pk_cons (pv 1) pk_nil)))))) pa_nil)))
      (pss_cons (ps_expr (pe_bm PySem.F.plainAttrs_list PySem.F.slot_list_append PySem.F.type_list_append mt_append (pv 3) (pa_cons
          (pe_lamcall (k := k + 1) (T := Ts T) (t := fun E => tCallS (spSY K C CN R) (fun _ => E) (tCons (tVar 0) (tCons (tVar 1) (tCons (tVar 2) (tCons (tMake CN (spSoundI CN) [] E0 tNil) tNil))))) (by rfl) gH FH.kp lkH hcdH bH scHeard rfl (Or.inl (by rfl)) (gives_heard mi E2) TB rfl hTm (fun p hp _ => by rw [List.mem_singleton.mp hp] <;> rfl) hr (lamS_by (sc := defScope sFour) (by decide +kernel)) (by rfl) (fun _ _ _ _ _ => rfl)
            (fun A outer s H E f' c' hr2 => by exact (pe_callS GSY hr2 (by rfl) gSY FSY.kp bSY (fun σ => passAt (takes_of rfl rfl rfl rfl) σ) (pa_cons (pv 0) (pa_cons (pv 1) (pa_cons (pv 2) (pa_cons (pe_make0 M GS hr2 (by rfl) gS bS .nil pass0) pa_nil))))))) pa_nil)))
      (pss_one (ps_ret (pv 3))))), ?_⟩
    refine asg_go (lst_go ?_)
    refine lam_out (B := B) (o := o1) E2 LV (fun G1 E Q' ex hR qq => ⟨v, rfl, x, rfl, v, x, o1, rfl, h1.ex ex, hR, qq⟩) fun v1 B1 H1 L1 e1 a1 => ?_
    refine lam_out (B := B1) (o := o1) E2 L1 (fun G1 E Q' ex hR qq => ⟨v, rfl, x, rfl, v, x, o1, rfl, h1.ex (e1.trans ex), hR, qq⟩) fun v2 B2 H2 L2 e2 a2 => ?_
    refine ⟨by show 2 ≤ sizeLine; decide, fun p hp => ?_⟩
    have nB := L2.fresh hp
    have L2' := (L2.go (Evl.Ex.new (o := .lst [v1, v2]) hp)).add upd_same fun ps z => nomatch z
    have x2 : Evl.Ex B2 (upd B2 p (.lst [v1, v2])) := Evl.Ex.new nB
    have e02 := e1.trans e2
    refine ⟨.ref p, rfl, .inl ⟨rfl, [v1, v2], Evl.sq_of upd_same⟩, ?_⟩
    refine lam_out (o := o2) E2 L2' (fun G1 E Q' ex hR qq => ⟨v, rfl, y, rfl, x, rfl, rfl, v, x, y, o2, rfl, h2.ex ((e02.trans x2).trans ex), hR, qq⟩) fun v3 B3 H3 L3 e3 a3 => ?_
    have hp3 := e3 _ _ upd_same
    have L3' := L3.put (ys := [v1, v2, v3]) (L3.ex _ _ hp3)
    have x3 : Evl.Ex B2 (upd B3 p (.lst [v1, v2, v3])) := (x2.trans e3).mut nB
    refine ⟨p, [v1, v2], v3, rfl, rfl, L3.ex _ _ hp3, by show 2 < sizeLine; decide, ?_⟩
    refine ⟨.ref p, rfl, .inl ⟨rfl, [v1, v2, v3], Evl.sq_of upd_same⟩, ?_⟩
    refine lam_out (o := o2) E2 L3' (fun G1 E Q' ex hR qq => ⟨v, rfl, x, rfl, y, rfl, fun z dz nz ndz nez => ⟨z, dz, rfl, upd_same, fun H' fs hk hz => ⟨rfl, ?_⟩⟩⟩) fun v4 B4 H4 L4 e4 a4 => ?_
    · have exH : Evl.Ex G1 H' := fun b o ho => by
        have nz' : b ≠ z := ne_of_none ho nz
        exact hk b o nz' (by rw [upd_ne nz', upd_ne (ne_of_none ho ndz)]; exact ho)
      exact ⟨v, x, y, .ref z, o2, rfl, h2.ex (((e02.trans x3).trans ex).trans exH), ⟨z, dz, fs, rfl, hz⟩, hR.ex exH, fun ho u H5 e5 => qq ho u H5 (exH.trans e5)⟩
    · have hp4 := e4 _ _ upd_same
      have L4' := L4.put (ys := [v1, v2, v3, v4]) (L4.ex _ _ hp4)
      have x4 : Evl.Ex B2 (upd B4 p (.lst [v1, v2, v3, v4])) := (x3.trans e4).mut nB
      refine ⟨p, [v1, v2, v3], v4, rfl, rfl, L4.ex _ _ hp4, by show 3 < sizeLine; decide, ?_⟩
      refine ⟨.ref p, rfl, q p v1 v2 v3 v4 _ _ L4' (e02.trans x4) (Evl.fresh_back e02 nB) upd_same ((a1.ex e2).ex x4) (a2.ex x4) ?_ (a4.put hp4)⟩
      exact ((a3.put hp3).ex e4).put hp4
end
end P59
end S_Ls
section S_Lt
namespace P59
open PySem PySem.Spec PyProof.Rows L2 Tl Hk LamX EnL
/-! ### lines -/
def rowL (m i : Nat) : List Int := [(i : Int), (i : Int) + 2].filter fun o => decide (1 ≤ o) && decide (o ≤ (m : Int))
def lineT (m : Nat) : List (List Int) := (List.range m).map (rowL m)
theorem lineT_len (m : Nat) : (lineT m).length = m := by unfold lineT; rw [List.length_map, List.length_range]
theorem lineT_at {m i : Nat} (h : i < m) : (lineT m)[i]? = some (rowL m i) := by
  unfold lineT
  rw [List.getElem?_map, List.getElem?_eq_getElem (by simpa using h)]
  simp
theorem rowL_mem {m i : Nat} {o : Int} : o ∈ rowL m i ↔ (o = (i : Int) ∨ o = (i : Int) + 2) ∧ 1 ≤ o ∧ o ≤ (m : Int) := by
  unfold rowL
  rw [List.mem_filter, Bool.and_eq_true_iff, decide_eq_true_iff, decide_eq_true_iff]
  simp
theorem rowL_len (m i : Nat) : (rowL m i).length ≤ 2 := List.length_filter_le _ _
theorem sum_few {m : Nat} : ∀ {ts : List (List Int)}, (∀ t ∈ ts, t.length ≤ m) → (ts.map List.length).sum ≤ ts.length * m
  | [], _ => by simp
  | t :: r, h => by
    have := sum_few (ts := r) fun z hz => h z (List.mem_cons_of_mem _ hz)
    have h0 := h t List.mem_cons_self
    simp only [List.map_cons, List.sum_cons, List.length_cons, Nat.add_mul]
    omega
theorem ok_lineT {m : Nat} (h1 : 1 ≤ m) (h2 : m ≤ 1000) : OkT (lineT m) where
  pos := by rw [lineT_len]; exact h1
  most := by rw [lineT_len]; exact h2
  pl := fun i ns h => by
    have hi : i < m := by
      have := (List.getElem?_eq_some_iff.mp h).1
      rwa [lineT_len] at this
    rw [lineT_at hi] at h
    cases h
    rw [lineT_len]
    refine ⟨List.Nodup.sublist List.filter_sublist ?_, fun x hx => (rowL_mem.mp hx).2, fun hx => ?_⟩
    · simp
      omega
    · rcases (rowL_mem.mp hx).1 with e | e <;> omega
  sym := fun i ns o h ho => by
    have hi : i < m := by
      have := (List.getElem?_eq_some_iff.mp h).1
      rwa [lineT_len] at this
    rw [lineT_at hi] at h
    cases h
    obtain ⟨e, o1, o2⟩ := rowL_mem.mp ho
    refine ⟨_, lineT_at (by omega), rowL_mem.mpr ⟨?_, by omega, by omega⟩⟩
    rcases e with e | e
    · right
      omega
    · left
      omega
  few := by
    have := sum_few (m := 2) (ts := lineT m) fun t ht => by
      unfold lineT at ht
      obtain ⟨i, _, rfl⟩ := List.mem_map.mp ht
      exact rowL_len m i
    rw [lineT_len] at this
    omega
theorem at_map {n : Nat} {g : Nat → List Int} {i : Nat} {ns : List Int} (h : ((List.range n).map g)[i]? = some ns) : i < n ∧ ns = g i := by
  rw [List.getElem?_map] at h
  cases hr : (List.range n)[i]? with
  | none => rw [hr] at h; cases h
  | some j =>
    rw [hr] at h
    have hi := (List.getElem?_eq_some_iff.mp hr).1
    rw [List.length_range] at hi
    rw [List.getElem?_range hi] at hr
    cases hr
    exact ⟨hi, (Option.some.inj h).symm⟩
section
open Evl
variable {K : PySem.W.Frag} {σ : L2.St} {B : Hp}
theorem refs_of {xs : List V} (h : ∀ v ∈ xs, ∃ a, v = V.ref a) : ∃ bs : List Addr, xs = bs.map V.ref := by
  induction xs with
  | nil => exact ⟨[], rfl⟩
  | cons v r ih =>
    obtain ⟨a, rfl⟩ := h v List.mem_cons_self
    obtain ⟨bs, rfl⟩ := ih fun u hu => h u (List.mem_cons_of_mem _ hu)
    exact ⟨a :: bs, rfl⟩
theorem ll_of {xs : List V} {n : Nat} {g : Nat → List Int} {l : Addr} {H : Hp} (h : H l = some (.lst xs)) (hs : Holds (fun i v H' => ∃ a, v = V.ref a ∧ H' a = some (.lst ((g i).map V.int))) n xs H) : LL H l ((List.range n).map g) := by
  obtain ⟨h1, h2⟩ := hs
  obtain ⟨bs, rfl⟩ := refs_of (xs := xs) fun v hv => by
    obtain ⟨i, hi, rfl⟩ := List.mem_iff_getElem.mp hv
    obtain ⟨a, e, _⟩ := h2 i _ (List.getElem?_eq_getElem hi)
    exact ⟨a, e⟩
  rw [List.length_map] at h1
  refine ⟨bs, h, by rw [List.length_map, List.length_range, h1], fun i a ns ha hn => ?_⟩
  obtain ⟨b, e, hb⟩ := h2 i (.ref a) (by rw [List.getElem?_map, ha]; rfl)
  cases e
  obtain ⟨_, rfl⟩ := at_map hn
  exact hb
theorem en_LL {ta : TE} {n : Nat} {g : Nat → List Int} (h : EvNL ta σ B (Holds (fun i v H' => ∃ a, v = V.ref a ∧ H' a = some (.lst ((g i).map V.int))) n)) : EvN ta σ B (fun u H' => ∃ l, u = .ref l ∧ LL H' l ((List.range n).map g)) := fun H1 e Q q =>
  h H1 e Q fun p xs H2 hp e2 h2 hL => q _ H2 e2 fun H3 h3 s3 => ⟨p, rfl, ll_of (s3 _ _ hp h2) (hL H3 h3 fun a o _ ha hb => s3 a o ha hb)⟩
theorem et_chain {ta tb tc : TE} {H : Hp} {i j l : Int} (ha : Ev ta σ H (.int i)) (hb : Ev tb σ H (.int j)) (hc : Ev tc σ H (.int l)) : EvT (tTest (tChain (rI0 fun i j => V.bl (decide (i ≤ j))) (rI0 fun i j => V.bl (decide (i ≤ j))) ta tb tc)) σ H (decide (i ≤ j) && decide (j ≤ l)) := fun H1 e Q q =>
  ha H1 e _ fun H2 e2 => hb H2 (e.trans e2) _ fun H3 e3 => ⟨i, j, rfl, rfl, _, rfl, by
    cases z : decide (i ≤ j) with
    | true => exact hc H3 ((e.trans e2).trans e3) _ fun H4 e4 => ⟨j, l, rfl, rfl, _, rfl, by
        have := q H4 ((e2.trans e3).trans e4)
        rw [z, Bool.true_and] at this
        exact this⟩
    | false => exact ⟨_, rfl, by
        have := q H3 (e2.trans e3)
        rw [z, Bool.false_and] at this
        exact this⟩⟩
end
theorem bkL : BlkOk ["many", "place", "other"] { kind := .function, names := [(".0", .local), ("place", .local), ("many", .cell)], isGenerator := false, isCoroutine := false } { kind := .function, names := [(".0", .local), ("other", .local), ("many", .free)], isGenerator := false, isCoroutine := false } [("other", 2)] := blkOk_by (by decide +kernel)
theorem given_filt {α : Type} (ns : List α) (d : α) (g : α → Bool) (f : α → V) : Evl.given ns.length (fun i => g (ns.getD i d)) (fun i => f (ns.getD i d)) = (ns.filter g).map f := by
  unfold Evl.given
  have e : (List.range ns.length).map (fun i => ns.getD i d) = ns := by
    refine List.ext_getElem (by simp) fun i h1 h2 => ?_
    rw [List.getElem_map, List.getElem_range, List.getD_eq_getElem?_getD, List.getElem?_eq_getElem h2]
    rfl
  conv => rhs; rw [← e, List.filter_map, List.map_map]
  rfl
theorem cons_c {v : V} {tr : TA} {σ : L2.St} {H : Hp} {Q : List V → Hp → Prop} (h : tr σ H fun vs H2 => Q (v :: vs) H2) : tCons (tC v) tr σ H Q := h
theorem ei_rng2c {σ : L2.St} {H : Hp} {ta : TA} {i j : Int} {n : Nat} (hn : (j - i).toNat = n) (h : Evl.EvA ta σ H [.int i, .int j]) (h0 : -100000 ≤ i ∧ i ≤ 100000) (h1 : -100000 ≤ j ∧ j ≤ 100000) : EvI (iRng2 ta) σ H n (YFn fun k => .int (i + k)) := by
  subst hn
  exact ei_rng2 h h0 h1
theorem scLine : FnScope ["many", "place", "other"] ["many"] (defScope sLine) := ⟨rfl, rfl, rfl, by decide +kernel, rfl, by decide +kernel, by decide +kernel⟩
def spLine (C : Addr) : Sp := fun vs H Q _ => ∃ m : Nat, vs = [.int (m : Int)] ∧ 1 ≤ m ∧ m ≤ 1000 ∧ ∀ x H1, Evl.Ex H H1 → WebAt C H1 x (lineT m) → Q (.ref x) H1
section
variable {P : Program} {w : World} {K : PySem.W.Frag} {mg : Str → Option Value} {base : Heap}
theorem ok_line {C f fI : Addr} {fd fdI : FuncData} {k : Nat} (F : Fun K "_law_line" "_law_line" sLine f fd) (T : TWeb K mg C)
    (M : Mk K C fI) (GI : FnOk P w K mg base CX0 k fI fdI ["self", "turns"] (spWebI C)) (bI : Binds K fdI ["self", "turns"] []) (mrange : mg "range" = none) : FnOk P w K mg base CX0 (k + 2) f fd ["many"] (spLine C) := by
  refine F.ok scLine (fun vs H Q E h => ?_) (fun cdv A outer s H vs Q E hr h => ?_)
  · obtain ⟨m, rfl, _⟩ := h
    rfl
  · obtain ⟨m, rfl, h1, h2, q⟩ := h
    have nd := scLine.nd
    refine ⟨_, pss_one (ps_ret (pe_make M GI hr (by rfl) T.mgC bI .nil pass0 (pa_cons
      (pe_lc (own := [("place", 1)]) (g := gName 1) (tt := tYes) (te := tLc (iTup K (tTup (tCons (tOp rSub (tVar 1) (tC (.int 1))) (tCons (tOp rAdd (tVar 1) (tC (.int 1))) tNil)))) (gName 2) (tTest (tChain (rI0 fun i j => V.bl (decide (i ≤ j))) (rI0 fun i j => V.bl (decide (i ≤ j))) (tC (.int 1)) (tVar 2) (tVar 0))) (tVar 2) [2]) rfl nd (pi_range2 (by rfl) mrange (pa_cons pe_int (pa_cons (pe_op op_add (pv 0) pe_int) pa_nil))) (blkOk_by (N := ["many", "place", "other"]) (sc := defScope sLine) (by decide +kernel)) (fun _ _ _ _ _ => pg_name (i := 1) nd rfl (Or.inl rfl)) (fun _ _ _ _ _ => pts_nil)
        (fun _ _ _ _ _ => pe_lc (own := [("other", 2)]) (wi := iTup K (tTup (tCons (tOp rSub (tVar 1) (tC (.int 1))) (tCons (tOp rAdd (tVar 1) (tC (.int 1))) tNil)))) (g := gName 2) (tt := tTest (tChain (rI0 fun i j => V.bl (decide (i ≤ j))) (rI0 fun i j => V.bl (decide (i ≤ j))) (tC (.int 1)) (tVar 2) (tVar 0))) (te := tVar 2) rfl nd (pi_tup (pe_tup (pa_cons (pe_op op_sub (pv 1) pe_int) (pa_cons (pe_op op_add (pv 1) pe_int) pa_nil)))) (bkL)
          (fun _ _ _ _ _ => pg_name (i := 2) nd rfl (Or.inl rfl)) (fun _ _ _ _ _ => pts_one (pt_chain op_le op_le pe_int (pv 2) (pv 0))) (fun _ _ _ _ _ => pv 2))) pa_nil))), ?_⟩
    refine (en_make (ts := lineT m) (en_LL ?_) (ok_lineT h1 h2)) H (Evl.Ex.refl _) _ fun v H1 e1 hv => ?_
    · refine en_lc (ei_rng2c (i := 1) (j := (m : Int) + 1) (n := m) (by omega) (Evl.ea_cons Evl.ev_c (Evl.ea_cons (Evl.ev_op (Evl.ev_var rfl) Evl.ev_c Evl.rv_I0) Evl.ea_nil)) (by omega) (by omega)) aims_fn (fun _ => rfl) (by omega) _ fun i hi => en_l (xs := (rowL m i).map V.int) ?_
      have w1 : Evl.Ev (tOp rSub (tVar 1) (tC (.int 1))) [some (.int (m : Int)), some (.int (1 + (i : Int))), none] H (.int (1 + (i : Int) - 1)) := Evl.ev_op (Evl.ev_var rfl) Evl.ev_c Evl.rv_I0
      have w2 : Evl.Ev (tOp rAdd (tVar 1) (tC (.int 1))) [some (.int (m : Int)), some (.int (1 + (i : Int))), none] H (.int (1 + (i : Int) + 1)) := Evl.ev_op (Evl.ev_var rfl) Evl.ev_c Evl.rv_I0
      rw [show (1 : Int) + i - 1 = i by omega] at w1
      rw [show (1 : Int) + i + 1 = i + 2 by omega] at w2
      have hh := el_lcI (te := tVar 2) (t := tTest (tChain (rI0 fun i j => V.bl (decide (i ≤ j))) (rI0 fun i j => V.bl (decide (i ≤ j))) (tC (.int 1)) (tVar 2) (tVar 0))) (σ := [some (.int (m : Int)), some (.int (1 + (i : Int))), none]) (H := H) (vs := [2]) (fun j => decide ((1 : Int) ≤ ([(i : Int), (i : Int) + 2] : List Int).getD j 0) && decide (([(i : Int), (i : Int) + 2] : List Int).getD j 0 ≤ (m : Int))) (fun j => V.int (([(i : Int), (i : Int) + 2] : List Int).getD j 0))
        (ei_tupU (K := K) (xs := [.int (i : Int), .int ((i : Int) + 2)]) (Evl.eu_tup (Evl.ea_cons w1 (Evl.ea_cons w2 Evl.ea_nil)) (by show 2 ≤ 100000; decide))) (aims_at (j := 2)) (fun _ => rfl) (by show 2 ≤ _; omega)
        (fun j H4 e4 hj => et_chain Evl.ev_c (Evl.ev_is (Evl.ev_var rfl) (by
          have : j < 2 := hj
          rcases j with _ | _ | j
          · rfl
          · rfl
          · omega)) (Evl.ev_var rfl)) fun j H4 e4 hj _ => Evl.ev_is (Evl.ev_var rfl) (by
          have : j < 2 := hj
          rcases j with _ | _ | j
          · rfl
          · rfl
          · omega)
      have hg := given_filt [(i : Int), (i : Int) + 2] 0 (fun o => decide ((1 : Int) ≤ o) && decide (o ≤ (m : Int))) V.int
      have hg2 : Evl.given ([V.int (i : Int), V.int ((i : Int) + 2)] : List V).length (fun j => decide ((1 : Int) ≤ ([(i : Int), (i : Int) + 2] : List Int).getD j 0) && decide (([(i : Int), (i : Int) + 2] : List Int).getD j 0 ≤ (m : Int))) (fun j => V.int (([(i : Int), (i : Int) + 2] : List Int).getD j 0)) = (rowL m i).map V.int := hg
      rw [hg2] at hh
      exact hh
    · obtain ⟨x, rfl, hx⟩ := hv H1 e1 fun _ _ _ h => h
      exact q x H1 e1 hx
end
end P59
end S_Lt
section S_Xf
namespace EnL
open PySem PySem.Spec PyProof.Rows L2 LamX Tl Hk
/-- a text, once or more -/
def rMulS1 : R2 := fun x y H Q => ∃ (a : Str) (n : Nat), x = .str a ∧ y = .int (n : Int) ∧ 1 ≤ n ∧ 1 ≤ a.length ∧ a.length * n ≤ 1000 ∧ ∀ z : Str, Q (.str z) H
theorem op_mulS1 {X : Cx} : OpR X (binaryOp .Mult) rMulS1 := by
  intro pins s σ H x y v u Q I rx ry h
  obtain ⟨a, n, rfl, rfl, h2, h1, hz, q⟩ := h
  by_cases h3 : 2 ≤ n
  · exact op_mulS _ _ _ _ _ _ _ _ _ I rx ry ⟨a, n, rfl, rfl, h3, h1, hz, q _⟩
  · obtain rfl : n = 1 := by omega
    obtain ⟨t, rfl⟩ := rx
    obtain ⟨t2, rfl⟩ := ry
    have hlong : Builtin.Str.tooLong (a.length * (((1 : Nat) : Int)).toNat) = false := by
      rw [Int.toNat_natCast]
      refine decide_eq_false fun z => ?_
      rw [sizeLine_eq] at z
      exact absurd (Nat.lt_of_lt_of_le z hz) (by decide)
    refine PySem.P.mul_str ?_ (fun _ _ => ?_) (fun _ _ => hlong) ?_
    · rw [decide_eq_false (by omega), decide_eq_false (by omega)]
      rfl
    · have : ((a.length : Nat) : Int) ≤ (2 ^ 63 - 1) / ((1 : Nat) : Int) := by
        refine (Int.le_ediv_iff_mul_le (by omega)).mpr ?_
        omega
      omega
    · rw [if_neg (by omega), if_pos (by rw [Bool.or_eq_true_iff, beq_iff_eq] <;> exact .inl rfl)]
      exact ⟨.str a, H, I, ⟨_, rfl⟩, q _⟩
end EnL
end S_Xf
section S_Lu
namespace P59
open PySem PySem.Spec PyProof.Rows L2 Tl Hk LamX EnL
/-- the tables and the drawer stand -/
structure Od (T : List (Addr × Str)) (t c : Addr) (n : Nat) (H : Hp) : Prop where
  tabs : Tabs T H
  tub : Tub H t c n
theorem Od.ex {T : List (Addr × Str)} {t c : Addr} {n : Nat} {H H1 : Hp} (o : Od T t c n H) (e : Evl.Ex H H1) : Od T t c n H1 := ⟨o.tabs.ext e, o.tub.ex e⟩
theorem Od.kept {T : List (Addr × Str)} {t c : Addr} {n m : Nat} {H H1 : Hp} (o : Od T t c n H) (k : Kept t H H1) (T1 : Tub H1 t c m) : Od T t c m H1 := ⟨fun p hp => by
  obtain ⟨cs, turn, rest, ht, _⟩ := o.tub
  obtain ⟨ps, h1, h2, h3⟩ := o.tabs p hp
  refine ⟨ps, k _ _ (fun z => by rw [z, ht] at h1; cases h1) h1, h2, fun pos cv hc => ?_⟩
  obtain ⟨c', e1, e2⟩ := h3 pos cv hc
  exact ⟨c', e1, k _ _ (fun z => by rw [z, ht] at e2; cases e2) e2⟩, T1⟩
theorem sx_kept {t : Addr} {H H1 : Hp} (k : Kept t H H1) : Evl.Ex (strip t H) (strip t H1) := fun a o h => by
  obtain ⟨h1, h2, h3⟩ := strip_le h
  exact strip_at (k a o h1 h2) h1 h3
theorem sx_ex {t : Addr} {H H1 : Hp} (e : Evl.Ex H H1) : Evl.Ex (strip t H) (strip t H1) := sx_kept (kept_ex e)
/-- what is told of a value once made, by what stands but for the drawer and the tables -/
def EvW (T : List (Addr × Str)) (t c : Addr) (n : Nat) (te : TE) (σ : L2.St) (H0 : Hp) (W : Hp → V → Prop) : Prop := ∀ (H : Hp) (Q : VK), Evl.Ex (strip t H0) (strip t H) → Od T t c n H →
  (∀ v H1, Evl.Ex (strip t H) (strip t H1) → Od T t c n H1 → W (strip t H1) v → Q v H1) → te σ H Q
def EaW (T : List (Addr × Str)) (t c : Addr) (n : Nat) (ta : TA) (σ : L2.St) (H0 : Hp) (W : Hp → List V → Prop) : Prop := ∀ (H : Hp) (Q : List V → Hp → Prop), Evl.Ex (strip t H0) (strip t H) → Od T t c n H →
  (∀ vs H1, Evl.Ex (strip t H) (strip t H1) → Od T t c n H1 → W (strip t H1) vs → Q vs H1) → ta σ H Q
def Mono {α : Type} (W : Hp → α → Prop) : Prop := ∀ B B1 v, Evl.Ex B B1 → W B v → W B1 v
section
variable {T : List (Addr × Str)} {t c : Addr} {n : Nat} {σ : L2.St} {H0 : Hp} {ta tb te : TE} {tA : TA} {W W1 W2 : Hp → V → Prop} {WA WB : Hp → List V → Prop} {K : PySem.W.Frag}
theorem ew_c {v : V} (h : ∀ H, Evl.Ex (strip t H0) (strip t H) → W (strip t H) v) : EvW T t c n (tC v) σ H0 W := fun H Q e o k => k v H (Evl.Ex.refl _) o (h H e)
theorem ew_v {v : V} (h : ∀ H, Evl.Ex (strip t H0) (strip t H) → Od T t c n H → Evl.Ev te σ H v) (hw : ∀ H, Evl.Ex (strip t H0) (strip t H) → W (strip t H) v) : EvW T t c n te σ H0 W := fun H Q e o k =>
  h H e o H (Evl.Ex.refl _) _ fun H1 e1 => k v H1 (sx_ex e1) (o.ex e1) (hw H1 (e.trans (sx_ex e1)))
theorem new_at {p : Addr} {H H1 : Hp} {o : HO} (O : Od T t c n H) (hp : H p = none) (h : H1 p = some o) (ho : ∀ ps, o ≠ .tbl ps) : strip t H1 p = some o := strip_at h (O.tub.ne hp).1 ho
theorem ew_u {xs : List V} (h : ∀ H, Evl.Ex (strip t H0) (strip t H) → Od T t c n H → Evl.EvU te σ H xs) (hw : ∀ H p, Evl.Ex (strip t H0) (strip t H) → strip t H p = some (.tup xs) → W (strip t H) (.ref p)) : EvW T t c n te σ H0 W := fun H Q e o k =>
  h H e o H (Evl.Ex.refl _) _ fun p H1 hp e1 h1 => k _ H1 (sx_ex e1) (o.ex e1) (hw H1 p (e.trans (sx_ex e1)) (new_at o hp h1 fun ps z => nomatch z))
theorem ew_l {xs : List V} (h : ∀ H, Evl.Ex (strip t H0) (strip t H) → Od T t c n H → Evl.EvL te σ H xs) (hw : ∀ H p, Evl.Ex (strip t H0) (strip t H) → strip t H p = some (.lst xs) → W (strip t H) (.ref p)) : EvW T t c n te σ H0 W := fun H Q e o k =>
  h H e o H (Evl.Ex.refl _) _ fun p H1 hp e1 h1 => k _ H1 (sx_ex e1) (o.ex e1) (hw H1 p (e.trans (sx_ex e1)) (new_at o hp h1 fun ps z => nomatch z))
theorem ew_mono (h : EvW T t c n te σ H0 W1) (m : ∀ B v, W1 B v → W B v) : EvW T t c n te σ H0 W := fun H Q e o k => h H Q e o fun v H1 e1 o1 w => k v H1 e1 o1 (m _ _ w)
theorem ea_nilW (h : ∀ B, WA B []) : EaW T t c n tNil σ H0 WA := fun H Q e o k => k [] H (Evl.Ex.refl _) o (h _)
theorem ea_consW (h : EvW T t c n te σ H0 W1) (hr : EaW T t c n tA σ H0 WB) (m : Mono W1) (j : ∀ B v vs, W1 B v → WB B vs → WA B (v :: vs)) : EaW T t c n (tCons te tA) σ H0 WA := fun H Q e o k =>
  h H _ e o fun v H1 e1 o1 w1 => hr H1 _ (e.trans e1) o1 fun vs H2 e2 o2 w2 => k (v :: vs) H2 (e1.trans e2) o2 (j _ _ _ (m _ _ _ e2 w1) w2)
theorem ew_lst (h : EaW T t c n tA σ H0 WA) (m : Mono WA) (hl : ∀ B vs, WA B vs → vs.length ≤ 1000) (hw : ∀ B p vs, WA B vs → B p = some (.lst vs) → W B (.ref p)) : EvW T t c n (tLst tA) σ H0 W := fun H Q e o k =>
  h H _ e o fun vs H1 e1 o1 w1 => ⟨by rw [sizeLine_eq]; have := hl _ _ w1; omega, fun p hp => by
    have eN := Evl.Ex.new (o := .lst vs) hp
    exact k _ _ (e1.trans (sx_ex eN)) (o1.ex eN) (hw _ p vs (m _ _ _ (sx_ex eN) w1) (new_at o1 hp upd_same fun ps z => nomatch z))⟩
theorem ew_tup (h : EaW T t c n tA σ H0 WA) (m : Mono WA) (hl : ∀ B vs, WA B vs → vs.length ≤ 1000) (hw : ∀ B p vs, WA B vs → B p = some (.tup vs) → W B (.ref p)) : EvW T t c n (tTup tA) σ H0 W := fun H Q e o k =>
  h H _ e o fun vs H1 e1 o1 w1 => ⟨by rw [sizeLine_eq]; have := hl _ _ w1; omega, fun p hp => by
    have eN := Evl.Ex.new (o := .tup vs) hp
    exact k _ _ (e1.trans (sx_ex eN)) (o1.ex eN) (hw _ p vs (m _ _ _ (sx_ex eN) w1) (new_at o1 hp upd_same fun ps z => nomatch z))⟩
/-- all of a number of values -/
def AllW (m : Nat) (W : Hp → V → Prop) : Hp → List V → Prop := fun B vs => vs.length = m ∧ ∀ v ∈ vs, W B v
theorem AllW.mono {m : Nat} (h : Mono W) : Mono (AllW m W) := fun B B1 vs e w => ⟨w.1, fun v hv => h _ _ _ e (w.2 v hv)⟩
theorem all_nil : EaW T t c n tNil σ H0 (AllW 0 W) := ea_nilW fun B => ⟨rfl, fun v hv => nomatch hv⟩
theorem all_cons {m : Nat} (hm : Mono W) (h : EvW T t c n te σ H0 W) (hr : EaW T t c n tA σ H0 (AllW m W)) : EaW T t c n (tCons te tA) σ H0 (AllW (m + 1) W) := ea_consW h hr hm fun B v vs w1 w2 => ⟨by rw [List.length_cons, w2.1], fun u hu => by
  rcases List.mem_cons.mp hu with rfl | hu
  · exact w1
  · exact w2.2 u hu⟩
/-- a list of values that are all so -/
def LstW (m : Nat) (W : Hp → V → Prop) : Hp → V → Prop := fun B v => ∃ p vs, v = .ref p ∧ B p = some (.lst vs) ∧ AllW m W B vs
theorem LstW.mono {m : Nat} (h : Mono W) : Mono (LstW m W) := fun B B1 v e ⟨p, vs, a, b, w⟩ => ⟨p, vs, a, e _ _ b, AllW.mono h _ _ _ e w⟩
theorem ew_all {m : Nat} (hm : Mono W) (hl : m ≤ 1000) (h : EaW T t c n tA σ H0 (AllW m W)) : EvW T t c n (tLst tA) σ H0 (LstW m W) := ew_lst h (AllW.mono hm) (fun B vs w => by rw [w.1]; exact hl) fun B p vs w hp => ⟨p, vs, rfl, hp, w⟩
theorem ew_cat {m k : Nat} (hm : Mono W) (hl : m + k ≤ 1000) (ha : EvW T t c n ta σ H0 (LstW m W)) (hb : EvW T t c n tb σ H0 (LstW k W)) : EvW T t c n (tOp rCat ta tb) σ H0 (LstW (m + k) W) := fun H Q e o q =>
  ha H _ e o fun x H1 e1 o1 w1 => hb H1 _ (e.trans e1) o1 fun y H2 e2 o2 w2 => by
    obtain ⟨p, vs, rfl, hp, hv, hw⟩ := LstW.mono hm _ _ _ e2 w1
    obtain ⟨r, us, rfl, hr, hu, hz⟩ := w2
    refine ⟨p, r, vs, us, rfl, rfl, strip_ex _ _ hp, strip_ex _ _ hr, by rw [sizeLine_eq]; omega, fun a ha => ?_⟩
    have eN := Evl.Ex.new (o := .lst (vs ++ us)) ha
    refine q _ _ (e1.trans (e2.trans (sx_ex eN))) (o2.ex eN) ⟨a, vs ++ us, rfl, new_at o2 ha upd_same (fun ps z => nomatch z), by rw [List.length_append, hv, hu], fun v hv' => hm _ _ _ (sx_ex eN) ?_⟩
    rcases List.mem_append.mp hv' with z | z
    · exact hw v z
    · exact hz v z
end
theorem sx_extN {t : Addr} {H H' : Hp} (e : ExtN H H') : Evl.Ex (strip t H) (strip t H') := fun a o h => by
  obtain ⟨h1, h2, h3⟩ := strip_le h
  exact strip_at (e a o h2 h3) h1 h3
theorem sx_but {t : Addr} {H H' : Hp} (k : ∀ a o, a ≠ t → H a = some o → (∀ ps, o ≠ .tbl ps) → H' a = some o) : Evl.Ex (strip t H) (strip t H') := fun a o h => by
  obtain ⟨h1, h2, h3⟩ := strip_le h
  exact strip_at (k a o h1 h2 h3) h1 h3
theorem Od.extN {T : List (Addr × Str)} {t c : Addr} {n : Nat} {H H' : Hp} (o : Od T t c n H) (e : ExtN H H') (tT : Tabs T H') : Od T t c n H' := ⟨tT, by
  obtain ⟨cs, turn, rest, h1, h2, h3⟩ := o.tub
  exact ⟨cs, turn, rest, e _ _ h1 (fun ps z => nomatch z), e _ _ h2 (fun ps z => nomatch z), h3⟩⟩
theorem Od.mono {T : List (Addr × Str)} {t c : Addr} {n m : Nat} {H : Hp} (o : Od T t c n H) (h : n ≤ m) : Od T t c m H := ⟨o.tabs, o.tub.mono h⟩
theorem tub_strip {H : Hp} {T t c : Addr} {n : Nat} {ps : Array Value} (hT : H T = some (.tbl ps)) (h : Tub H t c n) : Tub (strip T H) t c n := by
  obtain ⟨cs, turn, rest, h1, h2, h3⟩ := h
  exact ⟨cs, turn, rest, strip_tb (t := T) hT h1 (fun ps z => nomatch z), strip_tb (t := T) hT h2 (fun ps z => nomatch z), h3⟩
end P59
end S_Lu
section S_Lv
namespace P59
open PySem PySem.Spec PyProof.Rows L2 Tl Hk LamX EnL
/-! ### what is drawn -/
abbrev tNeg (i : Int) : TE := tUn (rU fun i => .int (-i)) (tC (.int i))
abbrev tTupOf (K : PySem.W.Frag) (te : TE) : TE := tCB (fun xs H Q => ∃ p ys, xs = [V.ref p] ∧ ((SqL K H p ys ∧ ∀ l, H l = none → Q (V.ref l) (upd H l (HO.tup ys))) ∨ (SqT K H p ys ∧ Q (V.ref p) H))) (tCons te tNil)
abbrev teNone (K : PySem.W.Frag) (C : Addr) (E : XK) : TE := tLst (tCons (tC .non) (tCons (tC (.int 5)) (tCons (tCB (rStrIns C (spWebS C) E) (tCons (tVar 3) tNil)) (tCons (tFld K (tVar 3) "turns") (tCons (tLst (tCons (tVar 3) tNil)) (tCons (tC (.bl true)) tNil))))))
abbrev teOdd : TE := tLst (tCons (tC .non) (tCons (tC (.int 5)) (tCons (tLst (tCons (tC (.int 0)) (tCons (tNeg 1) tNil))) (tCons (tOp rRep (tLst (tCons (tC (.bl true)) tNil)) (tVar 2)) (tCons (tOp rMulS1 (tC (.str "0")) (tVar 2)) (tCons (tOp rRep (tLst (tCons (tLst (tCons (tC (.int 0)) tNil)) tNil)) (tVar 2)) (tCons (tDisp [(tC (.int 0), tC (.int 0))]) tNil)))))))
abbrev teFew (K : PySem.W.Frag) : TE := tLst (tCons (tOp rCat (tVar 4) (tLst (tCons (tC (.int 7)) tNil))) (tCons (tSl (rSlL K) (tVar 4) (tPart (tC (.int 1))) tNoPart) (tCons (tOp rCat (tVar 4) (tVar 4)) (tCons (tOp (rCatA K) (tTupOf K (tVar 4)) (tTup (tCons (tC (.int 0)) tNil))) tNil))))
abbrev teBad : TE := tLst (tCons (tC (.int 0)) (tCons (tC (.int 5)) (tCons (tC (.bl true)) (tCons (tC .non) (tCons (tC (.str "2")) (tCons (tTup (tCons (tC (.int 1)) tNil)) (tCons (tNeg 1) tNil)))))))
def NoWeb (K : PySem.W.Frag) (B : Hp) (v : V) : Prop := ∃ n, Ty7 K B v n
def OddW (K : PySem.W.Frag) (B : Hp) (v : V) : Prop := RowR K B (.int 0) .non v false
def FewW (K : PySem.W.Frag) (m : Nat) (B : Hp) (v : V) : Prop := ∃ a xs, v = .ref a ∧ SqS K B a xs ∧ xs.length ≠ m ∧ RowR K B (.int 0) .non v true
def BadNW (K : PySem.W.Frag) (B : Hp) (v : V) : Prop := (∃ n, Ty7 K B v n) ∧ wi v (.int 1) (.int 4) = false
theorem NoWeb.mono {K : PySem.W.Frag} : Mono (NoWeb K) := fun _ _ _ e ⟨n, h⟩ => ⟨n, h.ex e⟩
theorem OddW.mono {K : PySem.W.Frag} : Mono (OddW K) := fun _ _ _ e h => h.ex e
theorem FewW.mono {K : PySem.W.Frag} {m : Nat} : Mono (FewW K m) := fun _ _ _ e ⟨a, xs, h1, h2, h3, h4⟩ => ⟨a, xs, h1, h2.ex e, h3, h4.ex e⟩
theorem BadNW.mono {K : PySem.W.Frag} : Mono (BadNW K) := fun _ _ _ e ⟨⟨n, h⟩, h2⟩ => ⟨⟨n, h.ex e⟩, h2⟩
/-- right -/
def rightV (m : Nat) : List V := (List.range m).map fun i : Nat => V.int (i : Int)
theorem rightV_len (m : Nat) : (rightV m).length = m := by unfold rightV; rw [List.length_map, List.length_range]
theorem ints_all {xs : List V} (h : ∀ v ∈ xs, ∃ i : Int, v = .int i ∧ 0 ≤ i) : (xs.all fun v => wi v (.int 0) .non) = true := List.all_eq_true.mpr fun v hv => by
  obtain ⟨i, rfl, hi⟩ := h v hv
  show (decide ((0 : Int) ≤ i) && true) = true
  rw [decide_eq_true hi] <;> rfl
theorem ints_ty {K : PySem.W.Frag} {H : Hp} {xs : List V} (h : ∀ v ∈ xs, ∃ i : Int, v = .int i ∧ 0 ≤ i) : ∀ v ∈ xs, ∃ n, Ty7 K H v n := fun v hv => by
  obtain ⟨i, rfl, _⟩ := h v hv
  exact ⟨_, .int i⟩
theorem right_ints (m : Nat) : ∀ v ∈ rightV m, ∃ i : Int, v = .int i ∧ 0 ≤ i := fun v hv => by
  obtain ⟨i, _, rfl⟩ := List.mem_map.mp hv
  exact ⟨_, rfl, by omega⟩
theorem few_l {K : PySem.W.Frag} {B : Hp} {p : Addr} {xs : List V} {m : Nat} (hp : B p = some (.lst xs)) (h : ∀ v ∈ xs, ∃ i : Int, v = .int i ∧ 0 ≤ i) (hl : xs.length ≤ 4000) (hn : xs.length ≠ m) : FewW K m B (.ref p) :=
  ⟨p, xs, rfl, .inl (Evl.sq_of hp), hn, by rw [← ints_all h]; exact .lst (Evl.sq_of hp) hl (ints_ty h)⟩
theorem few_t {K : PySem.W.Frag} {B : Hp} {p : Addr} {xs : List V} {m : Nat} (hp : B p = some (.tup xs)) (h : ∀ v ∈ xs, ∃ i : Int, v = .int i ∧ 0 ≤ i) (hl : xs.length ≤ 4000) (hn : xs.length ≠ m) : FewW K m B (.ref p) :=
  ⟨p, xs, rfl, .inr (Evl.st_of hp), hn, by rw [← ints_all h]; exact .tup (Evl.st_of hp) hl (ints_ty h)⟩
theorem odd_l {K : PySem.W.Frag} {B : Hp} {p : Addr} {xs : List V} (hp : B p = some (.lst xs)) (h : (xs.all fun v => wi v (.int 0) .non) = false) (hl : xs.length ≤ 4000) (ht : ∀ v ∈ xs, ∃ n, Ty7 K B v n) : OddW K B (.ref p) := by
  unfold OddW
  rw [← h]
  exact .lst (Evl.sq_of hp) hl ht
theorem rep_flat {α : Type} (n : Nat) (x : α) : (List.replicate n [x]).flatten = List.replicate n x := by
  induction n with
  | zero => rfl
  | succ n ih => rw [List.replicate_succ, List.flatten_cons, ih, List.replicate_succ]; rfl
section
variable {T : List (Addr × Str)} {t c : Addr} {n : Nat} {σ : L2.St} {H0 : Hp} {K : PySem.W.Frag} {mg : Str → Option Value}
theorem ev_neg {i : Int} {H : Hp} : Evl.Ev (tNeg i) σ H (.int (-i)) := Evl.ev_un Evl.ev_c Evl.ru_neg
theorem ew_none {C x : Addr} {ts : List (List Int)} {E : XK} (TW : TWeb K mg C) (h3 : σ[3]? = some (some (.ref x))) (hw : WebAt C (strip t H0) x ts) (hT : OkT ts) : EvW T t c n (teNone K C E) σ H0 (LstW 6 (NoWeb K)) := by
  refine ew_all NoWeb.mono (by decide) (all_cons NoWeb.mono (ew_c fun H e => ⟨_, .non⟩) (all_cons NoWeb.mono (ew_c fun H e => ⟨_, .int 5⟩) (all_cons NoWeb.mono ?_ (all_cons NoWeb.mono ?_ (all_cons NoWeb.mono ?_ (all_cons NoWeb.mono (ew_c fun H e => ⟨_, .bl true⟩) all_nil))))))
  · refine ew_v (v := .str (Txt.join " / " (ts.map ttx))) (fun H e o => Evl.ev_cb (Evl.ea_cons (Evl.ev_var h3) Evl.ea_nil) fun H1 e1 Q q => ?_) fun H e => ⟨_, .str _⟩
    obtain ⟨dx, tt, ti, a1, a23⟩ := hw.ex ((e.trans strip_ex).trans e1)
    exact ⟨x, dx, _, rfl, a1, x, ts, rfl, ⟨dx, tt, ti, a1, a23⟩, hT, fun H2 e2 => ⟨⟨_, rfl⟩, q H2 e2⟩⟩
  · obtain ⟨dx, tt, ti, a1, ⟨as, b1, b2⟩, a3⟩ := hw
    exact ew_v (v := .ref tt) (fun H e o => ev_fld (Evl.ev_var h3) (strip_ex _ _ (e _ _ a1)) TW.cl TW.nT (wf_t _ _ _)) fun H e => ⟨_, .tup (Evl.st_of (e _ _ b1))⟩
  · exact ew_l (xs := [.ref x]) (fun H e o => Evl.el_lst (Evl.ea_cons (Evl.ev_var h3) Evl.ea_nil) (by show 1 ≤ 100000; decide)) fun H p e hp => ⟨_, .lst (Evl.sq_of hp)⟩
theorem ew_bad : EvW T t c n teBad σ H0 (LstW 7 (BadNW K)) := by
  refine ew_all BadNW.mono (by decide) (all_cons BadNW.mono (ew_c fun H e => ⟨⟨_, .int 0⟩, rfl⟩) (all_cons BadNW.mono (ew_c fun H e => ⟨⟨_, .int 5⟩, rfl⟩) (all_cons BadNW.mono (ew_c fun H e => ⟨⟨_, .bl true⟩, rfl⟩) (all_cons BadNW.mono (ew_c fun H e => ⟨⟨_, .non⟩, rfl⟩)
    (all_cons BadNW.mono (ew_c fun H e => ⟨⟨_, .str _⟩, rfl⟩) (all_cons BadNW.mono ?_ (all_cons BadNW.mono (ew_v (v := .int (-1)) (fun H e o => ev_neg) fun H e => ⟨⟨_, .int _⟩, rfl⟩) all_nil)))))))
  exact ew_u (xs := [.int 1]) (fun H e o => Evl.eu_tup (Evl.ea_cons Evl.ev_c Evl.ea_nil) (by show 1 ≤ 100000; decide)) fun H p e hp => ⟨⟨_, .tup (Evl.st_of hp)⟩, rfl⟩
theorem ew_few {m : Nat} {r : Addr} (h4 : σ[4]? = some (some (.ref r))) (hr : strip t H0 r = some (.lst (rightV m))) (m1 : 1 ≤ m) (m5 : m ≤ 1000) : EvW T t c n (teFew K) σ H0 (LstW 4 (FewW K m)) := by
  have hl := rightV_len m
  have at_ : ∀ {H : Hp}, Evl.Ex (strip t H0) (strip t H) → H r = some (.lst (rightV m)) := fun e => strip_ex _ _ (e _ _ hr)
  refine ew_all FewW.mono (by decide) (all_cons FewW.mono ?_ (all_cons FewW.mono ?_ (all_cons FewW.mono ?_ (all_cons FewW.mono ?_ all_nil))))
  · refine ew_l (xs := rightV m ++ [.int 7]) (fun H e o => el_catVN (Evl.ev_var h4) (at_ e) (Evl.el_lst (Evl.ea_cons Evl.ev_c Evl.ea_nil) (by show 1 ≤ 100000; decide)) (by rw [hl]; show m + 1 ≤ 100000; omega)) fun H p e hp => few_l hp (fun v hv => ?_) (by rw [List.length_append, hl]; show m + 1 ≤ 4000; omega) (by rw [List.length_append, hl]; show m + 1 ≠ m; omega)
    rcases List.mem_append.mp hv with h | h
    · exact right_ints m v h
    · exact ⟨7, List.mem_singleton.mp h, by decide⟩
  · refine ew_l (xs := (rightV m).drop 1) (fun H e o => el_from1 (Evl.ev_var h4) (Evl.eo_some Evl.ev_c) (Evl.sq_of (at_ e))) fun H p e hp => few_l hp (fun v hv => right_ints m v (List.mem_of_mem_drop hv)) (by rw [List.length_drop, hl]; omega) (by rw [List.length_drop, hl]; omega)
  · refine ew_l (xs := rightV m ++ rightV m) (fun H e o H1 e1 Q q => ⟨.ref r, h4, .ref r, h4, r, r, rightV m, rightV m, rfl, rfl, e1 _ _ (at_ e), e1 _ _ (at_ e), by rw [sizeLine_eq, hl]; omega, fun p hp => q p _ hp (Evl.Ex.new hp) upd_same⟩) fun H p e hp => few_l hp (fun v hv => ?_) (by rw [List.length_append, hl]; omega) (by rw [List.length_append, hl]; omega)
    rcases List.mem_append.mp hv with h | h <;> exact right_ints m v h
  · refine ew_u (xs := rightV m ++ [.int 0]) (fun H e o H1 e1 Q q => ?_) fun H p e hp => few_t hp (fun v hv => ?_) (by rw [List.length_append, hl]; show m + 1 ≤ 4000; omega) (by rw [List.length_append, hl]; show m + 1 ≠ m; omega)
    · refine ⟨.ref r, h4, r, rightV m, rfl, .inl ⟨Evl.sq_of (e1 _ _ (at_ e)), fun a ha => ?_⟩⟩
      refine ⟨by show 1 ≤ sizeLine; rw [sizeLine_eq]; decide, fun b hb => ?_⟩
      have ab : a ≠ b := fun z => by rw [← z, upd_same] at hb; cases hb
      have hb1 : H1 b = none := by rwa [upd_ne ab.symm] at hb
      refine ⟨a, b, rightV m, [.int 0], rfl, rfl, Evl.st_of (by rw [upd_ne ab, upd_same]), Evl.st_of upd_same, by rw [sizeLine_eq, hl]; show m + 1 ≤ _; omega, fun z => ?_, fun _ z => (by cases z), fun _ _ p hp => ?_⟩
      · rw [z] at hl
        exact absurd hl (by show ¬ 0 = m; omega)
      · have x1 : Evl.Ex H1 (upd (upd H1 a (.tup (rightV m))) b (.tup [.int 0])) := (Evl.Ex.new ha).trans (Evl.Ex.new hb)
        exact q p _ (Evl.fresh_back x1 hp) (x1.trans (Evl.Ex.new hp)) upd_same
    · rcases List.mem_append.mp hv with h | h
      · exact right_ints m v h
      · exact ⟨0, List.mem_singleton.mp h, by decide⟩
theorem ew_odd {m : Nat} (h2 : σ[2]? = some (some (.int (m : Int)))) (m1 : 1 ≤ m) (m5 : m ≤ 1000) : EvW T t c n teOdd σ H0 (LstW 7 (OddW K)) := by
  have big : (100000:Nat) ≤ sizeLine := by rw [sizeLine_eq]; decide
  refine ew_all OddW.mono (by decide) (all_cons OddW.mono (ew_c fun H e => .no .non (by decide) (by decide)) (all_cons OddW.mono (ew_c fun H e => .no (.int 5) (by decide) (by decide)) (all_cons OddW.mono ?_ (all_cons OddW.mono ?_ (all_cons OddW.mono ?_ (all_cons OddW.mono ?_ (all_cons OddW.mono ?_ all_nil)))))))
  · refine ew_l (xs := [.int 0, .int (-1)]) (fun H e o => Evl.el_lst (Evl.ea_cons Evl.ev_c (Evl.ea_cons ev_neg Evl.ea_nil)) (by show 2 ≤ 100000; decide)) fun H p e hp => odd_l hp (by decide) (by show 2 ≤ 4000; decide) fun v hv => ?_
    simp only [List.mem_cons, List.not_mem_nil, or_false] at hv
    rcases hv with rfl | rfl <;> exact ⟨_, .int _⟩
  · refine ew_l (xs := List.replicate m (.bl true)) (fun H e o H1 e1 Q q => ⟨by show 1 ≤ sizeLine; omega, fun a ha => ⟨.int (m : Int), h2, a, m, [.bl true], rfl, rfl, upd_same, by omega, by omega, by show 1 * ((m : Int)).toNat ≤ sizeLine; omega, fun p hp => ?_⟩⟩) fun H p e hp => odd_l hp (List.all_eq_false.mpr ⟨.bl true, List.mem_replicate.mpr ⟨by omega, rfl⟩, by decide⟩) (by rw [List.length_replicate]; omega) fun v hv => ⟨"bool", by rw [(List.mem_replicate.mp hv).2]; exact .bl true⟩
    rw [rep_flat, Int.toNat_natCast]
    have x1 : Evl.Ex H1 (upd H1 a (.lst [.bl true])) := Evl.Ex.new ha
    exact q p _ (Evl.fresh_back x1 hp) (x1.trans (Evl.Ex.new hp)) upd_same
  · exact fun H Q e o k => ⟨.int (m : Int), h2, "0", m, rfl, rfl, m1, by decide, by show 1 * m ≤ 1000; omega, fun z => k _ H (Evl.Ex.refl _) o (.no (.str z) (by decide) (by decide))⟩
  · refine fun H Q e o k => ⟨by show 1 ≤ sizeLine; omega, fun a ha => ⟨by show 1 ≤ sizeLine; omega, fun b hb => ⟨.int (m : Int), h2, b, m, [.ref a], rfl, rfl, upd_same, by omega, by omega, by show 1 * ((m : Int)).toNat ≤ sizeLine; omega, fun p hp => ?_⟩⟩⟩
    rw [rep_flat, Int.toNat_natCast]
    have x1 : Evl.Ex H (upd H a (.lst [.int 0])) := Evl.Ex.new ha
    have x2 : Evl.Ex (upd H a (.lst [.int 0])) (upd (upd H a (.lst [.int 0])) b (.lst [.ref a])) := Evl.Ex.new hb
    have x3 := Evl.Ex.new (o := .lst (List.replicate m (.ref a))) hp
    have x12 := x1.trans x2
    have oo := o.ex (x12.trans x3)
    have ta : strip t (upd (upd (upd H a (.lst [.int 0])) b (.lst [.ref a])) p (.lst (List.replicate m (.ref a)))) a = some (.lst [.int 0]) := new_at o ha (x3 _ _ (x2 _ _ upd_same)) fun ps z => nomatch z
    refine k _ _ (sx_ex (x12.trans x3)) oo (odd_l (new_at o (Evl.fresh_back x12 hp) upd_same fun ps z => nomatch z) (List.all_eq_false.mpr ⟨.ref a, List.mem_replicate.mpr ⟨by omega, rfl⟩, fun z => nomatch z⟩) (by rw [List.length_replicate]; omega) fun v hv => ⟨"list", by rw [(List.mem_replicate.mp hv).2]; exact .lst (Evl.sq_of ta)⟩)
  · refine fun H Q e o k => fun p hp => ⟨upd_same, [(Sum.inl 0, .int 0)], rfl, by show 1 ≤ 15; decide, ?_⟩
    have eN : Evl.Ex H (upd (upd H p (.dK [])) p (.dK (mergeK [] [(Sum.inl 0, .int 0)]))) := (Evl.Ex.new hp).mut hp
    exact k _ _ (sx_ex eN) (o.ex eN) (.no (.dK (new_at o hp upd_same fun ps z => nomatch z)) (by decide) (by decide))
end
end P59
end S_Lv
section S_Lz
namespace P59
open PySem PySem.Spec PyProof.Rows L2 Tl Hk LamX EnL
/-! ### what is heard, as data -/
def ansD : Out → PyData
  | .calm => .none
  | .web => .tuple [.str "web", .str "web"]
  | .col => .tuple [.str "colours", .str "colours"]
  | .num => .tuple [.str "number", .str "most"]
  | .mis => .tuple [.str "misfit", .str "colours"]
  | .many m => .tuple [.str "many", .str "places", .int (m : Int)]
abbrev ds4 (o1 o2 : Out) : List PyData := [ansD o1, ansD o1, ansD o2, ansD o2]
theorem AnsAt.dp {K : PySem.W.Frag} {H : Hp} {v : V} {o : Out} (h : AnsAt H v o) : Dp K H v (ansD o) := by
  cases o with
  | calm =>
    obtain rfl : v = .non := h
    exact .non
  | web =>
    obtain ⟨p, rfl, h2⟩ := h
    exact .tup (Evl.st_of h2) (.cons (.str _) (.cons (.str _) .nil))
  | col =>
    obtain ⟨p, rfl, h2⟩ := h
    exact .tup (Evl.st_of h2) (.cons (.str _) (.cons (.str _) .nil))
  | num =>
    obtain ⟨p, rfl, h2⟩ := h
    exact .tup (Evl.st_of h2) (.cons (.str _) (.cons (.str _) .nil))
  | mis =>
    obtain ⟨p, rfl, h2⟩ := h
    exact .tup (Evl.st_of h2) (.cons (.str _) (.cons (.str _) .nil))
  | many m =>
    obtain ⟨p, rfl, h2⟩ := h
    exact .tup (Evl.st_of h2) (.cons (.str _) (.cons (.str _) (.cons (.int _) .nil)))
theorem tup_fine {ds : List PyData} (h : ∀ d ∈ ds, d.canLay0 = true ∧ d.depth ≤ 1) : (PyData.tuple ds).canLay0 = true ∧ (PyData.tuple ds).depth ≤ 5 := by
  refine ⟨by unfold PyData.canLay0; exact lay_all fun d hd => (h d hd).1, ?_⟩
  have := deep_all (c := 1) fun d hd => (h d hd).2
  unfold PyData.depth
  omega
theorem str_fine {x : Str} (h : PyData.strOk x = true) : (PyData.str x).canLay0 = true ∧ (PyData.str x).depth ≤ 1 := ⟨by unfold PyData.canLay0; exact h, by unfold PyData.depth; omega⟩
theorem int_fine (x : Int) : (PyData.int x).canLay0 = true ∧ (PyData.int x).depth ≤ 1 := ⟨by unfold PyData.canLay0; rfl, by unfold PyData.depth; omega⟩
theorem two_fine {a b : Str} (ha : PyData.strOk a = true) (hb : PyData.strOk b = true) : (PyData.tuple [.str a, .str b]).canLay0 = true ∧ (PyData.tuple [.str a, .str b]).depth ≤ 5 := tup_fine fun d hd => by
  simp only [List.mem_cons, List.not_mem_nil, or_false] at hd
  rcases hd with rfl | rfl
  · exact str_fine ha
  · exact str_fine hb
theorem ans_fine (o : Out) : (ansD o).canLay0 = true ∧ (ansD o).depth ≤ 5 := by
  cases o with
  | calm => exact ⟨by unfold ansD PyData.canLay0; rfl, by unfold ansD PyData.depth; omega⟩
  | web => exact two_fine (by decide +kernel) (by decide +kernel)
  | col => exact two_fine (by decide +kernel) (by decide +kernel)
  | num => exact two_fine (by decide +kernel) (by decide +kernel)
  | mis => exact two_fine (by decide +kernel) (by decide +kernel)
  | many m =>
      refine tup_fine fun d hd => ?_
      simp only [List.mem_cons, List.not_mem_nil, or_false] at hd
      rcases hd with rfl | rfl | rfl
      · exact str_fine (by decide +kernel)
      · exact str_fine (by decide +kernel)
      · exact int_fine _
theorem shaped4 (o1 o2 : Out) : SeqAt.shaped (.list (ds4 o1 o2)) = true := shaped_list (c := 5) (by decide) fun d hd => by
  simp only [List.mem_cons, List.not_mem_nil, or_false] at hd
  rcases hd with rfl | rfl | rfl | rfl <;> exact ans_fine _
theorem same4 (o1 o2 : Out) : PyData.eqv (.list (ds4 o1 o2)) (.list (ds4 o1 o2)) = true := SeqAt.eqv_refl _ (SeqAt.canLay_of_shaped (shaped4 o1 o2))
mutual
theorem dp_strip {K : PySem.W.Frag} {H : Hp} {T : Addr} {ps : Array Value} (hT : H T = some (.tbl ps)) : ∀ {v : V} {d : PyData}, Dp K H v d → Dp K (strip T H) v d
  | _, _, .non => .non
  | _, _, .bl b => .bl b
  | _, _, .int i => .int i
  | _, _, .str x => .str x
  | _, _, .lst h a => .lst (by
      rcases h with (h | ⟨o, h⟩) | h
      · exact .inl (.inl (strip_tb (t := T) hT h fun ps z => nomatch z))
      · exact .inl (.inr ⟨o, strip_tb (t := T) hT h fun ps z => nomatch z⟩)
      · exact .inr h) (dpa_strip hT a)
  | _, _, .tup h a => .tup (by
      rcases h with (h | ⟨o, h⟩) | h
      · exact .inl (.inl (strip_tb (t := T) hT h fun ps z => nomatch z))
      · exact .inl (.inr ⟨o, strip_tb (t := T) hT h fun ps z => nomatch z⟩)
      · exact .inr h) (dpa_strip hT a)
theorem dpa_strip {K : PySem.W.Frag} {H : Hp} {T : Addr} {ps : Array Value} (hT : H T = some (.tbl ps)) : ∀ {vs : List V} {ds : List PyData}, DpAll K H vs ds → DpAll K (strip T H) vs ds
  | _, _, .nil => .nil
  | _, _, .cons h a => .cons (dp_strip hT h) (dpa_strip hT a)
end
theorem dpa_len {K : PySem.W.Frag} {H : Hp} : ∀ {vs : List V} {ds : List PyData}, DpAll K H vs ds → vs.length = ds.length
  | _, _, .nil => rfl
  | _, _, .cons h a => congrArg Nat.succ (dpa_len a)
theorem dpa_app {K : PySem.W.Frag} {H : Hp} : ∀ {vs us : List V} {ds es : List PyData}, DpAll K H vs ds → DpAll K H us es → DpAll K H (vs ++ us) (ds ++ es)
  | _, _, _, _, .nil, b => b
  | _, _, _, _, .cons h a, b => .cons h (dpa_app a b)
theorem dpa_rep {K : PySem.W.Frag} {H : Hp} {v : V} {d : PyData} (h : Dp K H v d) : ∀ n, DpAll K H (List.replicate n v) (List.replicate n d)
  | 0 => .nil
  | n + 1 => .cons h (dpa_rep h n)
def EvD (K : PySem.W.Frag) (te : TE) (σ : L2.St) (H : Hp) (d : PyData) : Prop := ∀ H1, Evl.Ex H H1 → ∀ Q : VK, (∀ v H2, Evl.Ex H1 H2 → Dp K H2 v d → Q v H2) → te σ H1 Q
def EvDL (K : PySem.W.Frag) (te : TE) (σ : L2.St) (H : Hp) (ds : List PyData) : Prop := ∀ H1, Evl.Ex H H1 → ∀ Q : VK, (∀ p xs H2, Evl.Ex H1 H2 → H2 p = some (.lst xs) → DpAll K H2 xs ds → Q (.ref p) H2) → te σ H1 Q
section
variable {K : PySem.W.Frag} {σ : L2.St} {H : Hp} {ta tb te : TE}
theorem ed_non : EvD K (tC .non) σ H .none := fun H1 e Q q => q .non H1 (Evl.Ex.refl _) .non
theorem ed_u {xs : List V} {ds : List PyData} (h : Evl.EvU te σ H xs) (hd : ∀ H, DpAll K H xs ds) : EvD K te σ H (.tuple ds) := fun H1 e Q q => h H1 e _ fun p H2 _ e2 h2 => q _ H2 e2 (.tup (Evl.st_of h2) (hd H2))
theorem ed_two {a b : Str} : EvD K (tTup (tCons (tC (.str a)) (tCons (tC (.str b)) tNil))) σ H (.tuple [.str a, .str b]) :=
  ed_u (Evl.eu_tup (Evl.ea_cons Evl.ev_c (Evl.ea_cons Evl.ev_c Evl.ea_nil)) (by show 2 ≤ 100000; decide)) fun H => .cons (.str _) (.cons (.str _) .nil)
theorem ed_three {a b : Str} {i : Int} : EvD K (tTup (tCons (tC (.str a)) (tCons (tC (.str b)) (tCons (tC (.int i)) tNil)))) σ H (.tuple [.str a, .str b, .int i]) :=
  ed_u (Evl.eu_tup (Evl.ea_cons Evl.ev_c (Evl.ea_cons Evl.ev_c (Evl.ea_cons Evl.ev_c Evl.ea_nil))) (by show 3 ≤ 100000; decide)) fun H => .cons (.str _) (.cons (.str _) (.cons (.int _) .nil))
theorem ed_if {tt : L2.TT} {b : Bool} {d : PyData} (ht : Evl.EvT tt σ H b) (h1 : b = true → EvD K ta σ H d) (h2 : b = false → EvD K tb σ H d) : EvD K (tIf tt ta tb) σ H d := fun H1 e Q q =>
  ht H1 e _ fun H2 e2 => if_go (fun z => h1 z H2 (e.trans e2) Q fun v H3 e3 hd => q v H3 (e2.trans e3) hd) fun z => h2 z H2 (e.trans e2) Q fun v H3 e3 hd => q v H3 (e2.trans e3) hd
theorem edl_rep {n : Nat} {d : PyData} (hn : n ≤ 100) (h : EvD K te σ H d) : EvDL K (tOp rRep (tLst (tCons te tNil)) (tC (.int (n : Int)))) σ H (List.replicate n d) := fun H1 e Q q =>
  h H1 e _ fun v H2 e2 hd => ⟨by show 1 ≤ sizeLine; rw [sizeLine_eq]; decide, fun a ha => ⟨a, (n : Int), [v], rfl, rfl, upd_same, by omega, by omega, by rw [sizeLine_eq]; show 1 * ((n : Int)).toNat ≤ _; omega, fun p hp => by
    rw [rep_flat, Int.toNat_natCast]
    have x1 : Evl.Ex H2 (upd (upd H2 a (.lst [v])) p (.lst (List.replicate n v))) := (Evl.Ex.new ha).trans (Evl.Ex.new hp)
    exact q p _ _ (e2.trans x1) upd_same (dpa_rep (dp_ex x1 hd) n)⟩⟩
theorem edl_cat {ds es : List PyData} (ha : EvDL K ta σ H ds) (hb : EvDL K tb σ H es) (hz : ds.length + es.length ≤ 1000) : EvDL K (tOp rCat ta tb) σ H (ds ++ es) := fun H1 e Q q =>
  ha H1 e _ fun a xs H2 e2 hx dx => hb H2 (e.trans e2) _ fun b ys H3 e3 hy dy => ⟨a, b, xs, ys, rfl, rfl, e3 _ _ hx, hy, by rw [sizeLine_eq, dpa_len dx, dpa_len dy]; omega, fun p hp => by
    have x1 := Evl.Ex.new (o := .lst (xs ++ ys)) hp
    exact q p _ _ ((e2.trans e3).trans x1) upd_same (dpa_app (dpa_ex (e3.trans x1) dx) (dpa_ex x1 dy))⟩
theorem edl_nn {a b : Str} : EvDL K (tLst (tCons (tC .non) (tCons (tC .non) (tCons (tTup (tCons (tC (.str a)) (tCons (tC (.str b)) tNil))) (tCons (tTup (tCons (tC (.str a)) (tCons (tC (.str b)) tNil))) tNil))))) σ H [.none, .none, .tuple [.str a, .str b], .tuple [.str a, .str b]] := fun H1 e Q q =>
  lst_go (cons_c (cons_c (cons_any ((ed_two (K := K) (σ := σ) (a := a) (b := b) (H := H1)) H1 (Evl.Ex.refl _) _ fun v H2 e2 d2 => cons_any ((ed_two (K := K) (σ := σ) (a := a) (b := b) (H := H2)) H2 (Evl.Ex.refl _) _ fun u H3 e3 d3 => ⟨by rw [sizeLine_eq]; show 4 ≤ _; decide, fun p hp => by
    have x1 := Evl.Ex.new (o := .lst [.non, .non, v, u]) hp
    exact q p _ _ ((e2.trans e3).trans x1) upd_same (.cons .non (.cons .non (.cons (dp_ex (e3.trans x1) d2) (.cons (dp_ex x1 d3) .nil))))⟩)))))
theorem edl_var {i : Nat} {p : Addr} {xs : List V} {ds : List PyData} (hs : σ[i]? = some (some (.ref p))) (hp : H p = some (.lst xs)) (hd : DpAll K H xs ds) : EvDL K (tVar i) σ H ds := fun H1 e Q q => ⟨.ref p, hs, q p xs H1 (Evl.Ex.refl _) (e _ _ hp) (dpa_ex e hd)⟩
/-- what the four are asked -/
abbrev Ask4 (K : PySem.W.Frag) (C T : Addr) (B : Hp) (o1 o2 : Out) : List V → Hp → Prop := fun vs H1 => ∃ (v x y : V) (B1 : Hp), vs = [v, x, y] ∧ Live (Ts T) B1 H1 ∧ Evl.Ex B B1 ∧ AskR K C B1 v x 40 o1 ∧ AskN K C B1 v x y o2
theorem ask_of {C T : Addr} {B : Hp} {o1 o2 : Out} {ta : TA} {v x y : V} {E : XK} {Q : VK} (L : Live (Ts T) B H) (ha : Evl.EvA ta σ H [v, x, y]) (h1 : AskR K C B v x 40 o1) (h2 : AskN K C B v x y o2)
    (k : ∀ vs H1, Ask4 K C T B o1 o2 vs H1 → spFour K C T (vs ++ []) H1 Q E) : tCall (spFour K C T) [] E ta σ H Q := ha H (Evl.Ex.refl _) _ fun H1 e1 => k _ H1 ⟨v, x, y, B, rfl, L.go e1, Evl.Ex.refl _, h1, h2⟩
theorem four_ne {C T : Addr} {B : Hp} {o1 o2 : Out} {E : XK} {Q : VK} (hr : ∀ B' H1, Live (Ts T) B' H1 → Evl.Ex B B' → EvDL K te σ H1 (ds4 o1 o2)) (k : ∀ B' H', Live (Ts T) B' H' → Evl.Ex B B' → Q (.bl false) H') :
    ∀ vs H1, Ask4 K C T B o1 o2 vs H1 → spFour K C T (vs ++ []) H1 (fun x H2 => te σ H2 fun y H3 => rNeD K x y H3 Q) E := fun vs H1 ⟨v, x, y, B1, e, L, e1, h1, h2⟩ =>
  ⟨v, x, y, o1, o2, B1, by rw [e] <;> rfl, L, h1, h2, fun p v1 v2 v3 v4 B' H' L' eB nB hp a1 a2 a3 a4 => (hr B' H' L' (e1.trans eB)) H' (Evl.Ex.refl _) _ fun q xs H2 e2 hq hd => by
    have eb : Evl.Ex B' H2 := L'.ex.trans e2
    refine ⟨.list (ds4 o1 o2), .list (ds4 o1 o2), .lst (Evl.sq_of (eb _ _ hp)) (.cons (dp_ex eb a1.dp) (.cons (dp_ex eb a2.dp) (.cons (dp_ex eb a3.dp) (.cons (dp_ex eb a4.dp) .nil)))), .lst (Evl.sq_of hq) hd, shaped4 o1 o2, shaped4 o1 o2, ?_⟩
    rw [same4]
    exact k B' H2 (L'.go e2) (e1.trans eB)⟩
theorem four_eq {C T : Addr} {B : Hp} {o1 o2 : Out} {E : XK} {Q : VK} (hr : ∀ B' H1, Live (Ts T) B' H1 → Evl.Ex B B' → EvDL K te σ H1 (ds4 o1 o2)) (k : ∀ H', Q (.bl true) H') :
    ∀ vs H1, Ask4 K C T B o1 o2 vs H1 → spFour K C T (vs ++ []) H1 (fun x H2 => te σ H2 fun y H3 => rEqD K x y H3 Q) E := fun vs H1 ⟨v, x, y, B1, e, L, e1, h1, h2⟩ =>
  ⟨v, x, y, o1, o2, B1, by rw [e] <;> rfl, L, h1, h2, fun p v1 v2 v3 v4 B' H' L' eB nB hp a1 a2 a3 a4 => (hr B' H' L' (e1.trans eB)) H' (Evl.Ex.refl _) _ fun q xs H2 e2 hq hd => by
    have eb : Evl.Ex B' H2 := L'.ex.trans e2
    refine ⟨.list (ds4 o1 o2), .list (ds4 o1 o2), .lst (Evl.sq_of (eb _ _ hp)) (.cons (dp_ex eb a1.dp) (.cons (dp_ex eb a2.dp) (.cons (dp_ex eb a3.dp) (.cons (dp_ex eb a4.dp) .nil)))), .lst (Evl.sq_of hq) hd, shaped4 o1 o2, shaped4 o1 o2, ?_⟩
    rw [same4]
    exact k H2⟩
end
/-! ### strip of what is asked -/
theorem sql_strip {K : PySem.W.Frag} {H : Hp} {T a : Addr} {xs : List V} {ps : Array Value} (hT : H T = some (.tbl ps)) (h : SqL K H a xs) : SqL K (strip T H) a xs := by
  rcases h with (h | ⟨o, h⟩) | h
  · exact .inl (.inl (strip_tb (t := T) hT h fun ps z => nomatch z))
  · exact .inl (.inr ⟨o, strip_tb (t := T) hT h fun ps z => nomatch z⟩)
  · exact .inr h
/-- a web stands where all but lists and tables do -/
theorem WebAt.keep {C : Addr} {H H' : Hp} {x : Addr} {ts : List (List Int)} (h : WebAt C H x ts) (k : ∀ a o, H a = some o → (∀ xs, o ≠ .lst xs) → (∀ ps, o ≠ .tbl ps) → H' a = some o) : WebAt C H' x ts := by
  obtain ⟨dx, t, ti, h1, ⟨as, a1, a2, a3⟩, xs, b1, b2, b3⟩ := h
  have tup : ∀ {a : Addr} {xs : List V}, H a = some (.tup xs) → H' a = some (.tup xs) := fun h => k _ _ h (fun xs z => nomatch z) fun ps z => nomatch z
  refine ⟨dx, t, ti, k _ _ h1 (fun xs z => nomatch z) (fun ps z => nomatch z), ⟨as, tup a1, a2, fun i a ns p q => tup (a3 i a ns p q)⟩, xs, tup b1, b2, fun i b v p q => ?_⟩
  obtain ⟨a, e, h⟩ := b3 i b v p q
  exact ⟨a, e, tup h⟩
theorem WebAt.stripT {C t c : Addr} {n : Nat} {H : Hp} {x : Addr} {ts : List (List Int)} (h : WebAt C H x ts) (T : Tub H t c n) : WebAt C (strip t H) x ts := h.keep fun a o ha h1 h2 => strip_at ha (fun z => by
  obtain ⟨cs, turn, rest, ht, _⟩ := T
  rw [z, ht] at ha
  exact h1 _ (Option.some.inj ha).symm) h2
theorem WebAt.stripB {C T : Addr} {H : Hp} {x : Addr} {ts : List (List Int)} {ps : Array Value} (h : WebAt C H x ts) (hT : H T = some (.tbl ps)) : WebAt C (strip T H) x ts := h.keep fun a o ha _ h2 => strip_tb (t := T) hT ha h2
theorem rgV_right (m : Nat) : rgV 0 (m : Int) = rightV m := by
  unfold rgV rightV
  rw [show ((m : Int) - 0).toNat = m by omega]
  exact List.map_congr_left fun i _ => by rw [Int.zero_add]
def rightW (m : Nat) : List Int := (List.range m).map fun i : Nat => (i : Int)
theorem rightW_is (m : Nat) : rightV m = (rightW m).map V.int := by
  unfold rightV rightW
  rw [List.map_map]
  rfl
theorem fine_right {K : PySem.W.Frag} {B : Hp} {r : Addr} {m : Nat} (hr : B r = some (.lst (rightV m))) (m5 : m ≤ 1000) : Fine K B r (lineT m) (rightW m) where
  at_ := by
    rw [← rightW_is]
    exact Evl.sq_of hr
  nd := by
    unfold rightW
    exact List.pairwise_map.mpr (List.Pairwise.imp (fun {a b} h z => h (by omega)) (List.nodup_range (n := m)))
  pos := fun x hx => by
    obtain ⟨i, hi, rfl⟩ := List.mem_map.mp hx
    have := List.mem_range.mp hi
    omega
  len := by
    rw [lineT_len]
    unfold rightW
    rw [List.length_map, List.length_range]
/-- of so many places -/
def oG (mx g : Nat) : Out := if mx < g then .many mx else .calm
theorem row_right {K : PySem.W.Frag} {B : Hp} {r : Addr} {m : Nat} (hr : B r = some (.lst (rightV m))) (m5 : m ≤ 1000) : RowR K B (.int 0) .non (.ref r) true := by
  rw [← ints_all (right_ints m)]
  exact .lst (Evl.sq_of hr) (by rw [rightV_len]; omega) (ints_ty (right_ints m))
theorem ask_right {K : PySem.W.Frag} {C : Addr} {B : Hp} {x r : Addr} {m : Nat} (hw : WebAt C B x (lineT m)) (hr : B r = some (.lst (rightV m))) (m1 : 1 ≤ m) (m5 : m ≤ 1000) (mx : Nat) : AskR K C B (.ref x) (.ref r) mx (oG mx m) := by
  unfold oG
  split
  · exact .many (.web hw) (row_right hr m5) rfl (.inl (Evl.sq_of hr)) (by rw [rightV_len, lineT_len]) (by rw [lineT_len]; assumption)
  · exact .calm (.web hw) (row_right hr m5) rfl (fine_right hr m5) (ok_lineT m1 m5) (by rw [lineT_len]; omega)
theorem oG_no {mx g : Nat} : oG mx g ≠ .web ∧ oG mx g ≠ .col := by
  unfold oG
  split <;> exact ⟨fun z => (nomatch z), fun z => nomatch z⟩
theorem oG_calm {mx g : Nat} (h : g ≤ mx) : oG mx g = .calm := by
  unfold oG
  rw [if_neg (by omega)]
def GreatW (_ : Hp) (v : V) : Prop := ∃ g : Nat, v = .int (g : Int) ∧ 24 ≤ g ∧ g ≤ 41
theorem GreatW.mono : Mono GreatW := fun _ _ _ _ h => h
theorem ew_great {T : List (Addr × Str)} {t c : Addr} {n : Nat} {σ : L2.St} {H0 : Hp} : EvW T t c n (tLst (tCons (tC (.int 24)) (tCons (tC (.int 25)) (tCons (tC (.int 40)) (tCons (tC (.int 41)) tNil))))) σ H0 (LstW 4 GreatW) :=
  ew_all GreatW.mono (by decide) (all_cons GreatW.mono (ew_c fun H e => ⟨24, rfl, by decide, by decide⟩) (all_cons GreatW.mono (ew_c fun H e => ⟨25, rfl, by decide, by decide⟩) (all_cons GreatW.mono (ew_c fun H e => ⟨40, rfl, by decide, by decide⟩) (all_cons GreatW.mono (ew_c fun H e => ⟨41, rfl, by decide, by decide⟩) all_nil))))
/-- if a or b: .. -/
theorem or_go {σ : L2.St} {H : Hp} {ta tb : TE} {x rest : TS} {D : Ends} (h : ta σ H fun v H1 => ∃ k, v = V.bl k ∧ (if k = true then x { D with nx := rest D } σ H1 else tb σ H1 fun v2 H2 => ∃ k2, v2 = V.bl k2 ∧ (if k2 = true then x { D with nx := rest D } σ H2 else rest D σ H2))) :
    tSeq (tIfS (tOr (tTest ta) (tTest tb)) x tNext) rest D σ H := h
theorem ift_go {σ : L2.St} {H : Hp} {ta : TE} {x rest : TS} {D : Ends} (h : ta σ H fun v H1 => ∃ k, v = V.bl k ∧ (if k = true then x { D with nx := rest D } σ H1 else rest D σ H1)) : tSeq (tIfS (tTest ta) x tNext) rest D σ H := h
theorem ed_due {K : PySem.W.Frag} {σ : L2.St} {H : Hp} {g mx : Nat} (h9 : σ[9]? = some (some (.int (g : Int)))) : EvD K (tIf (tTest (tOp (rI0 fun i j => V.bl (decide (j < i))) (tVar 9) (tC (.int (mx : Int))))) (tTup (tCons (tC (.str "many")) (tCons (tC (.str "places")) (tCons (tC (.int (mx : Int))) tNil)))) (tC .non)) σ H (ansD (oG mx g)) := by
  refine ed_if (b := decide ((mx : Int) < (g : Int))) (Evl.et_test (Evl.ev_op (Evl.ev_var h9) Evl.ev_c Evl.rv_I0)) (fun hb => ?_) fun hb => ?_
  · have := of_decide_eq_true hb
    unfold oG
    rw [if_pos (by omega)]
    exact ed_three
  · have := of_decide_eq_false hb
    unfold oG
    rw [if_neg (by omega)]
    exact ed_non
end P59
end S_Lz
section S_Lw
namespace P59
open PySem PySem.Spec PyProof.Rows L2 Tl Hk LamX EnL
abbrev nLaw : List Str := ["script", "toll", "many", "web", "right", "none", "odd", "few", "bad", "great", "due"]
theorem scLaw : FnScope nLaw ["script"] (defScope sLaw) := ⟨rfl, rfl, rfl, by decide +kernel, rfl, by decide +kernel, by decide +kernel⟩
def spLaw (K : PySem.W.Frag) (T : Addr) : Sp := fun vs H Q _ => ∃ (a : Addr) (ns : List Int), vs = [.ref a] ∧ SqL K H a (ns.map V.int) ∧ ns.length ≤ 63 ∧ Tabs (Ts T) H ∧ ∀ H', Q (.bl true) H'
section
variable {P : Program} {w : World} {K : PySem.W.Frag} {mg : Str → Option Value} {base : Heap}
set_option maxHeartbeats 4000000 in
theorem ok_law {f fT fS fP fL fF fWS C T : Addr} {fd fdT fdS fdP fdL fdF fdWS : FuncData} {k : Nat} (F : Fun K "law" "law" sLaw f fd)
    (FT : Fun K "_law_toll" "_law_toll" sTub fT fdT) (GT : FnOk P w K mg base CX0 k fT fdT ["script"] (spTub K)) (bT : Binds K fdT ["script"] []) (gT : mg "_law_toll" = some (.ref fT))
    (FS : Fun K "_law_levy" "_law_levy" sScoop fS fdS) (GS : FnOk P w K mg base CX0 k fS fdS ["toll", "many"] spScoop) (bS : Binds K fdS ["toll", "many"] []) (gS : mg "_law_levy" = some (.ref fS))
    (FP : Fun K "_law_pick" "_law_pick" sPick fP fdP) (GP : FnOk P w K mg base CX0 k fP fdP ["toll", "some"] (spPick K)) (bP : Binds K fdP ["toll", "some"] []) (gP : mg "_law_pick" = some (.ref fP))
    (FL : Fun K "_law_line" "_law_line" sLine fL fdL) (GL : FnOk P w K mg base CX0 k fL fdL ["many"] (spLine C)) (bL : Binds K fdL ["many"] []) (gL : mg "_law_line" = some (.ref fL))
    (FF : Fun K "_law_four" "_law_four" sFour fF fdF) (GF : FnG P w K mg base k fF fdF ["web", "colours", "most"] (spFour K C T)) (bF : Binds K fdF ["web", "colours", "most"] []) (gF : mg "_law_four" = some (.ref fF))
    (TW : TWeb K mg C) (FWS : Fun K "__str__" "Web.__str__" sWebS fWS fdWS) (GWS : FnOk P w K mg base CX0 (k - 2) fWS fdWS ["self"] (spWebS C)) (bWS : Binds K fdWS ["self"] []) (fsC : PySem.W.findIn K (.ref C) "__str__" = some (some (.ref fWS))) (isF : PySem.W.isFn K (.ref fWS) = true) (hk2 : 2 ≤ k)
    (mlist : mg "list" = none) (mrange : mg "range" = none) (mstr : mg "str" = none) (mtuple : mg "tuple" = none) :
    FnG P w K mg base (k + 1) f fd ["script"] (spLaw K T) := by
  refine fn_g F scLaw (fun {vs H Q E} h => ?_) (fun cdv A outer s H vs Q E hgd hr h => ?_)
  · obtain ⟨a, ns, rfl, _⟩ := h
    rfl
  · obtain ⟨a, ns, rfl, hS, hl, hT, q⟩ := h
    have nd := scLaw.nd
    have hr2 : Room (k - 2 + 2) (A.deeper (envOfC "law" (defScope sLaw) s.heap.objs.size f cdv)) := by
      rw [show k - 2 + 2 = k by omega]
      exact hr
    refine ⟨_, pss_cons (ps_set (i := 1) nd rfl (.inl rfl) (pe_call GT hr (by rfl) gT FT.kp bT .nil pass0 (pa_cons (pv 0) pa_nil)))
      (pss_cons (ps_set (i := 2) nd rfl (.inl rfl) (pe_op op_add pe_int (pe_call GS hr (by rfl) gS FS.kp bS .nil pass0 (pa_cons (pv 1) (pa_cons pe_int pa_nil)))))
      (pss_cons (ps_par (i := 3) (j := 4) (by rfl) nd rfl rfl (by decide) rfl rfl (pa_cons (pe_call GL hr (by rfl) gL FL.kp bL .nil pass0 (pa_cons (pv 2) pa_nil)) (pa_cons (pe_listRg rfl (by rfl) mlist (prg_1 (by rfl) mrange (pv 2))) pa_nil)) (by rfl))
      (pss_cons (ps_set (i := 5) nd rfl (.inl rfl) (pe_call GP hr (by rfl) gP FP.kp bP .nil pass0 (pa_cons (pv 1) (pa_cons (pe_lst (pa_cons pe_non (pa_cons pe_int (pa_cons (pe_callTy (call_strIns GWS hr2 fsC isF bWS pass0) (by rfl) mstr (by decide +kernel) (pa_cons (pv 3) pa_nil)) (pa_cons (pe_fld (pv 3) rfl) (pa_cons (pe_lst (pa_cons (pv 3) pa_nil)) (pa_cons pe_bl pa_nil))))))) pa_nil))))
      (pss_cons (ps_set (i := 6) nd rfl (.inl rfl) (pe_call GP hr (by rfl) gP FP.kp bP .nil pass0 (pa_cons (pv 1) (pa_cons (pe_lst (pa_cons pe_non (pa_cons pe_int (pa_cons (pe_lst (pa_cons pe_int (pa_cons (pe_un un_neg pe_int) pa_nil))) (pa_cons (pe_op op_rep (pe_lst (pa_cons pe_bl pa_nil)) (pv 2))
          (pa_cons (pe_op op_mulS1 pe_str (pv 2)) (pa_cons (pe_op op_rep (pe_lst (pa_cons (pe_lst (pa_cons pe_int pa_nil)) pa_nil)) (pv 2)) (pa_cons (pe_disp (pps_cons pe_int pe_int pps_nil) (by decide) (by decide) (by decide) (by decide)) pa_nil)))))))) pa_nil))))
      (pss_cons (ps_set (i := 7) nd rfl (.inl rfl) (pe_call GP hr (by rfl) gP FP.kp bP .nil pass0 (pa_cons (pv 1) (pa_cons (pe_lst (pa_cons (pe_op op_cat (pv 4) (pe_lst (pa_cons pe_int pa_nil))) (pa_cons (pe_slice sl_list (pv 4) (po_some pe_int) po_none) (pa_cons (pe_op op_cat (pv 4) (pv 4))
          (pa_cons (pe_op op_catA (pe_callTy call_tuple_of (by rfl) mtuple (by decide +kernel) (pa_cons (pv 4) pa_nil)) (pe_tup (pa_cons pe_int pa_nil))) pa_nil))))) pa_nil))))
      (pss_cons (ps_set (i := 8) nd rfl (.inl rfl) (pe_call GP hr (by rfl) gP FP.kp bP .nil pass0 (pa_cons (pv 1) (pa_cons (pe_lst (pa_cons pe_int (pa_cons pe_int (pa_cons pe_bl (pa_cons pe_non (pa_cons pe_str (pa_cons (pe_tup (pa_cons pe_int pa_nil)) (pa_cons (pe_un un_neg pe_int) pa_nil)))))))) pa_nil))))
      (pss_cons (ps_if (PW.pt (pw_or (pt_cmpR (op_neD hr.units) (pe_callG GF hgd hr (by rfl) gF FF.kp bF pass0 (pa_cons (pv 5) (pa_cons (pv 6) (pa_cons (pv 8) pa_nil)))) (pe_op op_rep (pe_lst (pa_cons (pe_tup (pa_cons pe_str (pa_cons pe_str pa_nil))) pa_nil)) pe_int) (nomark _))
          (pw_or1 (pt_cmpR (op_neD hr.units) (pe_callG GF hgd hr (by rfl) gF FF.kp bF pass0 (pa_cons (pv 3) (pa_cons (pv 6) (pa_cons (pv 8) pa_nil)))) (pe_op op_rep (pe_lst (pa_cons (pe_tup (pa_cons pe_str (pa_cons pe_str pa_nil))) pa_nil)) pe_int) (nomark _))))) (pss_one (ps_ret pe_bl)) pss_nil)
      (pss_cons (ps_if (PW.pt (pw_or (pt_cmpR (op_neD hr.units) (pe_callG GF hgd hr (by rfl) gF FF.kp bF pass0 (pa_cons (pv 3) (pa_cons (pv 7) (pa_cons (pv 8) pa_nil)))) (pe_op op_cat (pe_op op_rep (pe_lst (pa_cons (pe_tup (pa_cons pe_str (pa_cons pe_str pa_nil))) pa_nil)) pe_int) (pe_op op_rep (pe_lst (pa_cons (pe_tup (pa_cons pe_str (pa_cons pe_str pa_nil))) pa_nil)) pe_int)) (nomark _))
          (pw_or1 (pt_cmpR (op_neD hr.units) (pe_callG GF hgd hr (by rfl) gF FF.kp bF pass0 (pa_cons (pv 3) (pa_cons (pv 7) (pa_cons pe_int pa_nil)))) (pe_op op_rep (pe_lst (pa_cons (pe_tup (pa_cons pe_str (pa_cons pe_str pa_nil))) pa_nil)) pe_int) (nomark _))))) (pss_one (ps_ret pe_bl)) pss_nil)
      (pss_cons (ps_if (PW.pt (pw_or (pt_cmpR (op_neD hr.units) (pe_callG GF hgd hr (by rfl) gF FF.kp bF pass0 (pa_cons (pv 3) (pa_cons (pv 4) (pa_cons (pv 8) pa_nil)))) (pe_lst (pa_cons pe_non (pa_cons pe_non (pa_cons (pe_tup (pa_cons pe_str (pa_cons pe_str pa_nil))) (pa_cons (pe_tup (pa_cons pe_str (pa_cons pe_str pa_nil))) pa_nil))))) (nomark _))
          (pw_or1 (pt_cmpR (op_neD hr.units) (pe_callG GF hgd hr (by rfl) gF FF.kp bF pass0 (pa_cons (pv 3) (pa_cons (pv 4) (pa_cons pe_int pa_nil)))) (pe_op op_rep (pe_lst (pa_cons pe_non pa_nil)) pe_int) (nomark _))))) (pss_one (ps_ret pe_bl)) pss_nil)
      (pss_cons (ps_set (i := 9) nd rfl (.inl rfl) (pe_call GP hr (by rfl) gP FP.kp bP .nil pass0 (pa_cons (pv 1) (pa_cons (pe_lst (pa_cons pe_int (pa_cons pe_int (pa_cons pe_int (pa_cons pe_int pa_nil))))) pa_nil))))
      (pss_cons (ps_set (i := 10) nd rfl (.inl rfl) (pe_op op_cat (pe_op op_rep (pe_lst (pa_cons (pe_ifExp (pt_cmpR op_gt (pv 9) pe_int (nomark _)) (pe_tup (pa_cons pe_str (pa_cons pe_str (pa_cons pe_int pa_nil)))) pe_non) pa_nil)) pe_int) (pe_op op_rep (pe_lst (pa_cons (pe_ifExp (pt_cmpR op_gt (pv 9) pe_int (nomark _)) (pe_tup (pa_cons pe_str (pa_cons pe_str (pa_cons pe_int pa_nil)))) pe_non) pa_nil)) pe_int)))
      (pss_cons (ps_if (pt_cmpR (op_neD hr.units) (pe_callG GF hgd hr (by rfl) gF FF.kp bF pass0 (pa_cons (pe_call GL hr (by rfl) gL FL.kp bL .nil pass0 (pa_cons (pv 9) pa_nil)) (pa_cons (pe_listRg rfl (by rfl) mlist (prg_1 (by rfl) mrange (pv 9))) (pa_cons pe_int pa_nil)))) (pv 10) (nomark _)) (pss_one (ps_ret pe_bl)) pss_nil)
      (pss_one (ps_ret (pe_cmpR (op_eqD hr.units) (pe_callG GF hgd hr (by rfl) gF FF.kp bF pass0 (pa_cons (pe_call GL hr (by rfl) gL FL.kp bL .nil pass0 (pa_cons (pv 9) pa_nil)) (pa_cons (pe_listRg rfl (by rfl) mlist (prg_1 (by rfl) mrange (pe_op op_sub (pv 9) pe_int))) (pa_cons pe_int pa_nil)))) (pe_op op_rep (pe_lst (pa_cons (pe_tup (pa_cons pe_str (pa_cons pe_str pa_nil))) pa_nil)) pe_int) (nomark _)))))))))))))))), ?_⟩
    refine asg_go ?_
    refine ⟨.ref a, rfl, a, ns, rfl, hS, by omega, fun t c0 H1 ht hc sm T0 => ?_⟩
    have o1 : Od (Ts T) t c0 0 H1 := ⟨hT.ext sm, T0⟩
    refine asg_go ?_
    refine ⟨.ref t, rfl, t, c0, 5, 0, rfl, T0, by omega, by omega, by omega, fun r H2 r0 r1 k2 T2 => ⟨1, r, rfl, rfl, ?_⟩⟩
    obtain ⟨m, hm, m1, m5⟩ : ∃ m : Nat, (1 : Int) + r = (m : Int) ∧ 1 ≤ m ∧ m ≤ 5 := ⟨(1 + r).toNat, by omega, by omega, by omega⟩
    dsimp only
    rw [hm]
    have o2 := o1.kept k2 T2
    clear hm k2 T2 o1 T0 hc ht sm r0 r1
    refine par_go (cons_any ⟨.int (m : Int), rfl, m, rfl, m1, by omega, fun x H3 e3 hx => cons_any ⟨.int (m : Int), rfl, m, rfl, ⟨by omega, by omega, by omega, by omega, by omega⟩, fun rr hrr => ⟨_, _, rfl, ?_⟩⟩⟩)
    rw [rgV_right]
    have eN := Evl.Ex.new (o := .lst (rightV m)) hrr
    have o3 := o2.ex (e3.trans eN)
    have hw := (hx.ex eN).stripT o3.tub
    have hR : strip t (upd H3 rr (.lst (rightV m))) rr = some (.lst (rightV m)) := new_at (o2.ex e3) hrr upd_same fun ps z => nomatch z
    generalize upd H3 rr (.lst (rightV m)) = H4 at o3 hw hR ⊢
    clear eN hx e3 o2
    have hOk := ok_lineT m1 (show m ≤ 1000 by omega)
    -- none
    refine asg_go (call_raw (cons_any ⟨.ref t, rfl, cons_any (ew_none (K := K) TW rfl hw hOk H4 _ (Evl.Ex.refl _) o3 fun v5 H5 e5 o5 w5 => ?_)⟩))
    obtain ⟨pl, vs, rfl, hp, hlen, hall⟩ := w5
    refine ⟨t, c0, pl, vs, 1, rfl, o5.tub, by omega, (strip_le hp).1, Evl.sq_of (strip_ex _ _ hp), by omega, by omega, fun j nv H6 hj k6 T6 => ?_⟩
    have nw := NoWeb.mono _ _ _ (sx_kept k6) (hall nv (List.mem_of_getElem? hj))
    have o6 := o5.kept k6 T6
    have e46 := e5.trans (sx_kept k6)
    clear hall hj hp hlen k6 T6 e5 o5 o3
    -- odd
    refine asg_go (call_raw (cons_any ⟨.ref t, rfl, cons_any (ew_odd (K := K) (m := m) rfl m1 (by omega) H6 _ (Evl.Ex.refl _) o6 fun v5 H7 e7 o7 w7 => ?_)⟩))
    obtain ⟨pl2, vs2, rfl, hp, hlen, hall⟩ := w7
    refine ⟨t, c0, pl2, vs2, 2, rfl, o7.tub, by omega, (strip_le hp).1, Evl.sq_of (strip_ex _ _ hp), by omega, by omega, fun j ov H8 hj k8 T8 => ?_⟩
    have ow := OddW.mono _ _ _ (sx_kept k8) (hall ov (List.mem_of_getElem? hj))
    have o8 := o7.kept k8 T8
    have e68 := e7.trans (sx_kept k8)
    have nw := NoWeb.mono _ _ _ e68 nw
    have e48 := e46.trans e68
    clear hall hj hp hlen k8 T8 e7 o7 o6 e46 e68
    -- few
    refine asg_go (call_raw (cons_any ⟨.ref t, rfl, cons_any (ew_few (K := K) (m := m) (r := rr) rfl (e48 _ _ hR) m1 (by omega) H8 _ (Evl.Ex.refl _) o8 fun v5 H9 e9 o9 w9 => ?_)⟩))
    obtain ⟨pl3, vs3, rfl, hp, hlen, hall⟩ := w9
    refine ⟨t, c0, pl3, vs3, 3, rfl, o9.tub, by omega, (strip_le hp).1, Evl.sq_of (strip_ex _ _ hp), by omega, by omega, fun j fv H10 hj k10 T10 => ?_⟩
    have fw := FewW.mono _ _ _ (sx_kept k10) (hall fv (List.mem_of_getElem? hj))
    have o10 := o9.kept k10 T10
    have e810 := e9.trans (sx_kept k10)
    have nw := NoWeb.mono _ _ _ e810 nw
    have ow := OddW.mono _ _ _ e810 ow
    have e410 := e48.trans e810
    clear hall hj hp hlen k10 T10 e9 o9 o8 e48 e810
    -- bad
    refine asg_go (call_raw (cons_any ⟨.ref t, rfl, cons_any (ew_bad (K := K) H10 _ (Evl.Ex.refl _) o10 fun v5 H11 e11 o11 w11 => ?_)⟩))
    obtain ⟨pl4, vs4, rfl, hp, hlen, hall⟩ := w11
    refine ⟨t, c0, pl4, vs4, 4, rfl, o11.tub, by omega, (strip_le hp).1, Evl.sq_of (strip_ex _ _ hp), by omega, by omega, fun j bv H12 hj k12 T12 => ?_⟩
    have bw := BadNW.mono _ _ _ (sx_kept k12) (hall bv (List.mem_of_getElem? hj))
    have o12 := o11.kept k12 T12
    have e1012 := e11.trans (sx_kept k12)
    have nw := NoWeb.mono _ _ _ e1012 nw
    have ow := OddW.mono _ _ _ e1012 ow
    have fw := FewW.mono _ _ _ e1012 fw
    have e412 := e410.trans e1012
    have hw := hw.ex e412
    have hR := e412 _ _ hR
    clear hall hj hp hlen k12 T12 e11 o11 o10 e410 e1012 e412
    have hTm : (T, nmF) ∈ Ts T := List.mem_cons_self
    obtain ⟨ps, hTt, _, _⟩ := o12.tabs (T, nmF) hTm
    have e7B : Evl.Ex (strip t H12) (strip T H12) := fun a o h => strip_tb (t := T) hTt (strip_le h).2.1 (strip_le h).2.2
    have LV : Live (Ts T) (strip T H12) H12 := ⟨strip_ex, strip_nt, o12.tabs⟩
    have TB := tub_strip hTt o12.tub
    have nw := NoWeb.mono _ _ _ e7B nw
    have ow := OddW.mono _ _ _ e7B ow
    have fw := FewW.mono _ _ _ e7B fw
    have bw := BadNW.mono _ _ _ e7B bw
    have hw := hw.ex e7B
    have hR := e7B _ _ hR
    clear e7B hTt o12
    generalize strip T H12 = B at LV TB nw ow fw bw hw hR
    obtain ⟨nn, nw⟩ := nw
    obtain ⟨⟨bn, bt⟩, bwi⟩ := bw
    obtain ⟨fa, fxs, rfl, fs, fne, frow⟩ := fw
    have a5 : Evl.EvA (tCons (tVar 5) (tCons (tVar 6) (tCons (tVar 8) tNil))) [some (.ref a), some (.ref t), some (.int (m : Int)), some (.ref x), some (.ref rr), some nv, some ov, some (.ref fa), some bv, none, none] H12 [nv, ov, bv] := Evl.ea_cons (Evl.ev_var rfl) (Evl.ea_cons (Evl.ev_var rfl) (Evl.ea_cons (Evl.ev_var rfl) Evl.ea_nil))
    have two : ∀ {a b : Str} {σ : L2.St} {H : Hp}, EvDL K (tOp rRep (tLst (tCons (tTup (tCons (tC (.str a)) (tCons (tC (.str b)) tNil))) tNil)) (tC (.int ((4 : Nat) : Int)))) σ H (List.replicate 4 (.tuple [.str a, .str b])) := fun {a b σ H} => edl_rep (by decide) ed_two
    -- none
    refine or_go (op_go (ask_of (o1 := .web) (o2 := .web) LV a5 (.web (.no nw) ow) (.web (.web (.no nw) ow) bt) (four_ne (fun _ _ _ _ => two) fun B1 G1 L1 x1 => ⟨false, rfl, if_go (fun z => nomatch z) fun _ => ?_⟩)))
    refine op_go (ask_of (o1 := .col) (o2 := .col) (v := .ref x) (x := ov) (y := bv) L1 (Evl.ea_cons (Evl.ev_var rfl) (Evl.ea_cons (Evl.ev_var rfl) (Evl.ea_cons (Evl.ev_var rfl) Evl.ea_nil))) (.col (.web (hw.ex x1)) (ow.ex x1)) (.col (.col (.web (hw.ex x1)) (ow.ex x1)) (bt.ex x1)) (four_ne (fun _ _ _ _ => two) fun B2 G2 Lb x2 => ⟨false, rfl, if_go (fun z => nomatch z) fun _ => ?_⟩))
    have y2 := x1.trans x2
    clear a5 x1 x2 L1 LV
    have rep2 : ∀ {a b : Str} {σ : L2.St} {H : Hp}, EvDL K (tOp rRep (tLst (tCons (tTup (tCons (tC (.str a)) (tCons (tC (.str b)) tNil))) tNil)) (tC (.int ((2 : Nat) : Int)))) σ H (List.replicate 2 (.tuple [.str a, .str b])) := fun {a b σ H} => edl_rep (by decide) ed_two
    have fl : fxs.length ≠ (lineT m).length := by rw [lineT_len]; exact fne
    have mis : ∀ {B' : Hp} {mx : Nat}, Evl.Ex B B' → AskR K C B' (.ref x) (.ref fa) mx .mis := fun e => .mis (.web (hw.ex e)) (frow.ex e) rfl (fs.ex e) fl
    -- few
    refine or_go (op_go (ask_of (o1 := .mis) (o2 := .num) (v := .ref x) (x := .ref fa) (y := bv) Lb (Evl.ea_cons (Evl.ev_var rfl) (Evl.ea_cons (Evl.ev_var rfl) (Evl.ea_cons (Evl.ev_var rfl) Evl.ea_nil))) (mis y2) (.num (.web (hw.ex y2)) (frow.ex y2) (bt.ex y2) bwi)
      (four_ne (fun _ _ _ _ => edl_cat rep2 rep2 (by decide)) fun B3 G3 L3 x3 => ⟨false, rfl, if_go (fun z => nomatch z) fun _ => ?_⟩)))
    have y3 := y2.trans x3
    refine op_go (ask_of (o1 := .mis) (o2 := .mis) (v := .ref x) (x := .ref fa) (y := .int 3) L3 (Evl.ea_cons (Evl.ev_var rfl) (Evl.ea_cons (Evl.ev_var rfl) (Evl.ea_cons Evl.ev_c Evl.ea_nil))) (mis y3) (.past (m := 3) (mis y3) ⟨(fun z => nomatch z), fun z => nomatch z⟩ rfl (by decide) (by decide))
      (four_ne (fun _ _ _ _ => two) fun B4 G4 L4 x4 => ⟨false, rfl, if_go (fun z => nomatch z) fun _ => ?_⟩))
    have y4 := y3.trans x4
    clear y2 y3 x3 x4 Lb L3 mis fl
    -- right
    have calm : ∀ {B' : Hp} {mx : Nat}, 5 ≤ mx → Evl.Ex B B' → AskR K C B' (.ref x) (.ref rr) mx .calm := fun {B' mx} h e => by
      have := ask_right (K := K) (C := C) (hw.ex e) (e _ _ hR) m1 (by omega) mx
      rwa [oG_calm (Nat.le_trans m5 h)] at this
    refine or_go (op_go (ask_of (o1 := .calm) (o2 := .num) (v := .ref x) (x := .ref rr) (y := bv) L4 (Evl.ea_cons (Evl.ev_var rfl) (Evl.ea_cons (Evl.ev_var rfl) (Evl.ea_cons (Evl.ev_var rfl) Evl.ea_nil))) (calm (by decide) y4) (.num (.web (hw.ex y4)) (row_right (y4 _ _ hR) (by omega)) (bt.ex y4) bwi)
      (four_ne (fun _ _ _ _ => edl_nn) fun B5 G5 L5 x5 => ⟨false, rfl, if_go (fun z => nomatch z) fun _ => ?_⟩)))
    have y5 := y4.trans x5
    refine op_go (ask_of (o1 := .calm) (o2 := .calm) (v := .ref x) (x := .ref rr) (y := .int 4) L5 (Evl.ea_cons (Evl.ev_var rfl) (Evl.ea_cons (Evl.ev_var rfl) (Evl.ea_cons Evl.ev_c Evl.ea_nil))) (calm (by decide) y5) (.past (m := 4) (calm (by decide) y5) ⟨(fun z => nomatch z), fun z => nomatch z⟩ rfl (by decide) (by decide))
      (four_ne (fun _ _ _ _ => edl_rep (n := 4) (by decide) ed_non) fun B6 G6 L6 x6 => ⟨false, rfl, if_go (fun z => nomatch z) fun _ => ?_⟩))
    have o6 : Od (Ts T) t c0 5 G6 := ⟨L6.tabs, (TB.ex (y5.trans x6)).ex L6.ex⟩
    clear calm y4 y5 x5 x6 L4 L5 L6 TB hR hw frow fs fne bt bwi nw ow two hOk
    -- great
    refine asg_go (call_raw (cons_any ⟨.ref t, rfl, cons_any (ew_great G6 _ (Evl.Ex.refl _) o6 fun v5 H5 e5 o5 w5 => ?_)⟩))
    obtain ⟨pl, vs, rfl, hp, hlen, hall⟩ := w5
    refine ⟨t, c0, pl, vs, 5, rfl, o5.tub, by omega, (strip_le hp).1, Evl.sq_of (strip_ex _ _ hp), by omega, by omega, fun j gv H6 hj k6 T6 => ?_⟩
    obtain ⟨g, rfl, g1, g2⟩ := hall gv (List.mem_of_getElem? hj)
    have o7 := o5.kept k6 T6
    clear hall hj hp hlen k6 T6 e5 o5 o6
    -- due
    refine asg_go ((edl_cat (K := K) (ds := List.replicate 2 (ansD (oG 40 g))) (es := List.replicate 2 (ansD (oG 24 g))) (edl_rep (n := 2) (by decide) (ed_due (g := g) (mx := 40) rfl)) (edl_rep (n := 2) (by decide) (ed_due (g := g) (mx := 24) rfl)) (by rw [List.length_replicate, List.length_replicate]; decide)) H6 (Evl.Ex.refl _) _ fun dp dxs H8 e8 hdp hdd => ?_)
    have o8 := o7.ex e8
    obtain ⟨ps, hTt, _, _⟩ := o8.tabs (T, nmF) hTm
    have LV : Live (Ts T) (strip T H8) H8 := ⟨strip_ex, strip_nt, o8.tabs⟩
    have dB := strip_tb (t := T) hTt hdp fun ps z => nomatch z
    have ddB := dpa_strip hTt hdd
    have tT : ∀ {H9 : Hp}, Evl.Ex H8 H9 → ∃ ps, H9 T = some (.tbl ps) := fun e => ⟨ps, e _ _ hTt⟩
    clear o7 e8 hdp hdd
    refine ift_go (op_go (call_raw (cons_any ⟨.int (g : Int), rfl, g, rfl, by omega, by omega, fun x1 H9 e9 hx => cons_any ⟨.int (g : Int), rfl, (g : Int), rfl, ⟨by omega, by omega, by omega, by omega, by omega⟩, fun r1 hr1 => cons_c ?_⟩⟩)))
    rw [rgV_right]
    have eN := Evl.Ex.new (o := .lst (rightV g)) hr1
    have e89 := e9.trans eN
    have hr9 : upd H9 r1 (.lst (rightV g)) r1 = some (.lst (rightV g)) := upd_same
    have hx9 := hx.ex eN
    generalize upd H9 r1 (.lst (rightV g)) = H10 at e89 hr9 hx9
    have h10 := e89 _ _ hTt
    have L10 : Live (Ts T) (strip T H10) H10 := ⟨strip_ex, strip_nt, o8.tabs.ext e89⟩
    have x89 : Evl.Ex (strip T H8) (strip T H10) := sx_ex (t := T) e89
    have r10 := strip_tb (t := T) h10 hr9 fun ps z => nomatch z
    have w10 := hx9.stripB h10
    refine four_ne (o1 := oG 40 g) (o2 := oG 24 g) (E := E0) (B := strip T H10) (te := tVar 10) (fun B' H1 L e => edl_var rfl (L.ex _ _ (e _ _ (x89 _ _ dB))) (dpa_ex (x89.trans (e.trans L.ex)) ddB)) (fun B7 G7 L7 x7 => ⟨false, rfl, if_go (fun z => nomatch z) fun _ => ?_⟩) [.ref x1, .ref r1, .int 1] H10
      ⟨.ref x1, .ref r1, .int 1, strip T H10, rfl, L10, Evl.Ex.refl _, ask_right w10 r10 (by omega) (by omega) 40, .past (m := 1) (ask_right w10 r10 (by omega) (by omega) 24) oG_no rfl (by decide) (by decide)⟩
    have t11 := L7.tabs
    clear L10 x89 r10 w10 h10 hr9 hx9 e89 eN e9 hx hr1 LV dB ddB tT hTt o8 x7
    -- the last
    refine ret_go (op_go (call_raw (cons_any ⟨.int (g : Int), rfl, g, rfl, by omega, by omega, fun x2 H11 e11 hx => cons_any ⟨.int (g : Int), rfl, (g : Int), 1, rfl, rfl, _, rfl, ⟨by omega, by omega, by omega, by omega, by omega⟩, fun r2 hr2' => cons_c ?_⟩⟩)))
    rw [show (g : Int) - 1 = ((g - 1 : Nat) : Int) by omega, rgV_right]
    have eN := Evl.Ex.new (o := .lst (rightV (g - 1))) hr2'
    have e12 := e11.trans eN
    have hr9 : upd H11 r2 (.lst (rightV (g - 1))) r2 = some (.lst (rightV (g - 1))) := upd_same
    have hx9 := hx.ex eN
    have t12 := t11.ext e12
    generalize upd H11 r2 (.lst (rightV (g - 1))) = H12 at t12 hr9 hx9
    obtain ⟨ps2, h12, _, _⟩ := t12 (T, nmF) hTm
    have L12 : Live (Ts T) (strip T H12) H12 := ⟨strip_ex, strip_nt, t12⟩
    have r12 := strip_tb (t := T) h12 hr9 fun ps z => nomatch z
    have w12 := hx9.stripB h12
    have mis : ∀ mx, AskR K C (strip T H12) (.ref x2) (.ref r2) mx .mis := fun mx => .mis (.web w12) (row_right r12 (by omega)) rfl (.inl (Evl.sq_of r12)) (by rw [rightV_len, lineT_len]; omega)
    exact four_eq (E := E0) (o1 := .mis) (o2 := .mis) (B := strip T H12) (fun _ _ _ _ => edl_rep (n := 4) (by decide) ed_two) (fun H' => q H') [.ref x2, .ref r2, .int 1] H12
      ⟨.ref x2, .ref r2, .int 1, strip T H12, rfl, L12, Evl.Ex.refl _, mis 40, .past (m := 1) (mis 24) ⟨(fun z => nomatch z), fun z => nomatch z⟩ rfl (by decide) (by decide)⟩
end
end P59
end S_Lw
section S_LA
namespace P59
open PySem PySem.Spec PyProof.Rows L2 Tl Hk LamX
theorem sw3_rel {vs zs : List V} {us ws : List Value} (_ : Vals vs us) (h : Vals zs ws) : Vals (sw3 vs zs) (sw3 us ws) := by
  cases h with
  | nil => exact .nil
  | cons h1 h =>
    cases h with
    | nil => exact .cons h1 .nil
    | cons h2 h =>
      cases h with
      | nil => exact .cons h1 (.cons h2 .nil)
      | cons h3 h =>
        cases h with
        | nil => exact .cons h1 (.cons h3 (.cons h2 .nil))
        | cons h4 h => exact .cons h1 (.cons h2 (.cons h3 (.cons h4 h)))
set_option maxHeartbeats 4000000 in
theorem all_mk {l : PySem.W.OpenLaw} {w : World} {K : PySem.W.Frag} {h : Heap} {mg : Str → Option Value} {qq : Program} {fa fIn fWi fLi fRo fUn fLo fFx fWa fWw fAr fIt fTi fTt fIw fJw fSw fJy fSy fWo fWf fWy fAl fNe fEc fRe fSp fWd fPk fHe fLn fLf fLa c1 T1 CS CB fBI CE fEI CC fCI CF fFI CM fMI WC fWI fWS XE XR fPI SC fSC daSC clSC FC fFC daFC clFC : Addr} (X : K.In h) (G : h.Ns mainGlobals mg) (hfa : mg "law" = some (.ref fa))
    {odIn anIn : Option Addr} {slIn : Array (Option Value)} {ocIn kVIn dcIn pmIn cdIn ctIn : Value}
    (aIn : PySem.W.nsIn K mainGlobals "is_integer" = some (some (.ref fIn)))
    (lIn : K.lookup fIn = some ⟨ocIn, odIn, .func (PySem.W.fnOf "is_integer" "is_integer" (defArgs sInteger) (defBody sInteger) (defScope sInteger) .none kVIn dcIn pmIn anIn cdIn ctIn), slIn⟩)
    (cIn : PySem.W.codeIn K cdIn "is_integer" = true)
    (kIn : PySem.W.keepIn K (.ref fIn) = true)
    {odWi anWi : Option Addr} {slWi : Array (Option Value)} {ocWi kVWi dcWi pmWi cdWi ctWi : Value}
    (aWi : PySem.W.nsIn K mainGlobals "is_within" = some (some (.ref fWi)))
    (lWi : K.lookup fWi = some ⟨ocWi, odWi, .func (PySem.W.fnOf "is_within" "is_within" (defArgs sWithin) (defBody sWithin) (defScope sWithin) .none kVWi dcWi pmWi anWi cdWi ctWi), slWi⟩)
    (cWi : PySem.W.codeIn K cdWi "is_within" = true)
    (kWi : PySem.W.keepIn K (.ref fWi) = true)
    {odLi anLi : Option Addr} {slLi : Array (Option Value)} {ocLi kVLi dcLi pmLi cdLi ctLi : Value}
    (aLi : PySem.W.nsIn K mainGlobals "is_list" = some (some (.ref fLi)))
    (lLi : K.lookup fLi = some ⟨ocLi, odLi, .func (PySem.W.fnOf "is_list" "is_list" (defArgs sList) (defBody sList) (defScope sList) .none kVLi dcLi pmLi anLi cdLi ctLi), slLi⟩)
    (cLi : PySem.W.codeIn K cdLi "is_list" = true)
    (kLi : PySem.W.keepIn K (.ref fLi) = true)
    {odRo anRo : Option Addr} {slRo : Array (Option Value)} {ocRo kVRo dcRo pmRo cdRo ctRo : Value}
    (aRo : PySem.W.nsIn K mainGlobals "is_row" = some (some (.ref fRo)))
    (lRo : K.lookup fRo = some ⟨ocRo, odRo, .func (PySem.W.fnOf "is_row" "is_row" (defArgs sRow) (defBody sRow) (defScope sRow) .none kVRo dcRo pmRo anRo cdRo ctRo), slRo⟩)
    (cRo : PySem.W.codeIn K cdRo "is_row" = true)
    (kRo : PySem.W.keepIn K (.ref fRo) = true)
    {odUn anUn : Option Addr} {slUn : Array (Option Value)} {ocUn kVUn dcUn pmUn cdUn ctUn : Value}
    (aUn : PySem.W.nsIn K mainGlobals "are_unlike" = some (some (.ref fUn)))
    (lUn : K.lookup fUn = some ⟨ocUn, odUn, .func (PySem.W.fnOf "are_unlike" "are_unlike" (defArgs sUn) (defBody sUn) (defScope sUn) .none kVUn dcUn pmUn anUn cdUn ctUn), slUn⟩)
    (cUn : PySem.W.codeIn K cdUn "are_unlike" = true)
    (kUn : PySem.W.keepIn K (.ref fUn) = true)
    {odLo anLo : Option Addr} {slLo : Array (Option Value)} {ocLo kVLo dcLo pmLo cdLo ctLo : Value}
    (aLo : PySem.W.nsIn K mainGlobals "is_lot" = some (some (.ref fLo)))
    (lLo : K.lookup fLo = some ⟨ocLo, odLo, .func (PySem.W.fnOf "is_lot" "is_lot" (defArgs sLot) (defBody sLot) (defScope sLot) .none kVLo dcLo pmLo anLo cdLo ctLo), slLo⟩)
    (cLo : PySem.W.codeIn K cdLo "is_lot" = true)
    (kLo : PySem.W.keepIn K (.ref fLo) = true)
    {odFx anFx : Option Addr} {slFx : Array (Option Value)} {ocFx kVFx dcFx pmFx cdFx ctFx : Value}
    (aFx : PySem.W.nsIn K mainGlobals "fixed" = some (some (.ref fFx)))
    (lFx : K.lookup fFx = some ⟨ocFx, odFx, .func (PySem.W.fnOf "fixed" "fixed" (defArgs sFixed) (defBody sFixed) (defScope sFixed) .none kVFx dcFx pmFx anFx cdFx ctFx), slFx⟩)
    (cFx : PySem.W.codeIn K cdFx "fixed" = true)
    (kFx : PySem.W.keepIn K (.ref fFx) = true)
    {odWa anWa : Option Addr} {slWa : Array (Option Value)} {ocWa kVWa dcWa pmWa cdWa ctWa : Value}
    (aWa : PySem.W.nsIn K mainGlobals "want_number" = some (some (.ref fWa)))
    (lWa : K.lookup fWa = some ⟨ocWa, odWa, .func (PySem.W.fnOf "want_number" "want_number" (defArgs sWant) (defBody sWant) (defScope sWant) .none kVWa dcWa pmWa anWa cdWa ctWa), slWa⟩)
    (cWa : PySem.W.codeIn K cdWa "want_number" = true)
    (kWa : PySem.W.keepIn K (.ref fWa) = true)
    {odWw anWw : Option Addr} {slWw : Array (Option Value)} {ocWw kVWw dcWw pmWw cdWw ctWw : Value}
    (aWw : PySem.W.nsIn K mainGlobals "want_web" = some (some (.ref fWw)))
    (lWw : K.lookup fWw = some ⟨ocWw, odWw, .func (PySem.W.fnOf "want_web" "want_web" (defArgs sWantWeb) (defBody sWantWeb) (defScope sWantWeb) .none kVWw dcWw pmWw anWw cdWw ctWw), slWw⟩)
    (cWw : PySem.W.codeIn K cdWw "want_web" = true)
    (kWw : PySem.W.keepIn K (.ref fWw) = true)
    {odAr anAr : Option Addr} {slAr : Array (Option Value)} {ocAr kVAr dcAr pmAr cdAr ctAr : Value}
    (aAr : PySem.W.nsIn K mainGlobals "_are_turns" = some (some (.ref fAr)))
    (lAr : K.lookup fAr = some ⟨ocAr, odAr, .func (PySem.W.fnOf "_are_turns" "_are_turns" (defArgs sAreTurns) (defBody sAreTurns) (defScope sAreTurns) .none kVAr dcAr pmAr anAr cdAr ctAr), slAr⟩)
    (cAr : PySem.W.codeIn K cdAr "_are_turns" = true)
    (kAr : PySem.W.keepIn K (.ref fAr) = true)
    {odIt anIt : Option Addr} {slIt : Array (Option Value)} {ocIt kVIt dcIt pmIt cdIt ctIt : Value}
    (aIt : PySem.W.nsIn K mainGlobals "_is_turn" = some (some (.ref fIt)))
    (lIt : K.lookup fIt = some ⟨ocIt, odIt, .func (PySem.W.fnOf "_is_turn" "_is_turn" (defArgs sIsTurn) (defBody sIsTurn) (defScope sIsTurn) .none kVIt dcIt pmIt anIt cdIt ctIt), slIt⟩)
    (cIt : PySem.W.codeIn K cdIt "_is_turn" = true)
    (kIt : PySem.W.keepIn K (.ref fIt) = true)
    {odTi anTi : Option Addr} {slTi : Array (Option Value)} {ocTi kVTi dcTi pmTi cdTi ctTi : Value}
    (aTi : PySem.W.nsIn K mainGlobals "_ties_of" = some (some (.ref fTi)))
    (lTi : K.lookup fTi = some ⟨ocTi, odTi, .func (PySem.W.fnOf "_ties_of" "_ties_of" (defArgs sTies) (defBody sTies) (defScope sTies) .none kVTi dcTi pmTi anTi cdTi ctTi), slTi⟩)
    (cTi : PySem.W.codeIn K cdTi "_ties_of" = true)
    (kTi : PySem.W.keepIn K (.ref fTi) = true)
    {odTt anTt : Option Addr} {slTt : Array (Option Value)} {ocTt kVTt dcTt pmTt cdTt ctTt : Value}
    (aTt : PySem.W.nsIn K mainGlobals "_turn_text" = some (some (.ref fTt)))
    (lTt : K.lookup fTt = some ⟨ocTt, odTt, .func (PySem.W.fnOf "_turn_text" "_turn_text" (defArgs sTurnText) (defBody sTurnText) (defScope sTurnText) .none kVTt dcTt pmTt anTt cdTt ctTt), slTt⟩)
    (cTt : PySem.W.codeIn K cdTt "_turn_text" = true)
    (kTt : PySem.W.keepIn K (.ref fTt) = true)
    {odIw anIw : Option Addr} {slIw : Array (Option Value)} {ocIw kVIw dcIw pmIw cdIw ctIw : Value}
    (aIw : PySem.W.nsIn K mainGlobals "is_word" = some (some (.ref fIw)))
    (lIw : K.lookup fIw = some ⟨ocIw, odIw, .func (PySem.W.fnOf "is_word" "is_word" (defArgs sIsWord) (defBody sIsWord) (defScope sIsWord) .none kVIw dcIw pmIw anIw cdIw ctIw), slIw⟩)
    (cIw : PySem.W.codeIn K cdIw "is_word" = true)
    (kIw : PySem.W.keepIn K (.ref fIw) = true)
    {odJw anJw : Option Addr} {slJw : Array (Option Value)} {ocJw kVJw dcJw pmJw cdJw ctJw : Value}
    (aJw : PySem.W.nsIn K mainGlobals "judged_walks" = some (some (.ref fJw)))
    (lJw : K.lookup fJw = some ⟨ocJw, odJw, .func (PySem.W.fnOf "judged_walks" "judged_walks" (defArgs sJWalks) (defBody sJWalks) (defScope sJWalks) .none kVJw dcJw pmJw anJw cdJw ctJw), slJw⟩)
    (cJw : PySem.W.codeIn K cdJw "judged_walks" = true)
    (kJw : PySem.W.keepIn K (.ref fJw) = true)
    {odSw anSw : Option Addr} {slSw : Array (Option Value)} {ocSw kVSw dcSw pmSw cdSw ctSw : Value}
    (aSw : PySem.W.nsIn K mainGlobals "shows_walks" = some (some (.ref fSw)))
    (lSw : K.lookup fSw = some ⟨ocSw, odSw, .func (PySem.W.fnOf "shows_walks" "shows_walks" (defArgs sSWalks) (defBody sSWalks) (defScope sSWalks) .none kVSw dcSw pmSw anSw cdSw ctSw), slSw⟩)
    (cSw : PySem.W.codeIn K cdSw "shows_walks" = true)
    (kSw : PySem.W.keepIn K (.ref fSw) = true)
    {odJy anJy : Option Addr} {slJy : Array (Option Value)} {ocJy kVJy dcJy pmJy cdJy ctJy : Value}
    (aJy : PySem.W.nsIn K mainGlobals "judged_ways" = some (some (.ref fJy)))
    (lJy : K.lookup fJy = some ⟨ocJy, odJy, .func (PySem.W.fnOf "judged_ways" "judged_ways" (defArgs sJWays) (defBody sJWays) (defScope sJWays) .none kVJy dcJy pmJy anJy cdJy ctJy), slJy⟩)
    (cJy : PySem.W.codeIn K cdJy "judged_ways" = true)
    (kJy : PySem.W.keepIn K (.ref fJy) = true)
    {odSy anSy : Option Addr} {slSy : Array (Option Value)} {ocSy kVSy dcSy pmSy cdSy ctSy : Value}
    (aSy : PySem.W.nsIn K mainGlobals "shows_ways" = some (some (.ref fSy)))
    (lSy : K.lookup fSy = some ⟨ocSy, odSy, .func (PySem.W.fnOf "shows_ways" "shows_ways" (defArgs sSWays) (defBody sSWays) (defScope sSWays) .none kVSy dcSy pmSy anSy cdSy ctSy), slSy⟩)
    (cSy : PySem.W.codeIn K cdSy "shows_ways" = true)
    (kSy : PySem.W.keepIn K (.ref fSy) = true)
    {odWo anWo : Option Addr} {slWo : Array (Option Value)} {ocWo kVWo dcWo pmWo cdWo ctWo : Value}
    (aWo : PySem.W.nsIn K mainGlobals "_want_web_and_word" = some (some (.ref fWo)))
    (lWo : K.lookup fWo = some ⟨ocWo, odWo, .func (PySem.W.fnOf "_want_web_and_word" "_want_web_and_word" (defArgs sWantWord) (defBody sWantWord) (defScope sWantWord) .none kVWo dcWo pmWo anWo cdWo ctWo), slWo⟩)
    (cWo : PySem.W.codeIn K cdWo "_want_web_and_word" = true)
    (kWo : PySem.W.keepIn K (.ref fWo) = true)
    {odWf anWf : Option Addr} {slWf : Array (Option Value)} {ocWf kVWf dcWf pmWf cdWf ctWf : Value}
    (aWf : PySem.W.nsIn K mainGlobals "_want_fit" = some (some (.ref fWf)))
    (lWf : K.lookup fWf = some ⟨ocWf, odWf, .func (PySem.W.fnOf "_want_fit" "_want_fit" (defArgs sWantFit) (defBody sWantFit) (defScope sWantFit) .none kVWf dcWf pmWf anWf cdWf ctWf), slWf⟩)
    (cWf : PySem.W.codeIn K cdWf "_want_fit" = true)
    (kWf : PySem.W.keepIn K (.ref fWf) = true)
    {odWy anWy : Option Addr} {slWy : Array (Option Value)} {ocWy kVWy dcWy pmWy cdWy ctWy : Value}
    (aWy : PySem.W.nsIn K mainGlobals "_want_ways" = some (some (.ref fWy)))
    (lWy : K.lookup fWy = some ⟨ocWy, odWy, .func (PySem.W.fnOf "_want_ways" "_want_ways" (defArgs sWantWays) (defBody sWantWays) (defScope sWantWays) .none kVWy dcWy pmWy anWy cdWy ctWy), slWy⟩)
    (cWy : PySem.W.codeIn K cdWy "_want_ways" = true)
    (kWy : PySem.W.keepIn K (.ref fWy) = true)
    {odAl anAl : Option Addr} {slAl : Array (Option Value)} {ocAl kVAl dcAl pmAl cdAl ctAl : Value}
    (aAl : PySem.W.nsIn K mainGlobals "_pairs_alike" = some (some (.ref fAl)))
    (lAl : K.lookup fAl = some ⟨ocAl, odAl, .func (PySem.W.fnOf "_pairs_alike" "_pairs_alike" (defArgs sAlike) (defBody sAlike) (defScope sAlike) .none kVAl dcAl pmAl anAl cdAl ctAl), slAl⟩)
    (cAl : PySem.W.codeIn K cdAl "_pairs_alike" = true)
    (kAl : PySem.W.keepIn K (.ref fAl) = true)
    {odNe anNe : Option Addr} {slNe : Array (Option Value)} {ocNe kVNe dcNe pmNe cdNe ctNe : Value}
    (aNe : PySem.W.nsIn K mainGlobals "_near_places" = some (some (.ref fNe)))
    (lNe : K.lookup fNe = some ⟨ocNe, odNe, .func (PySem.W.fnOf "_near_places" "_near_places" (defArgs sNear) (defBody sNear) (defScope sNear) .none kVNe dcNe pmNe anNe cdNe ctNe), slNe⟩)
    (cNe : PySem.W.codeIn K cdNe "_near_places" = true)
    (kNe : PySem.W.keepIn K (.ref fNe) = true)
    {odEc anEc : Option Addr} {slEc : Array (Option Value)} {ocEc kVEc dcEc pmEc cdEc ctEc : Value}
    (aEc : PySem.W.nsIn K mainGlobals "_echo_walk" = some (some (.ref fEc)))
    (lEc : K.lookup fEc = some ⟨ocEc, odEc, .func (PySem.W.fnOf "_echo_walk" "_echo_walk" (defArgs sEcho) (defBody sEcho) (defScope sEcho) .none kVEc dcEc pmEc anEc cdEc ctEc), slEc⟩)
    (cEc : PySem.W.codeIn K cdEc "_echo_walk" = true)
    (kEc : PySem.W.keepIn K (.ref fEc) = true)
    {odRe anRe : Option Addr} {slRe : Array (Option Value)} {ocRe kVRe dcRe pmRe cdRe ctRe : Value}
    (aRe : PySem.W.nsIn K mainGlobals "_repeat_way" = some (some (.ref fRe)))
    (lRe : K.lookup fRe = some ⟨ocRe, odRe, .func (PySem.W.fnOf "_repeat_way" "_repeat_way" (defArgs sRep) (defBody sRep) (defScope sRep) .none kVRe dcRe pmRe anRe cdRe ctRe), slRe⟩)
    (cRe : PySem.W.codeIn K cdRe "_repeat_way" = true)
    (kRe : PySem.W.keepIn K (.ref fRe) = true)
    {odSp anSp : Option Addr} {slSp : Array (Option Value)} {ocSp kVSp dcSp pmSp cdSp ctSp : Value}
    (aSp : PySem.W.nsIn K mainGlobals "_law_toll" = some (some (.ref fSp)))
    (lSp : K.lookup fSp = some ⟨ocSp, odSp, .func (PySem.W.fnOf "_law_toll" "_law_toll" (defArgs sTub) (defBody sTub) (defScope sTub) .none kVSp dcSp pmSp anSp cdSp ctSp), slSp⟩)
    (cSp : PySem.W.codeIn K cdSp "_law_toll" = true)
    (kSp : PySem.W.keepIn K (.ref fSp) = true)
    {odWd anWd : Option Addr} {slWd : Array (Option Value)} {ocWd kVWd dcWd pmWd cdWd ctWd : Value}
    (aWd : PySem.W.nsIn K mainGlobals "_law_levy" = some (some (.ref fWd)))
    (lWd : K.lookup fWd = some ⟨ocWd, odWd, .func (PySem.W.fnOf "_law_levy" "_law_levy" (defArgs sScoop) (defBody sScoop) (defScope sScoop) .none kVWd dcWd pmWd anWd cdWd ctWd), slWd⟩)
    (cWd : PySem.W.codeIn K cdWd "_law_levy" = true)
    (kWd : PySem.W.keepIn K (.ref fWd) = true)
    {odPk anPk : Option Addr} {slPk : Array (Option Value)} {ocPk kVPk dcPk pmPk cdPk ctPk : Value}
    (aPk : PySem.W.nsIn K mainGlobals "_law_pick" = some (some (.ref fPk)))
    (lPk : K.lookup fPk = some ⟨ocPk, odPk, .func (PySem.W.fnOf "_law_pick" "_law_pick" (defArgs sPick) (defBody sPick) (defScope sPick) .none kVPk dcPk pmPk anPk cdPk ctPk), slPk⟩)
    (cPk : PySem.W.codeIn K cdPk "_law_pick" = true)
    (kPk : PySem.W.keepIn K (.ref fPk) = true)
    {odHe anHe : Option Addr} {slHe : Array (Option Value)} {ocHe kVHe dcHe pmHe cdHe ctHe : Value}
    (aHe : PySem.W.nsIn K mainGlobals "_law_heard" = some (some (.ref fHe)))
    (lHe : K.lookup fHe = some ⟨ocHe, odHe, .func (PySem.W.fnOf "_law_heard" "_law_heard" (defArgs sHeard) (defBody sHeard) (defScope sHeard) .none kVHe dcHe pmHe anHe cdHe ctHe), slHe⟩)
    (cHe : PySem.W.codeIn K cdHe "_law_heard" = true)
    (kHe : PySem.W.keepIn K (.ref fHe) = true)
    {odLn anLn : Option Addr} {slLn : Array (Option Value)} {ocLn kVLn dcLn pmLn cdLn ctLn : Value}
    (aLn : PySem.W.nsIn K mainGlobals "_law_line" = some (some (.ref fLn)))
    (lLn : K.lookup fLn = some ⟨ocLn, odLn, .func (PySem.W.fnOf "_law_line" "_law_line" (defArgs sLine) (defBody sLine) (defScope sLine) .none kVLn dcLn pmLn anLn cdLn ctLn), slLn⟩)
    (cLn : PySem.W.codeIn K cdLn "_law_line" = true)
    (kLn : PySem.W.keepIn K (.ref fLn) = true)
    {odLf anLf : Option Addr} {slLf : Array (Option Value)} {ocLf kVLf dcLf pmLf cdLf ctLf : Value}
    (aLf : PySem.W.nsIn K mainGlobals "_law_four" = some (some (.ref fLf)))
    (lLf : K.lookup fLf = some ⟨ocLf, odLf, .func (PySem.W.fnOf "_law_four" "_law_four" (defArgs sFour) (defBody sFour) (defScope sFour) .none kVLf dcLf pmLf anLf cdLf ctLf), slLf⟩)
    (cLf : PySem.W.codeIn K cdLf "_law_four" = true)
    (kLf : PySem.W.keepIn K (.ref fLf) = true)
    {odLa anLa : Option Addr} {slLa : Array (Option Value)} {ocLa kVLa dcLa pmLa cdLa ctLa : Value}
    (aLa : PySem.W.nsIn K mainGlobals "law" = some (some (.ref fLa)))
    (lLa : K.lookup fLa = some ⟨ocLa, odLa, .func (PySem.W.fnOf "law" "law" (defArgs sLaw) (defBody sLaw) (defScope sLaw) .none kVLa dcLa pmLa anLa cdLa ctLa), slLa⟩)
    (cLa : PySem.W.codeIn K cdLa "law" = true)
    (kLa : PySem.W.keepIn K (.ref fLa) = true)
    {e1C : Value} {dd1C : Option Addr} {vs1C : Array Value} {sl1C : Array (Option Value)}
    (w1c : cdLf = .ref c1)
    (w1k : K.lookup c1 = some ⟨e1C, dd1C, .fields vs1C, sl1C⟩)
    (w1v : vs1C[11]? = some (.ref T1))
    (w1n : K.lookup T1 = none)
    (r1 : ((recsOf qq).any fun e => e.name == ("_law_four" : Str)) = true)
    (aCS : PySem.W.nsIn K mainGlobals "LaneError" = some (some (.ref CS)))
    (bCS : PySem.W.subIn K (.ref CS) (.type "BaseException") = some true)
    (dCS : PySem.W.hasDictIn K CS = true)
    (tCS : PySem.W.typeIn K (.ref CS) = some (.type "type"))
    {nmCB qCB : Str} {NCB : Addr} {bsCB : List Value} {bmCB : List Value} {snCB : List Str} {subCB : List Value} {abCB : Bool} {colCB : Option Bool} {ddCB : Option Addr} {m0CB m1CB m2CB m3CB m5CB : Option Value}
    (aCB : PySem.W.nsIn K mainGlobals "BadNumber" = some (some (.ref CB)))
    (xCB : K.lookup CB = some (excClassObj nmCB qCB CB NCB bsCB bmCB true snCB subCB abCB colCB ddCB m0CB m1CB m2CB m3CB m5CB "ValueError.__new__"))
    (vCB : PySem.HandSPX.refsVE bmCB = true)
    (saCB : PySem.W.findIn K (.ref CB) "__setattr__" = some (some (.builtin "object.__setattr__")))
    (gaCB : PySem.W.findIn K (.ref CB) "__getattribute__" = some (some (.builtin "BaseException.__getattribute__")))
    (ggCB : PySem.W.findIn K (.ref CB) "__getattr__" = some none)
    (noCB : PySem.W.findIn K (.ref CB) "part" = some none)
    (keCB : PySem.W.keepIn K (.ref CB) = true)
    (exCB : PySem.W.subIn K (.ref CB) (.type "BaseException") = some true)
    (tyCB : PySem.W.typeIn K (.ref CB) = some (.type "type"))
    (hdCB : PySem.W.hasDictIn K CB = true)
    (ciCB : PySem.W.isClsIn K CB = true)
    (haCB : PySem.W.findIn K (.ref CB) "__class__" = some (some (.builtin "object.__class__")))
    (hmCB : PySem.W.mroIn K CB (.type "object") = some true)
    (suCB : PySem.W.subIn K (.ref CB) (.ref CS) = some true)
    (kiCB : PySem.W.kitOne K (.ref CB) (.ref CB) = some true)
    {odfBI anfBI : Option Addr} {slfBI : Array (Option Value)} {ocfBI dcfBI pmfBI cdfBI ctfBI : Value}
    (afBI : PySem.W.findIn K (.ref CB) "__init__" = some (some (.ref fBI)))
    (tfBI : PySem.W.typeIn K (.ref fBI) = some (.type "function"))
    (lfBI : K.lookup fBI = some ⟨ocfBI, odfBI, .func (PySem.W.fnOf "__init__" "BadNumber.__init__" (defArgs (inClass sNumC 0)) (defBody (inClass sNumC 0)) (defScope (inClass sNumC 0)) .none .none dcfBI pmfBI anfBI cdfBI ctfBI), slfBI⟩)
    (cfBI : PySem.W.codeIn K cdfBI "BadNumber.__init__" = true)
    {nmCE qCE : Str} {NCE : Addr} {bsCE : List Value} {bmCE : List Value} {snCE : List Str} {subCE : List Value} {abCE : Bool} {colCE : Option Bool} {ddCE : Option Addr} {m0CE m1CE m2CE m3CE m5CE : Option Value}
    (aCE : PySem.W.nsIn K mainGlobals "BadWeb" = some (some (.ref CE)))
    (xCE : K.lookup CE = some (excClassObj nmCE qCE CE NCE bsCE bmCE true snCE subCE abCE colCE ddCE m0CE m1CE m2CE m3CE m5CE "ValueError.__new__"))
    (vCE : PySem.HandSPX.refsVE bmCE = true)
    (saCE : PySem.W.findIn K (.ref CE) "__setattr__" = some (some (.builtin "object.__setattr__")))
    (gaCE : PySem.W.findIn K (.ref CE) "__getattribute__" = some (some (.builtin "BaseException.__getattribute__")))
    (ggCE : PySem.W.findIn K (.ref CE) "__getattr__" = some none)
    (noCE : PySem.W.findIn K (.ref CE) "part" = some none)
    (keCE : PySem.W.keepIn K (.ref CE) = true)
    (exCE : PySem.W.subIn K (.ref CE) (.type "BaseException") = some true)
    (tyCE : PySem.W.typeIn K (.ref CE) = some (.type "type"))
    (hdCE : PySem.W.hasDictIn K CE = true)
    (ciCE : PySem.W.isClsIn K CE = true)
    (haCE : PySem.W.findIn K (.ref CE) "__class__" = some (some (.builtin "object.__class__")))
    (hmCE : PySem.W.mroIn K CE (.type "object") = some true)
    (suCE : PySem.W.subIn K (.ref CE) (.ref CS) = some true)
    (kiCE : PySem.W.kitOne K (.ref CE) (.ref CE) = some true)
    {odfEI anfEI : Option Addr} {slfEI : Array (Option Value)} {ocfEI dcfEI pmfEI cdfEI ctfEI : Value}
    (afEI : PySem.W.findIn K (.ref CE) "__init__" = some (some (.ref fEI)))
    (tfEI : PySem.W.typeIn K (.ref fEI) = some (.type "function"))
    (lfEI : K.lookup fEI = some ⟨ocfEI, odfEI, .func (PySem.W.fnOf "__init__" "BadWeb.__init__" (defArgs (inClass sWebC 0)) (defBody (inClass sWebC 0)) (defScope (inClass sWebC 0)) .none .none dcfEI pmfEI anfEI cdfEI ctfEI), slfEI⟩)
    (cfEI : PySem.W.codeIn K cdfEI "BadWeb.__init__" = true)
    {nmCC qCC : Str} {NCC : Addr} {bsCC : List Value} {bmCC : List Value} {snCC : List Str} {subCC : List Value} {abCC : Bool} {colCC : Option Bool} {ddCC : Option Addr} {m0CC m1CC m2CC m3CC m5CC : Option Value}
    (aCC : PySem.W.nsIn K mainGlobals "BadColours" = some (some (.ref CC)))
    (xCC : K.lookup CC = some (excClassObj nmCC qCC CC NCC bsCC bmCC true snCC subCC abCC colCC ddCC m0CC m1CC m2CC m3CC m5CC "ValueError.__new__"))
    (vCC : PySem.HandSPX.refsVE bmCC = true)
    (saCC : PySem.W.findIn K (.ref CC) "__setattr__" = some (some (.builtin "object.__setattr__")))
    (gaCC : PySem.W.findIn K (.ref CC) "__getattribute__" = some (some (.builtin "BaseException.__getattribute__")))
    (ggCC : PySem.W.findIn K (.ref CC) "__getattr__" = some none)
    (noCC : PySem.W.findIn K (.ref CC) "part" = some none)
    (keCC : PySem.W.keepIn K (.ref CC) = true)
    (exCC : PySem.W.subIn K (.ref CC) (.type "BaseException") = some true)
    (tyCC : PySem.W.typeIn K (.ref CC) = some (.type "type"))
    (hdCC : PySem.W.hasDictIn K CC = true)
    (ciCC : PySem.W.isClsIn K CC = true)
    (haCC : PySem.W.findIn K (.ref CC) "__class__" = some (some (.builtin "object.__class__")))
    (hmCC : PySem.W.mroIn K CC (.type "object") = some true)
    (suCC : PySem.W.subIn K (.ref CC) (.ref CS) = some true)
    (kiCC : PySem.W.kitOne K (.ref CC) (.ref CC) = some true)
    {odfCI anfCI : Option Addr} {slfCI : Array (Option Value)} {ocfCI dcfCI pmfCI cdfCI ctfCI : Value}
    (afCI : PySem.W.findIn K (.ref CC) "__init__" = some (some (.ref fCI)))
    (tfCI : PySem.W.typeIn K (.ref fCI) = some (.type "function"))
    (lfCI : K.lookup fCI = some ⟨ocfCI, odfCI, .func (PySem.W.fnOf "__init__" "BadColours.__init__" (defArgs (inClass sColC 0)) (defBody (inClass sColC 0)) (defScope (inClass sColC 0)) .none .none dcfCI pmfCI anfCI cdfCI ctfCI), slfCI⟩)
    (cfCI : PySem.W.codeIn K cdfCI "BadColours.__init__" = true)
    {nmCF qCF : Str} {NCF : Addr} {bsCF : List Value} {bmCF : List Value} {snCF : List Str} {subCF : List Value} {abCF : Bool} {colCF : Option Bool} {ddCF : Option Addr} {m0CF m1CF m2CF m3CF m5CF : Option Value}
    (aCF : PySem.W.nsIn K mainGlobals "Misfit" = some (some (.ref CF)))
    (xCF : K.lookup CF = some (excClassObj nmCF qCF CF NCF bsCF bmCF true snCF subCF abCF colCF ddCF m0CF m1CF m2CF m3CF m5CF "ValueError.__new__"))
    (vCF : PySem.HandSPX.refsVE bmCF = true)
    (saCF : PySem.W.findIn K (.ref CF) "__setattr__" = some (some (.builtin "object.__setattr__")))
    (gaCF : PySem.W.findIn K (.ref CF) "__getattribute__" = some (some (.builtin "BaseException.__getattribute__")))
    (ggCF : PySem.W.findIn K (.ref CF) "__getattr__" = some none)
    (noCF : PySem.W.findIn K (.ref CF) "part" = some none)
    (keCF : PySem.W.keepIn K (.ref CF) = true)
    (exCF : PySem.W.subIn K (.ref CF) (.type "BaseException") = some true)
    (tyCF : PySem.W.typeIn K (.ref CF) = some (.type "type"))
    (hdCF : PySem.W.hasDictIn K CF = true)
    (ciCF : PySem.W.isClsIn K CF = true)
    (haCF : PySem.W.findIn K (.ref CF) "__class__" = some (some (.builtin "object.__class__")))
    (hmCF : PySem.W.mroIn K CF (.type "object") = some true)
    (suCF : PySem.W.subIn K (.ref CF) (.ref CS) = some true)
    (kiCF : PySem.W.kitOne K (.ref CF) (.ref CF) = some true)
    {odfFI anfFI : Option Addr} {slfFI : Array (Option Value)} {ocfFI dcfFI pmfFI cdfFI ctfFI : Value}
    (afFI : PySem.W.findIn K (.ref CF) "__init__" = some (some (.ref fFI)))
    (tfFI : PySem.W.typeIn K (.ref fFI) = some (.type "function"))
    (lfFI : K.lookup fFI = some ⟨ocfFI, odfFI, .func (PySem.W.fnOf "__init__" "Misfit.__init__" (defArgs (inClass sMisC 0)) (defBody (inClass sMisC 0)) (defScope (inClass sMisC 0)) .none .none dcfFI pmfFI anfFI cdfFI ctfFI), slfFI⟩)
    (cfFI : PySem.W.codeIn K cdfFI "Misfit.__init__" = true)
    (hn : PySem.W.specialIn K (.builtin "object.__class__") "__get__" = some (some (.builtin "getset_descriptor.__get__")))
    (ht : PySem.W.takesIn K (.builtin "object.__class__") = some true)
    {nmCM qCM : Str} {NCM : Addr} {bsCM : List Value} {bmCM : List Value} {snCM : List Str} {subCM : List Value} {abCM : Bool} {colCM : Option Bool} {ddCM : Option Addr} {m0CM m1CM m2CM m3CM m5CM : Option Value}
    (aCM : PySem.W.nsIn K mainGlobals "TooMany" = some (some (.ref CM)))
    (xCM : K.lookup CM = some (excClassObj nmCM qCM CM NCM bsCM bmCM true snCM subCM abCM colCM ddCM m0CM m1CM m2CM m3CM m5CM "ValueError.__new__"))
    (vCM : PySem.HandSPX.refsVE bmCM = true)
    (sa_CM : PySem.W.findIn K (.ref CM) "__setattr__" = some (some (.builtin "object.__setattr__")))
    (ga_CM : PySem.W.findIn K (.ref CM) "__getattribute__" = some (some (.builtin "BaseException.__getattribute__")))
    (gg_CM : PySem.W.findIn K (.ref CM) "__getattr__" = some none)
    (nw_CM : PySem.W.findIn K (.ref CM) "what" = some none)
    (nm_CM : PySem.W.findIn K (.ref CM) "most" = some none)
    (ke_CM : PySem.W.keepIn K (.ref CM) = true)
    (ex_CM : PySem.W.subIn K (.ref CM) (.type "BaseException") = some true)
    (ty_CM : PySem.W.typeIn K (.ref CM) = some (.type "type"))
    (hd_CM : PySem.W.hasDictIn K CM = true)
    (ci_CM : PySem.W.isClsIn K CM = true)
    (ha_CM : PySem.W.findIn K (.ref CM) "__class__" = some (some (.builtin "object.__class__")))
    (hm_CM : PySem.W.mroIn K CM (.type "object") = some true)
    (su_CM : PySem.W.subIn K (.ref CM) (.ref CS) = some true)
    {odfMI anfMI : Option Addr} {slfMI : Array (Option Value)} {ocfMI kVfMI dcfMI pmfMI cdfMI ctfMI : Value}
    (afMI : PySem.W.findIn K (.ref CM) "__init__" = some (some (.ref fMI)))
    (tfMI : PySem.W.typeIn K (.ref fMI) = some (.type "function"))
    (lfMI : K.lookup fMI = some ⟨ocfMI, odfMI, .func (PySem.W.fnOf "__init__" "TooMany.__init__" (defArgs sTooI) (defBody sTooI) (defScope sTooI) .none kVfMI dcfMI pmfMI anfMI cdfMI ctfMI), slfMI⟩)
    (cfMI : PySem.W.codeIn K cdfMI "TooMany.__init__" = true)
    (aWC : PySem.W.nsIn K mainGlobals "Web" = some (some (.ref WC)))
    {odWI anWI : Option Addr} {slWI : Array (Option Value)} {ocWI kVWI dcWI pmWI cdWI ctWI : Value}
    (aWI : PySem.W.findIn K (.ref WC) "__init__" = some (some (.ref fWI)))
    (iWI : PySem.W.isFn K (.ref fWI) = true)
    (lWI : K.lookup fWI = some ⟨ocWI, odWI, .func (PySem.W.fnOf "__init__" "Web.__init__" (defArgs sWebI) (defBody sWebI) (defScope sWebI) .none kVWI dcWI pmWI anWI cdWI ctWI), slWI⟩)
    (cWI : PySem.W.codeIn K cdWI "Web.__init__" = true)
    (kWI : PySem.W.keepIn K (.ref fWI) = true)
    {odWS anWS : Option Addr} {slWS : Array (Option Value)} {ocWS kVWS dcWS pmWS cdWS ctWS : Value}
    (aWS : PySem.W.findIn K (.ref WC) "__str__" = some (some (.ref fWS)))
    (iWS : PySem.W.isFn K (.ref fWS) = true)
    (lWS : K.lookup fWS = some ⟨ocWS, odWS, .func (PySem.W.fnOf "__str__" "Web.__str__" (defArgs sWebS) (defBody sWebS) (defScope sWebS) .none kVWS dcWS pmWS anWS cdWS ctWS), slWS⟩)
    (cWS : PySem.W.codeIn K cdWS "Web.__str__" = true)
    (kWS : PySem.W.keepIn K (.ref fWS) = true)
    (aXE : PySem.W.nsIn K mainGlobals "Echo" = some (some (.ref XE)))
    (aXR : PySem.W.nsIn K mainGlobals "Repeat" = some (some (.ref XR)))
    (aSC : PySem.W.nsIn K mainGlobals "Sound" = some (some (.ref SC)))
    {odSC anSC : Option Addr} {slSC : Array (Option Value)} {ocSC kVSC dcSC pmSC ctSC : Value}
    (aiSC : PySem.W.findIn K (.ref SC) "__init__" = some (some (.ref fSC)))
    (iiSC : PySem.W.isFn K (.ref fSC) = true)
    (lSC : K.lookup fSC = some ⟨ocSC, odSC, .func (PySem.W.ksFn "__init__" "Sound.__init__" (defArgs sSoundI) (defBody sSoundI) (defScope sSoundI) .none kVSC dcSC pmSC anSC (.ref daSC) ctSC clSC), slSC⟩)
    (cSC : PySem.W.codeIn K (.ref daSC) "Sound.__init__" = true)
    {cvSC : Value} {cdSC : Option Addr} {vsSC : Array Value} {ccsSC : Array (Option Value)} {fileSC : Str} {tfSC : Tok} {lcSC : Value} {ldSC : Option Addr} {lsSC : Array (Option Value)} {cDSC : _}
    (kvcSC : K.lookup daSC = some ⟨cvSC, cdSC, .fields vsSC, ccsSC⟩)
    (kvsSC : vsSC[2]? = some (.str fileSC tfSC))
    (kvfSC : ((l.prog.main.file : Str) == fileSC) = true)
    (kveSC : K.lookup clSC = some ⟨lcSC, ldSC, .cell (some (.ref SC)), lsSC⟩)
    (kvdSC : PySem.W.clsIn K SC = some cDSC)
    (kvmSC : PySem.W.mroIn K SC (.ref SC) = some true)
    (kvaSC : PySem.W.ks_superIn K SC SC "__init__" = some (some (.ref fPI)))
    (aFC : PySem.W.nsIn K mainGlobals "Free" = some (some (.ref FC)))
    {odFC anFC : Option Addr} {slFC : Array (Option Value)} {ocFC kVFC dcFC pmFC ctFC : Value}
    (aiFC : PySem.W.findIn K (.ref FC) "__init__" = some (some (.ref fFC)))
    (iiFC : PySem.W.isFn K (.ref fFC) = true)
    (lFC : K.lookup fFC = some ⟨ocFC, odFC, .func (PySem.W.ksFn "__init__" "Free.__init__" (defArgs sFreeI) (defBody sFreeI) (defScope sFreeI) .none kVFC dcFC pmFC anFC (.ref daFC) ctFC clFC), slFC⟩)
    (cFC : PySem.W.codeIn K (.ref daFC) "Free.__init__" = true)
    {cvFC : Value} {cdFC : Option Addr} {vsFC : Array Value} {ccsFC : Array (Option Value)} {fileFC : Str} {tfFC : Tok} {lcFC : Value} {ldFC : Option Addr} {lsFC : Array (Option Value)} {cDFC : _}
    (kvcFC : K.lookup daFC = some ⟨cvFC, cdFC, .fields vsFC, ccsFC⟩)
    (kvsFC : vsFC[2]? = some (.str fileFC tfFC))
    (kvfFC : ((l.prog.main.file : Str) == fileFC) = true)
    (kveFC : K.lookup clFC = some ⟨lcFC, ldFC, .cell (some (.ref FC)), lsFC⟩)
    (kvdFC : PySem.W.clsIn K FC = some cDFC)
    (kvmFC : PySem.W.mroIn K FC (.ref FC) = some true)
    (kvaFC : PySem.W.ks_superIn K FC FC "__init__" = some (some (.ref fPI)))
    (kvo : PySem.W.nsIn K cStatics "thirdparty.any" = some none)
    {odPI anPI : Option Addr} {slPI : Array (Option Value)} {ocPI kVPI dcPI pmPI cdPI ctPI : Value}
    (kvt : PySem.W.typeIn K (.ref fPI) = some (.type "function"))
    (kvi : PySem.W.fnIn K fPI = true)
    (kvp : (l.prog.main.scope.names.lookup ("super" : Str)).isSome = false)
    (lPI : K.lookup fPI = some ⟨ocPI, odPI, .func (PySem.W.fnOf "__init__" "Paper.__init__" (defArgs sPaperI) (defBody sPaperI) (defScope sPaperI) .none kVPI dcPI pmPI anPI cdPI ctPI), slPI⟩)
    (cPI : PySem.W.codeIn K cdPI "Paper.__init__" = true)
    (pgWC : PySem.W.plainGet K WC Str.empty = true)
    (hdWC : PySem.W.hasDictIn K WC = true)
    (poWC : PySem.W.plainOver K WC = true)
    (saWC : PySem.W.findIn K (.ref WC) "__setattr__" = some (some (.builtin "object.__setattr__")))
    (mkWC : PySem.W.makesIn K WC = true)
    (kcWC : PySem.W.keepIn K (.ref WC) = true)
    (pgSC : PySem.W.plainGet K SC Str.empty = true)
    (hdSC : PySem.W.hasDictIn K SC = true)
    (poSC : PySem.W.plainOver K SC = true)
    (saSC : PySem.W.findIn K (.ref SC) "__setattr__" = some (some (.builtin "object.__setattr__")))
    (mkSC : PySem.W.makesIn K SC = true)
    (kcSC : PySem.W.keepIn K (.ref SC) = true)
    (pgFC : PySem.W.plainGet K FC Str.empty = true)
    (hdFC : PySem.W.hasDictIn K FC = true)
    (poFC : PySem.W.plainOver K FC = true)
    (saFC : PySem.W.findIn K (.ref FC) "__setattr__" = some (some (.builtin "object.__setattr__")))
    (mkFC : PySem.W.makesIn K FC = true)
    (kcFC : PySem.W.keepIn K (.ref FC) = true)
    (nWC_turns : PySem.W.findIn K (.ref WC) "turns" = some none)
    (nWC_many : PySem.W.findIn K (.ref WC) "many" = some none)
    (nWC_ties : PySem.W.findIn K (.ref WC) "ties" = some none)
    (nSC_word : PySem.W.findIn K (.ref SC) "word" = some none)
    (nSC_parts : PySem.W.findIn K (.ref SC) "parts" = some none)
    (nFC_word : PySem.W.findIn K (.ref FC) "word" = some none)
    (nFC_parts : PySem.W.findIn K (.ref FC) "parts" = some none)
    (nFC_most : PySem.W.findIn K (.ref FC) "most" = some none)
    (thWC : PySem.W.findIn K (.ref WC) "__class__" = some (some (.builtin "object.__class__")))
    (tmWC : PySem.W.mroIn K WC (.type "object") = some true)
    (tkWC : PySem.W.kitOne K (.ref WC) (.ref WC) = some true)
    (thSC : PySem.W.findIn K (.ref SC) "__class__" = some (some (.builtin "object.__class__")))
    (tmSC : PySem.W.mroIn K SC (.type "object") = some true)
    (tkSC : PySem.W.kitOne K (.ref SC) (.ref SC) = some true)
    (kSR : PySem.W.kitOne K (.ref SC) (.ref XR) = some false)
    (kSF : PySem.W.kitOne K (.ref SC) (.ref FC) = some false)
    (y0WC : PySem.W.kitOne K (.type "NoneType") (.ref WC) = some false)
    (y1WC : PySem.W.kitOne K (.type "bool") (.ref WC) = some false)
    (y2WC : PySem.W.kitOne K (.type "int") (.ref WC) = some false)
    (y3WC : PySem.W.kitOne K (.type "str") (.ref WC) = some false)
    (y4WC : PySem.W.kitOne K (.type "list") (.ref WC) = some false)
    (y5WC : PySem.W.kitOne K (.type "tuple") (.ref WC) = some false)
    (y6WC : PySem.W.kitOne K (.type "dict") (.ref WC) = some false)
    (y0XE : PySem.W.kitOne K (.type "NoneType") (.ref XE) = some false)
    (y1XE : PySem.W.kitOne K (.type "bool") (.ref XE) = some false)
    (y2XE : PySem.W.kitOne K (.type "int") (.ref XE) = some false)
    (y3XE : PySem.W.kitOne K (.type "str") (.ref XE) = some false)
    (y4XE : PySem.W.kitOne K (.type "list") (.ref XE) = some false)
    (y5XE : PySem.W.kitOne K (.type "tuple") (.ref XE) = some false)
    (y6XE : PySem.W.kitOne K (.type "dict") (.ref XE) = some false)
    (y0SC : PySem.W.kitOne K (.type "NoneType") (.ref SC) = some false)
    (y1SC : PySem.W.kitOne K (.type "bool") (.ref SC) = some false)
    (y2SC : PySem.W.kitOne K (.type "int") (.ref SC) = some false)
    (y3SC : PySem.W.kitOne K (.type "str") (.ref SC) = some false)
    (y4SC : PySem.W.kitOne K (.type "list") (.ref SC) = some false)
    (y5SC : PySem.W.kitOne K (.type "tuple") (.ref SC) = some false)
    (y6SC : PySem.W.kitOne K (.type "dict") (.ref SC) = some false)
    (kcw : PySem.W.kitOne K (.ref CC) (.ref CE) = some false)
    (kbw : PySem.W.kitOne K (.ref CB) (.ref CE) = some false)
    (kbc : PySem.W.kitOne K (.ref CB) (.ref CC) = some false)
    (kfw : PySem.W.kitOne K (.ref CF) (.ref CE) = some false)
    (kfc : PySem.W.kitOne K (.ref CF) (.ref CC) = some false)
    (kfb : PySem.W.kitOne K (.ref CF) (.ref CB) = some false)
    (kmw : PySem.W.kitOne K (.ref CM) (.ref CE) = some false)
    (kmc : PySem.W.kitOne K (.ref CM) (.ref CC) = some false)
    (kmb : PySem.W.kitOne K (.ref CM) (.ref CB) = some false)
    (kmf : PySem.W.kitOne K (.ref CM) (.ref CF) = some false)
    (kmm : PySem.W.kitOne K (.ref CM) (.ref CM) = some true)
    (kNw : PySem.W.kitOne K (.type "NoneType") (.ref CE) = some false)
    (kNc : PySem.W.kitOne K (.type "NoneType") (.ref CC) = some false)
    (kNb : PySem.W.kitOne K (.type "NoneType") (.ref CB) = some false)
    (kNf : PySem.W.kitOne K (.type "NoneType") (.ref CF) = some false)
    (kNm : PySem.W.kitOne K (.type "NoneType") (.ref CM) = some false)
    {tM1 tM2 tM3 tM4 : Tok}
    (zM1 : PySem.W.nsIn K mainGlobals "MOST_PLACES" = some (some (.int 1000 tM1)))
    (zM2 : PySem.W.nsIn K mainGlobals "MOST_FOR_WALKS" = some (some (.int 40 tM2)))
    (zM3 : PySem.W.nsIn K mainGlobals "MOST_FOR_WAYS" = some (some (.int 24 tM3)))
    (zM4 : PySem.W.nsIn K mainGlobals "MOST_HALF" = some (some (.int 4 tM4)))
    (z_int : PySem.W.nsIn K mainGlobals "int" = some none)
    (z_bool : PySem.W.nsIn K mainGlobals "bool" = some none)
    (z_str : PySem.W.nsIn K mainGlobals "str" = some none)
    (z_list : PySem.W.nsIn K mainGlobals "list" = some none)
    (z_tuple : PySem.W.nsIn K mainGlobals "tuple" = some none)
    (z_isinstance : PySem.W.nsIn K mainGlobals "isinstance" = some none)
    (z_all : PySem.W.nsIn K mainGlobals "all" = some none)
    (z_len : PySem.W.nsIn K mainGlobals "len" = some none)
    (z_abs : PySem.W.nsIn K mainGlobals "abs" = some none)
    (z_range : PySem.W.nsIn K mainGlobals "range" = some none)
    (z_set : PySem.W.nsIn K mainGlobals "set" = some none)
    (z_sorted : PySem.W.nsIn K mainGlobals "sorted" = some none)
    (z_enumerate : PySem.W.nsIn K mainGlobals "enumerate" = some none)
    (z_super : PySem.W.nsIn K mainGlobals "super" = some none)
    : ∃ (fd : FuncData) (Ts : List (Addr × Addr)) (sp : Sp), (∀ p ∈ Ts, TabOf K mg qq p) ∧ (∀ (s : Shared) (u : Value), BindsTo s fd ⟨[u], []⟩ [("script", u)]) ∧
        (∀ (H : Hp) (a : Addr) (ns : List Int), ns.length ≤ 63 → (∀ p ∈ Ts, H p.2 = some (.tbl #[])) → SqL K H a (ns.map V.int) → sp [.ref a] H (fun v _ => v = .bl true) fun _ _ _ => False) ∧
        ∀ base : Heap, K.In base → base.Ns mainGlobals mg → (∀ p ∈ Ts, TabB base mg p.1 p.2) → FnG l.prog w K mg base 11 fa fd ["script"] sp := by
  have e := hfa.symm.trans (PySem.W.mg_of X G aLa)
  cases e
  have FIn := fun_mk (st := sInteger) lIn cIn kIn
  have bIn := FIn.binds (ps := ["value"]) fun _ _ _ _ _ _ us hl => match us, hl with | [_], _ => rfl
  have FWi := fun_mk (st := sWithin) lWi cWi kWi
  have bWi := FWi.binds (ps := ["value", "least", "most"]) fun _ _ _ _ _ _ us hl => match us, hl with | [_, _, _], _ => rfl
  have FLi := fun_mk (st := sList) lLi cLi kLi
  have bLi := FLi.binds (ps := ["value"]) fun _ _ _ _ _ _ us hl => match us, hl with | [_], _ => rfl
  have FRo := fun_mk (st := sRow) lRo cRo kRo
  have bRo := FRo.binds (ps := ["value", "least", "most"]) fun _ _ _ _ _ _ us hl => match us, hl with | [_, _, _], _ => rfl
  have FUn := fun_mk (st := sUn) lUn cUn kUn
  have bUn := FUn.binds (ps := ["value", "least"]) fun _ _ _ _ _ _ us hl => match us, hl with | [_, _], _ => rfl
  have FLo := fun_mk (st := sLot) lLo cLo kLo
  have bLo := FLo.binds (ps := ["value"]) fun _ _ _ _ _ _ us hl => match us, hl with | [_], _ => rfl
  have FFx := fun_mk (st := sFixed) lFx cFx kFx
  have bFx := FFx.binds (ps := ["value"]) fun _ _ _ _ _ _ us hl => match us, hl with | [_], _ => rfl
  have FWa := fun_mk (st := sWant) lWa cWa kWa
  have bWa := FWa.binds (ps := ["value", "least", "most", "part"]) fun _ _ _ _ _ _ us hl => match us, hl with | [_, _, _, _], _ => rfl
  have FWw := fun_mk (st := sWantWeb) lWw cWw kWw
  have bWw := FWw.binds (ps := ["web"]) fun _ _ _ _ _ _ us hl => match us, hl with | [_], _ => rfl
  have FAr := fun_mk (st := sAreTurns) lAr cAr kAr
  have bAr := FAr.binds (ps := ["turns"]) fun _ _ _ _ _ _ us hl => match us, hl with | [_], _ => rfl
  have FIt := fun_mk (st := sIsTurn) lIt cIt kIt
  have bIt := FIt.binds (ps := ["turn", "place", "many"]) fun _ _ _ _ _ _ us hl => match us, hl with | [_, _, _], _ => rfl
  have FTi := fun_mk (st := sTies) lTi cTi kTi
  have bTi := FTi.binds (ps := ["turns"]) fun _ _ _ _ _ _ us hl => match us, hl with | [_], _ => rfl
  have FTt := fun_mk (st := sTurnText) lTt cTt kTt
  have bTt := FTt.binds (ps := ["turn"]) fun _ _ _ _ _ _ us hl => match us, hl with | [_], _ => rfl
  have FIw := fun_mk (st := sIsWord) lIw cIw kIw
  have bIw := FIw.binds (ps := ["value"]) fun _ _ _ _ _ _ us hl => match us, hl with | [_], _ => rfl
  have FJw := fun_mk (st := sJWalks) lJw cJw kJw
  have bJw := FJw.binds (ps := ["web", "colours"]) fun _ _ _ _ _ _ us hl => match us, hl with | [_, _], _ => rfl
  have FSw := fun_mk (st := sSWalks) lSw cSw kSw
  have bSw := FSw.binds (ps := ["web", "colours", "value"]) fun _ _ _ _ _ _ us hl => match us, hl with | [_, _, _], _ => rfl
  have FJy := fun_mk (st := sJWays) lJy cJy kJy
  have bJy := FJy.binds (ps := ["web", "colours", "most"]) fun _ _ _ _ _ _ us hl => match us, hl with | [_, _, _], _ => rfl
  have FSy := fun_mk (st := sSWays) lSy cSy kSy
  have bSy := FSy.binds (ps := ["web", "colours", "most", "value"]) fun _ _ _ _ _ _ us hl => match us, hl with | [_, _, _, _], _ => rfl
  have FWo := fun_mk (st := sWantWord) lWo cWo kWo
  have bWo := FWo.binds (ps := ["web", "colours"]) fun _ _ _ _ _ _ us hl => match us, hl with | [_, _], _ => rfl
  have FWf := fun_mk (st := sWantFit) lWf cWf kWf
  have bWf := FWf.binds (ps := ["web", "colours", "most"]) fun _ _ _ _ _ _ us hl => match us, hl with | [_, _, _], _ => rfl
  have FWy := fun_mk (st := sWantWays) lWy cWy kWy
  have bWy := FWy.binds (ps := ["web", "colours", "most"]) fun _ _ _ _ _ _ us hl => match us, hl with | [_, _, _], _ => rfl
  have FAl := fun_mk (st := sAlike) lAl cAl kAl
  have bAl := FAl.binds (ps := ["colours"]) fun _ _ _ _ _ _ us hl => match us, hl with | [_], _ => rfl
  have FNe := fun_mk (st := sNear) lNe cNe kNe
  have bNe := FNe.binds (ps := ["web", "colours"]) fun _ _ _ _ _ _ us hl => match us, hl with | [_, _], _ => rfl
  have FEc := fun_mk (st := sEcho) lEc cEc kEc
  have bEc := FEc.binds (ps := ["web", "colours"]) fun _ _ _ _ _ _ us hl => match us, hl with | [_, _], _ => rfl
  have FRe := fun_mk (st := sRep) lRe cRe kRe
  have bRe := FRe.binds (ps := ["web", "colours", "most"]) fun _ _ _ _ _ _ us hl => match us, hl with | [_, _, _], _ => rfl
  have FSp := fun_mk (st := sTub) lSp cSp kSp
  have bSp := FSp.binds (ps := ["script"]) fun _ _ _ _ _ _ us hl => match us, hl with | [_], _ => rfl
  have FWd := fun_mk (st := sScoop) lWd cWd kWd
  have bWd := FWd.binds (ps := ["toll", "many"]) fun _ _ _ _ _ _ us hl => match us, hl with | [_, _], _ => rfl
  have FPk := fun_mk (st := sPick) lPk cPk kPk
  have bPk := FPk.binds (ps := ["toll", "some"]) fun _ _ _ _ _ _ us hl => match us, hl with | [_, _], _ => rfl
  have FHe := fun_mk (st := sHeard) lHe cHe kHe
  have bHe := FHe.binds (ps := ["ask"]) fun _ _ _ _ _ _ us hl => match us, hl with | [_], _ => rfl
  have FLn := fun_mk (st := sLine) lLn cLn kLn
  have bLn := FLn.binds (ps := ["many"]) fun _ _ _ _ _ _ us hl => match us, hl with | [_], _ => rfl
  have FLf := fun_mk (st := sFour) lLf cLf kLf
  have bLf := FLf.binds (ps := ["web", "colours", "most"]) fun _ _ _ _ _ _ us hl => match us, hl with | [_, _, _], _ => rfl
  have FLa := fun_mk (st := sLaw) lLa cLa kLa
  have bLa := FLa.binds (ps := ["script"]) fun _ _ _ _ _ _ us hl => match us, hl with | [_], _ => rfl
  have n : ∀ {x : Str}, PySem.W.nsIn K mainGlobals x = some none → mg x = none := fun h => PySem.W.mg_none_of X G h
  have g : ∀ {x : Str} {v : Value}, PySem.W.nsIn K mainGlobals x = some (some v) → mg x = some v := fun h => PySem.W.mg_of X G h
  have ECB : ErrC K CB := ⟨gaCB, ggCB, exCB, hdCB, ciCB, haCB, hn, ht, hmCB⟩
  have PCB : PySem.PartX.PartTxt K mg "BadNumber" "BadNumber.__init__" CB fBI := { gC := g aCB, cls := ⟨_, _, _, _, _, _, _, _, _, _, _, _, _, _, _, xCB, vCB⟩, sa := saCB, ga := gaCB, gg := ggCB, noN := noCB, iC := afBI, tC := tfBI, kC := keCB, exC := exCB, tyC := tyCB, hdC := hdCB, fn := ⟨_, _, _, _, _, _, _, _, _, _, _, _, _, _, lfBI, cfBI⟩ }
  have ECE : ErrC K CE := ⟨gaCE, ggCE, exCE, hdCE, ciCE, haCE, hn, ht, hmCE⟩
  have PCE : PySem.PartX.PartTxt K mg "BadWeb" "BadWeb.__init__" CE fEI := { gC := g aCE, cls := ⟨_, _, _, _, _, _, _, _, _, _, _, _, _, _, _, xCE, vCE⟩, sa := saCE, ga := gaCE, gg := ggCE, noN := noCE, iC := afEI, tC := tfEI, kC := keCE, exC := exCE, tyC := tyCE, hdC := hdCE, fn := ⟨_, _, _, _, _, _, _, _, _, _, _, _, _, _, lfEI, cfEI⟩ }
  have ECC : ErrC K CC := ⟨gaCC, ggCC, exCC, hdCC, ciCC, haCC, hn, ht, hmCC⟩
  have PCC : PySem.PartX.PartTxt K mg "BadColours" "BadColours.__init__" CC fCI := { gC := g aCC, cls := ⟨_, _, _, _, _, _, _, _, _, _, _, _, _, _, _, xCC, vCC⟩, sa := saCC, ga := gaCC, gg := ggCC, noN := noCC, iC := afCI, tC := tfCI, kC := keCC, exC := exCC, tyC := tyCC, hdC := hdCC, fn := ⟨_, _, _, _, _, _, _, _, _, _, _, _, _, _, lfCI, cfCI⟩ }
  have ECF : ErrC K CF := ⟨gaCF, ggCF, exCF, hdCF, ciCF, haCF, hn, ht, hmCF⟩
  have PCF : PySem.PartX.PartTxt K mg "Misfit" "Misfit.__init__" CF fFI := { gC := g aCF, cls := ⟨_, _, _, _, _, _, _, _, _, _, _, _, _, _, _, xCF, vCF⟩, sa := saCF, ga := gaCF, gg := ggCF, noN := noCF, iC := afFI, tC := tfFI, kC := keCF, exC := exCF, tyC := tyCF, hdC := hdCF, fn := ⟨_, _, _, _, _, _, _, _, _, _, _, _, _, _, lfFI, cfFI⟩ }
  have FWI := fun_mk (st := sWebI) lWI cWI kWI
  have bWI := FWI.binds (ps := ["self", "turns"]) fun _ _ _ _ _ _ us hl => match us, hl with | [_, _], _ => rfl
  have FWS := fun_mk (st := sWebS) lWS cWS kWS
  have bWS := FWS.binds (ps := ["self"]) fun _ _ _ _ _ _ us hl => match us, hl with | [_], _ => rfl
  have kJy := kbn_of FJy (ps := ["web", "colours", "most"]) 0 ["web", "most", "colours"] (fun us ws => sw3 us ws) (fun a b => sw3_rel a b) fun _ _ _ _ _ _ us ws h1 h2 => match us, ws, h1, h2 with | [], [_, _, _], _, _ => rfl
  have bTI : Binds K (PySem.W.fnOf "__init__" "TooMany.__init__" (defArgs sTooI) (defBody sTooI) (defScope sTooI) .none kVfMI dcfMI pmfMI anfMI cdfMI ctfMI) ["self", "what", "most"] [] := fun s us _ hl => .of_eq (match us, hl with | [_, _, _], _ => rfl)
  have bSI : Binds K (PySem.W.ksFn "__init__" "Sound.__init__" (defArgs sSoundI) (defBody sSoundI) (defScope sSoundI) .none kVSC dcSC pmSC anSC (.ref daSC) ctSC clSC) ["self"] [] := fun s us _ hl => .of_eq (match us, hl with | [_], _ => rfl)
  have bFI : Binds K (PySem.W.ksFn "__init__" "Free.__init__" (defArgs sFreeI) (defBody sFreeI) (defScope sFreeI) .none kVFC dcFC pmFC anFC (.ref daFC) ctFC clFC) ["self", "most"] [] := fun s us _ hl => .of_eq (match us, hl with | [_, _], _ => rfl)
  have EM : ErrC K CM := ⟨ga_CM, gg_CM, ex_CM, hd_CM, ci_CM, ha_CM, hn, ht, hm_CM⟩
  have OM : OexC K CM := ⟨⟨_, _, _, _, _, _, _, _, _, _, _, _, _, _, _, xCM, vCM⟩, sa_CM, ex_CM, ty_CM, ke_CM⟩
  have E2 : TE59 K mg ⟨CE, CC, CB, CF, CM⟩ CS := ⟨g aCE, g aCC, g aCB, g aCF, g aCM, g aCS, ECE, ECC, ECB, ECF, EM, noCE, noCC, noCB, noCF, nw_CM, nm_CM, PySem.W.exm_ref bCS dCS tCS suCE, PySem.W.exm_ref bCS dCS tCS suCC, PySem.W.exm_ref bCS dCS tCS suCB, PySem.W.exm_ref bCS dCS tCS suCF, PySem.W.exm_ref bCS dCS tCS su_CM,
    kiCE, kcw, kiCC, kbw, kbc, kiCB, kfw, kfc, kfb, kiCF, kmw, kmc, kmb, kmf, kmm, kNw, kNc, kNb, kNf, kNm⟩
  have TW : TWeb K mg WC := ⟨⟨pgWC, hdWC, poWC, saWC⟩, nWC_turns, nWC_many, nWC_ties, g aWC⟩
  have IW : TIns K WC := ⟨thWC, hn, ht, tmWC, tkWC⟩
  have MW : Mk K WC fWI := ⟨mkWC, aWI, iWI, kcWC⟩
  have NW : TKit K WC := fun n hn => by
    simp only [tys, List.mem_cons, List.not_mem_nil, or_false] at hn
    rcases hn with rfl | rfl | rfl | rfl | rfl | rfl | rfl
    · exact y0WC
    · exact y1WC
    · exact y2WC
    · exact y3WC
    · exact y4WC
    · exact y5WC
    · exact y6WC
  have NE : TKit K XE := fun n hn => by
    simp only [tys, List.mem_cons, List.not_mem_nil, or_false] at hn
    rcases hn with rfl | rfl | rfl | rfl | rfl | rfl | rfl
    · exact y0XE
    · exact y1XE
    · exact y2XE
    · exact y3XE
    · exact y4XE
    · exact y5XE
    · exact y6XE
  have NS : TKit K SC := fun n hn => by
    simp only [tys, List.mem_cons, List.not_mem_nil, or_false] at hn
    rcases hn with rfl | rfl | rfl | rfl | rfl | rfl | rfl
    · exact y0SC
    · exact y1SC
    · exact y2SC
    · exact y3SC
    · exact y4SC
    · exact y5SC
    · exact y6SC
  have TS : TPap K SC := ⟨⟨pgSC, hdSC, poSC, saSC⟩, nSC_word, nSC_parts⟩
  have TF : TPap K FC := ⟨⟨pgFC, hdFC, poFC, saFC⟩, nFC_word, nFC_parts⟩
  have IS : TIns K SC := ⟨thSC, hn, ht, tmSC, tkSC⟩
  have MS : Mk K SC fSC := ⟨mkSC, aiSC, iiSC, kcSC⟩
  have MF : Mk K FC fFC := ⟨mkFC, aiFC, iiFC, kcFC⟩
  have BSC : SuFacts l.prog K fSC fPI SC SC clSC daSC (PySem.W.ksFn "__init__" "Sound.__init__" (defArgs sSoundI) (defBody sSoundI) (defScope sSoundI) .none kVSC dcSC pmSC anSC (.ref daSC) ctSC clSC) "self" :=
    ⟨⟨_, _, _, lSC⟩, ⟨_, rfl, rfl⟩, ⟨_, _, _, _, _, _, kvcSC, kvsSC, kvfSC⟩, ⟨_, _, _, kveSC⟩, ⟨_, kvdSC⟩, kvmSC, kvo, kvaSC, kvt, kvi, kvp, fun z => by rw [kvdSC] at z; cases z⟩
  have BFC : SuFacts l.prog K fFC fPI FC FC clFC daFC (PySem.W.ksFn "__init__" "Free.__init__" (defArgs sFreeI) (defBody sFreeI) (defScope sFreeI) .none kVFC dcFC pmFC anFC (.ref daFC) ctFC clFC) "self" :=
    ⟨⟨_, _, _, lFC⟩, ⟨_, rfl, rfl⟩, ⟨_, _, _, _, _, _, kvcFC, kvsFC, kvfFC⟩, ⟨_, _, _, kveFC⟩, ⟨_, kvdFC⟩, kvmFC, kvo, kvaFC, kvt, kvi, kvp, fun z => by rw [kvdFC] at z; cases z⟩
  refine ⟨PySem.W.fnOf "law" "law" (defArgs sLaw) (defBody sLaw) (defScope sLaw) .none kVLa dcLa pmLa anLa cdLa ctLa, [(c1, T1)], spLaw K T1, fun p hp => ?_, fun s v => .of_eq rfl, fun H a ns hl hT hS => ⟨a, ns, rfl, hS, hl, fun p hp => ?_, fun _ => rfl⟩, fun base _ _ TBs => ?_⟩
  · rw [List.mem_singleton.mp hp]
    exact ⟨"_law_four", fLf, _, _, e1C, dd1C, vs1C, sl1C, r1, g aLf, lLf, rfl, w1c, w1k, w1v, w1n⟩
  · rw [List.mem_singleton.mp hp]
    exact TabS.nil (hT (c1, T1) List.mem_cons_self)
  have TB1 := TBs (c1, T1) List.mem_cons_self
  have GIn := ok_integer (P := l.prog) (w := w) (mg := mg) (base := base) (k := 0) FIn (n z_isinstance) (n z_int) (n z_bool)
  have GWi := ok_within (P := l.prog) (w := w) (mg := mg) (base := base) (k := 1) FWi FIn GIn bIn (g aIn)
  have GLi := ok_list (P := l.prog) (w := w) (mg := mg) (base := base) (k := 0) FLi (n z_isinstance) (n z_list) (n z_tuple)
  have GRo := ok_row (P := l.prog) (w := w) (mg := mg) (base := base) (k := 2) FRo FWi GWi bWi (g aWi) FLi (GLi.mono (by decide)) bLi (g aLi) (n z_all)
  have GIw := ok_isWord (P := l.prog) (w := w) (mg := mg) (base := base) (k := 3) FIw FRo GRo bRo (g aRo)
  have GUn := ok_unlike (P := l.prog) (w := w) (mg := mg) (base := base) (k := 3) FUn FRo GRo bRo (g aRo) (n z_len) (n z_set)
  have GLo := ok_lot (P := l.prog) (w := w) (mg := mg) (base := base) (k := 4) FLo FUn GUn bUn (g aUn)
  have GIt := ok_isTurn (P := l.prog) (w := w) (mg := mg) (base := base) (k := 5) FIt FLo GLo bLo (g aLo) (n z_all)
  have GAr := ok_are (P := l.prog) (w := w) (mg := mg) (base := base) (k := 6) FAr FWi (GWi.mono (by decide)) bWi (g aWi) FLi (GLi.mono (by decide)) bLi (g aLi) FIt GIt bIt (g aIt) (g zM1) (n z_all) (n z_len) (n z_enumerate)
  have GTi := ok_ties (P := l.prog) (w := w) (mg := mg) (base := base) (k := 6) FTi (n z_tuple) (n z_sorted) (n z_enumerate)
  have GWI := ok_webI (P := l.prog) (w := w) (mg := mg) (base := base) (k := 7) FWI TW FAr GAr bAr (g aAr) FTi GTi bTi (g aTi) (n z_tuple) (n z_len)
  have GTt := ok_turnText (P := l.prog) (w := w) (mg := mg) (base := base) (k := 0) FTt (n z_str)
  have GWS := ok_webS (P := l.prog) (w := w) (mg := mg) (base := base) (k := 1) FWS TW FTt GTt bTt (g aTt)
  have GWa := ok_want (P := l.prog) (w := w) (mg := mg) (base := base) (k := 0) FWa FWi GWi bWi (g aWi) PCB
  have GWw := ok_wantWeb (P := l.prog) (w := w) (mg := mg) (base := base) (R := ⟨CE, CC, CB, CF, CM⟩) (k := 0) FWw TW IW NW PCE (n z_isinstance)
  have GWo := ok_ww (P := l.prog) (w := w) (mg := mg) (base := base) (R := ⟨CE, CC, CB, CF, CM⟩) (k := 2) FWo FWw (GWw.mono (by decide)) bWw (g aWw) FIw GIw bIw (g aIw) PCC
  have GTI := ok_tooI (P := l.prog) (w := w) (mg := mg) (base := base) (k := 2) OM nw_CM nm_CM lfMI cfMI
  have GWf := ok_fit (P := l.prog) (w := w) (mg := mg) (base := base) (R := ⟨CE, CC, CB, CF, CM⟩) (k := 2) FWf TW PCF OM afMI tfMI GTI bTI (g aCM) (n z_len)
  have GWy := ok_ways (P := l.prog) (w := w) (mg := mg) (base := base) (R := ⟨CE, CC, CB, CF, CM⟩) (k := 5) FWy FWo GWo bWo (g aWo) FWa (GWa.mono (by decide)) bWa (g aWa) FWf GWf bWf (g aWf) (g zM4) (g zM3)
  have GNe := ok_near (P := l.prog) (w := w) (mg := mg) (base := base) (k := 0) FNe TW (n z_enumerate)
  have GAl := ok_alike (P := l.prog) (w := w) (mg := mg) (base := base) (k := 0) FAl (n z_list) (n z_enumerate)
  have GEc := ok_echo (P := l.prog) (w := w) (mg := mg) (base := base) (k := 1) FEc FNe GNe bNe (g aNe) FAl GAl bAl (g aAl)
  have GRe := ok_rep (P := l.prog) (w := w) (mg := mg) (base := base) (k := 1) FRe FNe GNe bNe (g aNe) FAl GAl bAl (g aAl)
  have GF0 := ok_fix0 (P := l.prog) (w := w) (mg := mg) (base := base) (k := 1) FFx FLi GLi bLi (g aLi)
  have GF1 := ok_fix1 (P := l.prog) (w := w) (mg := mg) (base := base) (k := 2) FFx FLi (GLi.mono (by decide)) bLi (g aLi) GF0 bFx (g aFx) (n z_tuple)
  have GPI := ok_paperI (P := l.prog) (w := w) (mg := mg) (base := base) (k := 3) lPI cPI FFx GF1 bFx (g aFx)
  have GSI := ok_soundI (P := l.prog) (w := w) (mg := mg) (base := base) (k := 4) BSC cSC (n z_super) TS GPI
  have GFI := ok_freeI (P := l.prog) (w := w) (mg := mg) (base := base) (k := 4) BFC cFC (n z_super) TF nFC_most GPI
  have GJw := ok_jWalks (P := l.prog) (w := w) (mg := mg) (base := base) (R := ⟨CE, CC, CB, CF, CM⟩) (k := 5) FJw FWo (GWo.mono (by decide)) bWo (g aWo) FWf (GWf.mono (by decide)) bWf (g aWf) FEc (GEc.mono (by decide)) bEc (g aEc) MS GSI bSI (g aSC) (g zM2)
  have GSw := ok_sWalks (P := l.prog) (w := w) (mg := mg) (base := base) (R := ⟨CE, CC, CB, CF, CM⟩) (k := 5) FSw FWo (GWo.mono (by decide)) bWo (g aWo) FWf (GWf.mono (by decide)) bWf (g aWf) NE (g aXE) NS (g aSC) (n z_isinstance) (g zM2)
  have GJy := ok_jWays (P := l.prog) (w := w) (mg := mg) (base := base) (R := ⟨CE, CC, CB, CF, CM⟩) (k := 5) FJy FWy GWy bWy (g aWy) FRe (GRe.mono (by decide)) bRe (g aRe) MF GFI bFI (g aFC)
  have GSy := ok_sWays (P := l.prog) (w := w) (mg := mg) (base := base) (R := ⟨CE, CC, CB, CF, CM⟩) (k := 5) FSy FWy GWy bWy (g aWy) TS.cl IS kSR kSF (g aXR) (g aFC) (n z_isinstance)
  have GSp := ok_tub (P := l.prog) (w := w) (mg := mg) (base := base) (k := 9) FSp (n z_int)
  have GWd := ok_scoop (P := l.prog) (w := w) (mg := mg) (base := base) (k := 0) FWd (n z_int) (n z_len) (n z_abs)
  have GPk := ok_pick (P := l.prog) (w := w) (mg := mg) (base := base) (k := 1) FPk FWd GWd bWd (g aWd) (n z_len)
  have GLn := ok_line (P := l.prog) (w := w) (mg := mg) (base := base) (k := 8) FLn TW MW GWI bWI (n z_range)
  have GLf := ok_four (P := l.prog) (w := w) (mg := mg) (base := base) (R := ⟨CE, CC, CB, CF, CM⟩) (k := 6) FLf w1c TB1 FJw GJw bJw (g aJw) FSw GSw bSw (g aSw) FJy GJy kJy (g aJy) FSy GSy bSy (g aSy) MS (GSI.mono (by decide)) bSI (g aSC) FHe bHe (g aHe) E2 (n z_isinstance)
  exact ok_law (k := 10) FLa FSp GSp bSp (g aSp) FWd (GWd.mono (by decide)) bWd (g aWd) FPk (GPk.mono (by decide)) bPk (g aPk) FLn GLn bLn (g aLn) FLf GLf bLf (g aLf) TW FWS (GWS.mono (by decide)) bWS aWS iWS (by decide) (n z_list) (n z_range) (n z_str) (n z_tuple)
end P59
end S_LA
open PySem PySem.W PyProof.Rows
set_option maxRecDepth 100000 in
set_option maxHeartbeats 0 in
theorem PySem.Challenge.cw_threelanes_k59_colourings_refused_holds : PySem.Challenge.rw_threelanes_k59_colourings_refused.Holds := by
  w_on; o_law; k_head; (case hw => w_witness2)
  k_fill
  refine Hk.walk_gTs (l := PySem.Challenge.rw_threelanes_k59_colourings_refused) (n := 63) (k := 11) (x := "script") rfl (by decide) rfl ⟨rfl, by decide, by decide⟩ (fun w h Y => PySem.W.km_in_of Y) ?F
  case F =>
    intro w mg fa h KX G hmg
    refine' P59.all_mk KX G hmg ?aIn ?lIn ?cIn ?kIn ?aWi ?lWi ?cWi ?kWi ?aLi ?lLi ?cLi ?kLi ?aRo ?lRo ?cRo ?kRo ?aUn ?lUn ?cUn ?kUn ?aLo ?lLo ?cLo ?kLo ?aFx ?lFx ?cFx ?kFx ?aWa ?lWa ?cWa ?kWa ?aWw ?lWw ?cWw ?kWw ?aAr ?lAr ?cAr ?kAr ?aIt ?lIt ?cIt ?kIt ?aTi ?lTi ?cTi ?kTi ?aTt ?lTt ?cTt ?kTt ?aIw ?lIw ?cIw ?kIw ?aJw ?lJw ?cJw ?kJw ?aSw ?lSw ?cSw ?kSw ?aJy ?lJy ?cJy ?kJy ?aSy ?lSy ?cSy ?kSy ?aWo ?lWo ?cWo ?kWo ?aWf ?lWf ?cWf ?kWf ?aWy ?lWy ?cWy ?kWy ?aAl ?lAl ?cAl ?kAl ?aNe ?lNe ?cNe ?kNe ?aEc ?lEc ?cEc ?kEc ?aRe ?lRe ?cRe ?kRe ?aSp ?lSp ?cSp ?kSp ?aWd ?lWd ?cWd ?kWd ?aPk ?lPk ?cPk ?kPk ?aHe ?lHe ?cHe ?kHe ?aLn ?lLn ?cLn ?kLn ?aLf ?lLf ?cLf ?kLf ?aLa ?lLa ?cLa ?kLa ?w1c ?w1k ?w1v ?w1n ?r1 ?aCS ?bCS ?dCS ?tCS ?aCB ?xCB ?vCB ?saCB ?gaCB ?ggCB ?noCB ?keCB ?exCB ?tyCB ?hdCB ?ciCB ?haCB ?hmCB ?suCB ?kiCB ?afBI ?tfBI ?lfBI ?cfBI ?aCE ?xCE ?vCE ?saCE ?gaCE ?ggCE ?noCE ?keCE ?exCE ?tyCE ?hdCE ?ciCE ?haCE ?hmCE ?suCE ?kiCE ?afEI ?tfEI ?lfEI ?cfEI ?aCC ?xCC ?vCC ?saCC ?gaCC ?ggCC ?noCC ?keCC ?exCC ?tyCC ?hdCC ?ciCC ?haCC ?hmCC ?suCC ?kiCC ?afCI ?tfCI ?lfCI ?cfCI ?aCF ?xCF ?vCF ?saCF ?gaCF ?ggCF ?noCF ?keCF ?exCF ?tyCF ?hdCF ?ciCF ?haCF ?hmCF ?suCF ?kiCF ?afFI ?tfFI ?lfFI ?cfFI ?hn ?ht ?aCM ?xCM ?vCM ?sa_CM ?ga_CM ?gg_CM ?nw_CM ?nm_CM ?ke_CM ?ex_CM ?ty_CM ?hd_CM ?ci_CM ?ha_CM ?hm_CM ?su_CM ?afMI ?tfMI ?lfMI ?cfMI ?aWC ?aWI ?iWI ?lWI ?cWI ?kWI ?aWS ?iWS ?lWS ?cWS ?kWS ?aXE ?aXR ?aSC ?aiSC ?iiSC ?lSC ?cSC ?kvcSC ?kvsSC ?kvfSC ?kveSC ?kvdSC ?kvmSC ?kvaSC ?aFC ?aiFC ?iiFC ?lFC ?cFC ?kvcFC ?kvsFC ?kvfFC ?kveFC ?kvdFC ?kvmFC ?kvaFC ?kvo ?kvt ?kvi ?kvp ?lPI ?cPI ?pgWC ?hdWC ?poWC ?saWC ?mkWC ?kcWC ?pgSC ?hdSC ?poSC ?saSC ?mkSC ?kcSC ?pgFC ?hdFC ?poFC ?saFC ?mkFC ?kcFC ?nWC_turns ?nWC_many ?nWC_ties ?nSC_word ?nSC_parts ?nFC_word ?nFC_parts ?nFC_most ?thWC ?tmWC ?tkWC ?thSC ?tmSC ?tkSC ?kSR ?kSF ?y0WC ?y1WC ?y2WC ?y3WC ?y4WC ?y5WC ?y6WC ?y0XE ?y1XE ?y2XE ?y3XE ?y4XE ?y5XE ?y6XE ?y0SC ?y1SC ?y2SC ?y3SC ?y4SC ?y5SC ?y6SC ?kcw ?kbw ?kbc ?kfw ?kfc ?kfb ?kmw ?kmc ?kmb ?kmf ?kmm ?kNw ?kNc ?kNb ?kNf ?kNm ?zM1 ?zM2 ?zM3 ?zM4 ?z_int ?z_bool ?z_str ?z_list ?z_tuple ?z_isinstance ?z_all ?z_len ?z_abs ?z_range ?z_set ?z_sorted ?z_enumerate ?z_super
    (case aIn => k_is)
    (case lIn => k_is)
    (case cIn => k_is)
    (case kIn => k_is)
    (case aWi => k_is)
    (case lWi => k_is)
    (case cWi => k_is)
    (case kWi => k_is)
    (case aLi => k_is)
    (case lLi => k_is)
    (case cLi => k_is)
    (case kLi => k_is)
    (case aRo => k_is)
    (case lRo => k_is)
    (case cRo => k_is)
    (case kRo => k_is)
    (case aUn => k_is)
    (case lUn => k_is)
    (case cUn => k_is)
    (case kUn => k_is)
    (case aLo => k_is)
    (case lLo => k_is)
    (case cLo => k_is)
    (case kLo => k_is)
    (case aFx => k_is)
    (case lFx => k_is)
    (case cFx => k_is)
    (case kFx => k_is)
    (case aWa => k_is)
    (case lWa => k_is)
    (case cWa => k_is)
    (case kWa => k_is)
    (case aWw => k_is)
    (case lWw => k_is)
    (case cWw => k_is)
    (case kWw => k_is)
    (case aAr => k_is)
    (case lAr => k_is)
    (case cAr => k_is)
    (case kAr => k_is)
    (case aIt => k_is)
    (case lIt => k_is)
    (case cIt => k_is)
    (case kIt => k_is)
    (case aTi => k_is)
    (case lTi => k_is)
    (case cTi => k_is)
    (case kTi => k_is)
    (case aTt => k_is)
    (case lTt => k_is)
    (case cTt => k_is)
    (case kTt => k_is)
    (case aIw => k_is)
    (case lIw => k_is)
    (case cIw => k_is)
    (case kIw => k_is)
    (case aJw => k_is)
    (case lJw => k_is)
    (case cJw => k_is)
    (case kJw => k_is)
    (case aSw => k_is)
    (case lSw => k_is)
    (case cSw => k_is)
    (case kSw => k_is)
    (case aJy => k_is)
    (case lJy => k_is)
    (case cJy => k_is)
    (case kJy => k_is)
    (case aSy => k_is)
    (case lSy => k_is)
    (case cSy => k_is)
    (case kSy => k_is)
    (case aWo => k_is)
    (case lWo => k_is)
    (case cWo => k_is)
    (case kWo => k_is)
    (case aWf => k_is)
    (case lWf => k_is)
    (case cWf => k_is)
    (case kWf => k_is)
    (case aWy => k_is)
    (case lWy => k_is)
    (case cWy => k_is)
    (case kWy => k_is)
    (case aAl => k_is)
    (case lAl => k_is)
    (case cAl => k_is)
    (case kAl => k_is)
    (case aNe => k_is)
    (case lNe => k_is)
    (case cNe => k_is)
    (case kNe => k_is)
    (case aEc => k_is)
    (case lEc => k_is)
    (case cEc => k_is)
    (case kEc => k_is)
    (case aRe => k_is)
    (case lRe => k_is)
    (case cRe => k_is)
    (case kRe => k_is)
    (case aSp => k_is)
    (case lSp => k_is)
    (case cSp => k_is)
    (case kSp => k_is)
    (case aWd => k_is)
    (case lWd => k_is)
    (case cWd => k_is)
    (case kWd => k_is)
    (case aPk => k_is)
    (case lPk => k_is)
    (case cPk => k_is)
    (case kPk => k_is)
    (case aHe => k_is)
    (case lHe => k_is)
    (case cHe => k_is)
    (case kHe => k_is)
    (case aLn => k_is)
    (case lLn => k_is)
    (case cLn => k_is)
    (case kLn => k_is)
    (case aLf => k_is)
    (case lLf => k_is)
    (case cLf => k_is)
    (case kLf => k_is)
    (case aLa => k_is)
    (case lLa => k_is)
    (case cLa => k_is)
    (case kLa => k_is)
    (case w1c => rfl)
    (case w1k => k_is)
    (case w1v => rfl)
    (case w1n => first | kernel_rfl | rfl | decide +kernel)
    (case r1 => decide +kernel)
    (case aCS => k_is)
    (case bCS => k_is)
    (case dCS => k_is)
    (case tCS => k_is)
    (case aCB => k_is)
    (case xCB => k_is)
    (case vCB => first | rfl | decide +kernel)
    (case saCB => k_is)
    (case gaCB => k_is)
    (case ggCB => k_is)
    (case noCB => k_is)
    (case keCB => k_is)
    (case exCB => k_is)
    (case tyCB => k_is)
    (case hdCB => k_is)
    (case ciCB => k_is)
    (case haCB => k_is)
    (case hmCB => k_is)
    (case suCB => k_is)
    (case kiCB => kit_is)
    (case afBI => k_is)
    (case tfBI => k_is)
    (case lfBI => k_is)
    (case cfBI => k_is)
    (case aCE => k_is)
    (case xCE => k_is)
    (case vCE => first | rfl | decide +kernel)
    (case saCE => k_is)
    (case gaCE => k_is)
    (case ggCE => k_is)
    (case noCE => k_is)
    (case keCE => k_is)
    (case exCE => k_is)
    (case tyCE => k_is)
    (case hdCE => k_is)
    (case ciCE => k_is)
    (case haCE => k_is)
    (case hmCE => k_is)
    (case suCE => k_is)
    (case kiCE => kit_is)
    (case afEI => k_is)
    (case tfEI => k_is)
    (case lfEI => k_is)
    (case cfEI => k_is)
    (case aCC => k_is)
    (case xCC => k_is)
    (case vCC => first | rfl | decide +kernel)
    (case saCC => k_is)
    (case gaCC => k_is)
    (case ggCC => k_is)
    (case noCC => k_is)
    (case keCC => k_is)
    (case exCC => k_is)
    (case tyCC => k_is)
    (case hdCC => k_is)
    (case ciCC => k_is)
    (case haCC => k_is)
    (case hmCC => k_is)
    (case suCC => k_is)
    (case kiCC => kit_is)
    (case afCI => k_is)
    (case tfCI => k_is)
    (case lfCI => k_is)
    (case cfCI => k_is)
    (case aCF => k_is)
    (case xCF => k_is)
    (case vCF => first | rfl | decide +kernel)
    (case saCF => k_is)
    (case gaCF => k_is)
    (case ggCF => k_is)
    (case noCF => k_is)
    (case keCF => k_is)
    (case exCF => k_is)
    (case tyCF => k_is)
    (case hdCF => k_is)
    (case ciCF => k_is)
    (case haCF => k_is)
    (case hmCF => k_is)
    (case suCF => k_is)
    (case kiCF => kit_is)
    (case afFI => k_is)
    (case tfFI => k_is)
    (case lfFI => k_is)
    (case cfFI => k_is)
    (case hn => k_is)
    (case ht => k_is)
    (case aCM => k_is)
    (case xCM => k_is)
    (case vCM => first | rfl | decide +kernel)
    (case sa_CM => k_is)
    (case ga_CM => k_is)
    (case gg_CM => k_is)
    (case nw_CM => k_is)
    (case nm_CM => k_is)
    (case ke_CM => k_is)
    (case ex_CM => k_is)
    (case ty_CM => k_is)
    (case hd_CM => k_is)
    (case ci_CM => k_is)
    (case ha_CM => k_is)
    (case hm_CM => k_is)
    (case su_CM => k_is)
    (case afMI => k_is)
    (case tfMI => k_is)
    (case lfMI => k_is)
    (case cfMI => k_is)
    (case aWC => k_is)
    (case aWI => k_is)
    (case iWI => k_is)
    (case lWI => k_is)
    (case cWI => k_is)
    (case kWI => k_is)
    (case aWS => k_is)
    (case iWS => k_is)
    (case lWS => k_is)
    (case cWS => k_is)
    (case kWS => k_is)
    (case aXE => k_is)
    (case aXR => k_is)
    (case aSC => k_is)
    (case aiSC => k_is)
    (case iiSC => k_is)
    (case lSC => k_is)
    (case cSC => k_is)
    (case kvcSC => k_is)
    (case kvsSC => rfl)
    (case kvfSC => decide +kernel)
    (case kveSC => k_is)
    (case kvdSC => k_is)
    (case kvmSC => k_is)
    (case kvaSC => ks_is)
    (case aFC => k_is)
    (case aiFC => k_is)
    (case iiFC => k_is)
    (case lFC => k_is)
    (case cFC => k_is)
    (case kvcFC => k_is)
    (case kvsFC => rfl)
    (case kvfFC => decide +kernel)
    (case kveFC => k_is)
    (case kvdFC => k_is)
    (case kvmFC => k_is)
    (case kvaFC => ks_is)
    (case kvo => k_is)
    (case kvt => k_is)
    (case kvi => k_is)
    (case kvp => decide +kernel)
    (case lPI => k_is)
    (case cPI => k_is)
    (case pgWC => k_is)
    (case hdWC => k_is)
    (case poWC => k_is)
    (case saWC => k_is)
    (case mkWC => k_is)
    (case kcWC => k_is)
    (case pgSC => k_is)
    (case hdSC => k_is)
    (case poSC => k_is)
    (case saSC => k_is)
    (case mkSC => k_is)
    (case kcSC => k_is)
    (case pgFC => k_is)
    (case hdFC => k_is)
    (case poFC => k_is)
    (case saFC => k_is)
    (case mkFC => k_is)
    (case kcFC => k_is)
    (case nWC_turns => k_is)
    (case nWC_many => k_is)
    (case nWC_ties => k_is)
    (case nSC_word => k_is)
    (case nSC_parts => k_is)
    (case nFC_word => k_is)
    (case nFC_parts => k_is)
    (case nFC_most => k_is)
    (case thWC => k_is)
    (case tmWC => k_is)
    (case thSC => k_is)
    (case tmSC => k_is)
    (case zM1 => k_is)
    (case zM2 => k_is)
    (case zM3 => k_is)
    (case zM4 => k_is)
    (case z_int => k_is)
    (case z_bool => k_is)
    (case z_str => k_is)
    (case z_list => k_is)
    (case z_tuple => k_is)
    (case z_isinstance => k_is)
    (case z_all => k_is)
    (case z_len => k_is)
    (case z_abs => k_is)
    (case z_range => k_is)
    (case z_set => k_is)
    (case z_sorted => k_is)
    (case z_enumerate => k_is)
    (case z_super => k_is)
    (case tkWC => kit_is)
    (case tkSC => kit_is)
    (case kSR => kit_is)
    (case kSF => kit_is)
    (case y0WC => kit_is)
    (case y1WC => kit_is)
    (case y2WC => kit_is)
    (case y3WC => kit_is)
    (case y4WC => kit_is)
    (case y5WC => kit_is)
    (case y6WC => kit_is)
    (case y0XE => kit_is)
    (case y1XE => kit_is)
    (case y2XE => kit_is)
    (case y3XE => kit_is)
    (case y4XE => kit_is)
    (case y5XE => kit_is)
    (case y6XE => kit_is)
    (case y0SC => kit_is)
    (case y1SC => kit_is)
    (case y2SC => kit_is)
    (case y3SC => kit_is)
    (case y4SC => kit_is)
    (case y5SC => kit_is)
    (case y6SC => kit_is)
    (case kcw => kit_is)
    (case kbw => kit_is)
    (case kbc => kit_is)
    (case kfw => kit_is)
    (case kfc => kit_is)
    (case kfb => kit_is)
    (case kmw => kit_is)
    (case kmc => kit_is)
    (case kmb => kit_is)
    (case kmf => kit_is)
    (case kmm => kit_is)
    (case kNw => kit_is)
    (case kNc => kit_is)
    (case kNb => kit_is)
    (case kNf => kit_is)
    (case kNm => kit_is)
