import PyProof.Rows.All
import Wide.All
import OpenK.AllK
import Wide.FinOn
import HandS.ForMost
import HandS.ForExc
import HandS.Strs
import HandS.SetFor
import HandS.ClsMeth
import HandS.DictComp
import HandS.IsInst
import HandS.Style
import HandS.TupAny
import HandS.Star
import HandS.Walk
import KE.KDictList
import HandS.Conv
import KE.IntTextText
import HandS.Nested
import HandS.ExcInit
import KE.KExcSuper
import KE.KSuper
import HandS.ExcField
import PyProof.RowDictHeap
import HandS.Codes
import HandS.RaiseMore
import PySem.Challenge.RW_sharedlines_k11_texts_of_programs_judged
set_option Elab.async false
set_option maxRecDepth 100000
set_option maxHeartbeats 4000000
namespace Vf
open PySem PySem.Spec PyProof.Rows L2 ClX

structure SMet (K : PySem.W.Frag) (C : Addr) (mc : Value) (m : Str) (p g : Addr) : Prop where
  fd : PySem.W.findCls K (.ref C) mc m = some (.get (.builtin "staticmethod.__get__") (.ref p) .none (.ref C))
  rc : ∃ rest, PySem.W.recIn K p "staticmethod" = some (.ref g :: rest)
  kp : PySem.W.keepIn K (.ref g) = true
def tSM (C : Addr) (sp : Sp) (dvs : List V) (E : XK) (ta : TE) (t : TA) : TE :=
  fun σ H Q => ta σ H fun x H1 => x = .ref C ∧ t σ H1 fun vs H2 => sp (vs ++ dvs) H2 Q E
section
variable {X : Cx} {CX : CXT} {k : Nat} {C p g : Addr} {mc : Value} {fd : FuncData} {ps : List Str} {sp : Sp} {dvs : List V} {ds : List Value} {E : XK} {o e : Expr} {es : List Expr} {m : Str} {pos apos : Pos} {ta : TE} {t : TA} {pl : Sem Bool}
theorem pe_smeth (he : PE X o ta) (r : CRead X.K C mc) (c : SMet X.K C mc m p g)
    (F : FnOk X.prog X.w X.K X.mg X.base CX k g fd ps sp) (hr : Room k X.A) (hb : Binds X.K fd ps ds) (hd : Vals dvs ds) (hx : Passes CX X E)
    (ha : PA X (e :: es) t) (hst : starEach (e :: es) X.env = (false, eval e X.env) :: starEach es X.env := by rfl)
    (hpl : (backTo pos (starEach es X.env)).any (·.1) = false := by rfl)
    (ht : eval (.Call (.Attribute o m apos) (e :: es) [] pos) X.env = (do
      let ov ← eval o X.env
      standAt apos.atName
      let (f, first) ← holding [ov] (getMethod ov m pl)
      callWith pos f first (backTo pos (starEach (e :: es) X.env)) (backToKw pos (keywordEach [] X.env))) := by rfl) :
    PE X (.Call (.Attribute o m apos) (e :: es) [] pos) (tSM C sp dvs E ta t) := by
  refine ⟨fun pins s σ H Q I h => PySem.W.methodCall_KW (pl := pl) (thn (he.run pins s σ H _ I h) ?_) ht⟩
  rintro u s1 ⟨x, H1, I1, rx, rfl, q⟩
  obtain rfl : u = Value.ref C := rx
  obtain ⟨rest, hp⟩ := c.rc
  refine PySem.W.method_cls I1.kIn r.ga (PySem.W.cls_bind I1.kIn r.rd c.fd (wpAny_call
    (PySem.W.sm_get (s := { s1 with toks := s1.toks + 1 }) I1.kIn hp (PySem.W.handed_on rfl ?_))))
  have I2 : Inv X pins σ H1 { s1 with toks := s1.toks + 1 } := I1.tok _
  refine PySem.W.callWith_K (h₀ := X.base) I.ok.mod.kin c.kp (thn (ha.run pos pins _ σ H1 _ I2 q) ?_) hst hpl
  rintro us s2 ⟨vs, H2, I3, rv, q2⟩
  exact ⟨I3.kIn, run_fn F hr hb hd hx I3 rv q2⟩
end
end Vf

set_option maxRecDepth 100000
set_option maxHeartbeats 4000000
namespace Vf
open PySem PySem.Spec PyProof.Rows L2
/-- a set just made -/
abbrev emptySet (w : World) : Obj := { cls := .type "set", dict := none, data := .set #[] 0 (.fresh 0 0 (!w.params.followText "set-order")) }
section
variable {P : Program} {w : World} {A : Around} {E : Value → Shared → Prop} {s : Shared}
theorem set_init_list {l S : Addr} {items : Array Value} {h0 : Heap} (ns : List Int) (hh : A.handled = none) (h0S : S = s.heap.objs.size) (hl : s.heap.IsList l items)
    (hit : IntsAre items.toList ns) (hb : ns.length + 1 < scanBound) (e0 : h0 = s.heap.push (emptySet w)) {R : Result → Shared → Prop}
    (h : ∀ h' tk c, SetR w h' S (fun j => decide (j ∈ ns)) c → c ≤ ns.length → (∀ b o, s.heap.get? b = some o → h'.get? b = some o) →
      R (.ok (.ret .none)) { s with heap := h', toks := tk }) :
    codeAny (model P w) A (.call (.builtin "set.__init__") ⟨[.ref S, .ref l], []⟩) R { s with heap := h0 } := by
  subst h0S e0
  have hS : (s.heap.push (emptySet w)).get? s.heap.objs.size = some (emptySet w) := Heap.get?_push_size _ rfl
  have hT : Shared.TypeIs { s with heap := s.heap.push (emptySet w) } (.ref s.heap.objs.size) "set" := ⟨_, hS, rfl⟩
  refine codeAny_call_builtin F.called_set.init.plain F.entry_set_init (check_set_init_1 hT ?_)
  have hisz : items.size = ns.length := by
    have q := IntsAre.length hit
    rwa [Array.length_toList] at q
  obtain ⟨ol, hol, hcl, nl, hdl⟩ := hl
  obtain ⟨ocls, odict, odata, oslots⟩ := ol
  dsimp only at hcl hdl
  subst hcl hdl
  have hol' : (s.heap.push (emptySet w)).get? l = some { cls := .type "list", dict := odict, data := .seq items nl, slots := oslots } :=
    Heap.get?_push_of_some _ hol
  have hsls := F.sub_list_set
  have hslf := F.sub_list_frozenset
  have hne : (Value.type "list" == Value.type "dict") = false := by decide
  have hl1 : (s.heap.push (emptySet w)).IsList l items := ⟨_, hol', rfl, nl, rfl⟩
  unfold Builtin.«set.__init__» noKeywords Builtin.Frozenset.updateFrom
  generalize hPI : pyIter = PI
  wp_walk
  subst hPI
  refine wpAny_pyIter_list hl1 (wpAny_bind (wpAny_runValue ?_))
  have hlS : l < s.heap.objs.size := Heap.lt_size hol
  have hh3 : A.in1.in1.handled = none := hh
  have hsz : (s.heap.push (emptySet w)).objs.size = s.heap.objs.size + 1 := Heap.size_push ..
  have hlt : ∀ b : Addr, b < s.heap.objs.size → b ∉ [s.heap.objs.size, s.heap.objs.size + 1] := fun b hb hm => by
    rcases List.mem_cons.mp hm with e | e
    · exact Nat.lt_irrefl _ (e ▸ hb)
    · exact Nat.lt_irrefl _ (Nat.lt_succ_of_lt (List.mem_singleton.mp e ▸ hb))
  have hneI : l ≠ (s.heap.push (emptySet w)).objs.size := by rw [hsz]; exact Nat.ne_of_lt (Nat.lt_succ_of_lt hlS)
  have hSf : s.heap.objs.size ∉ [(s.heap.push (emptySet w)).objs.size, l] := by
    rw [hsz]
    simp only [List.mem_cons, List.not_mem_nil, or_false, not_or]
    exact ⟨Nat.ne_of_lt (Nat.lt_succ_self _), Nat.ne_of_gt hlS⟩
  have hcur : (s.heap.push (emptySet w)).IsList l items := hl1
  have hval : ∀ (i : Nat) (v : Value), items[i]? = some v → ∃ k t, ns[i]? = some k ∧ v = .int k t := fun i v hv => by
    have hi : i < items.size := (Array.getElem?_eq_some_iff.mp hv).1
    obtain ⟨t, ht⟩ := IntsAre.int_at hit i v (by rw [Array.getElem?_toList]; exact hv)
    have hi2 : i < ns.length := by omega
    refine ⟨ns[i], t, List.getElem?_eq_getElem hi2, ?_⟩
    rw [ht, List.getD_eq_getElem?_getD, List.getElem?_eq_getElem hi2]
    rfl
  refine set_update_ints ((Walks.list hh3 _ l hneI items).toS) s.heap.objs.size hSf ns hisz hb hval (items.size - 0) 0 _ (by omega) (Nat.zero_le _)
    ?hSt ?hS0 ?hR
  case hSt => exact ⟨⟨_, Heap.get?_push_size _ rfl, rfl, rfl⟩, (hl1.push _)⟩
  case hS0 => exact ⟨0, Nat.le_refl _, setR_new_at (Heap.get?_push_of_some _ hS)⟩
  case hR =>
    rintro ⟨h', g2, d', tk', os'⟩ c hm hc hR
    obtain rfl : g2 = s.gens := hm.gens
    obtain rfl : d' = s.drawn := hm.drawn
    obtain rfl : os' = s.os := hm.os
    refine wpAny_pure (wpAny_pure (h h' tk' c hR (by omega) fun b o e => ?_))
    refine hm.heap b o ?_ (Heap.get?_push_of_some _ (Heap.get?_push_of_some _ e))
    rw [hsz]
    exact hlt b (Heap.lt_size e)
theorem call_set_listI {l : Addr} {items : Array Value} (ns : List Int) {Q : Value → Shared → Prop} (hh : A.handled = none) (hl : s.heap.IsList l items)
    (hit : IntsAre items.toList ns) (hb : ns.length + 1 < scanBound)
    (h : ∀ h' tk c, SetR w h' s.heap.objs.size (fun j => decide (j ∈ ns)) c → c ≤ ns.length → (∀ b o, s.heap.get? b = some o → h'.get? b = some o) →
      Q (.ref s.heap.objs.size) { s with heap := h', toks := tk }) :
    wpAny (model P w) A (call (.type "set") [.ref l]) Q E s := by
  have hT : Shared.TypeIs { s with heap := s.heap.push (emptySet w) } (.ref s.heap.objs.size) "set" := ⟨_, Heap.get?_push_size _ rfl, rfl⟩
  obtain ⟨c, tl, hmro⟩ := F.called_set.mro; have hmade := F.called_set.made; have hsub := F.called_set.sub
  have h1 := F.called_set.notType; have h2 := F.called_set.canCreate; have hct := F.typeCall_set_1 (.ref l)
  have hli := F.called_set.init.lookup; have hbi := F.called_set.init.bind (.ref s.heap.objs.size)
  refine wpAny_call (codeAny_of_tree (show wpAny _ _ (callAny (.type "set") _) _ _ _ from
    wpAny_pure ⟨Code.quiet_builtin _ (by decide +kernel), codeAny_builtin F.entry_type_call ?_⟩))
  rw [Around.under_plain (weight_type_call_type "set" [.ref l] []) rfl]
  repeat (any_goals (first | assumption | wp_step))
  refine codeAny_mono (code_set_led1 (.ref l) (E := E) (Q₁ := fun obj s₁ => obj = .ref s.heap.objs.size ∧ s₁ = { s with heap := s.heap.push (emptySet w) }) ⟨rfl, rfl⟩) ?_
  rintro (e | (_ | _ | _ | obj)) s₁ hr
  · exact hr
  · exact hr.elim
  · exact hr.elim
  · exact hr.elim
  obtain ⟨rfl, rfl⟩ := hr
  repeat (any_goals (first | assumption | wp_step))
  refine codeAny_mono (set_init_list (s := s) (R := wants (fun r s₂ => r = .none ∧ Q (.ref s.heap.objs.size) s₂) E) ns (by exact hh) rfl hl hit hb rfl
    fun h' tk c hR hc hk => ⟨rfl, h h' tk c hR hc hk⟩) ?_
  rintro (e | (_ | _ | _ | r)) s₂ hr
  · exact hr
  · exact hr.elim
  · exact hr.elim
  · exact hr.elim
  obtain ⟨rfl, hq⟩ := hr
  repeat (any_goals (first | assumption | wp_step))
end
theorem nodup_len {α : Type} [DecidableEq α] : ∀ {l m : List α}, l.Nodup → (∀ x ∈ l, x ∈ m) → l.length ≤ m.length
  | [], _, _, _ => Nat.zero_le _
  | a :: l, m, nd, h => by
    have hm := h a List.mem_cons_self
    have e := List.length_erase_of_mem hm
    have hpos := List.length_pos_of_mem hm
    have ih := nodup_len (l := l) (m := m.erase a) (List.nodup_cons.mp nd).2 fun x hx => by
      refine (List.mem_erase_of_ne fun z => ?_).mpr (h x (List.mem_cons_of_mem _ hx))
      exact (List.nodup_cons.mp nd).1 (z ▸ hx)
    rw [List.length_cons]
    omega
/-- set(xs): the set of the ints of a list, new -/
def rSetI (K : PySem.W.Frag) (w : World) : List V → Hp → VK → Prop := fun vs H Q => ∃ (a : Addr) (ns : List Int), vs = [.ref a] ∧ SqL K H a (ns.map V.int) ∧ ns.length + 1 < scanBound ∧
  ∀ (p : Addr) (c : Nat), H p = none → (∀ l : List Int, (∀ k ∈ ns, k ∈ l) → c ≤ l.length) → Q (.ref p) (upd H p (SetO w p (fun j => decide (j ∈ ns)) c))
theorem cr_setI {X : Cx} (hc : X.calm = true) : CallR X (.type "set") (rSetI X.K X.w) := by
  intro pins s σ H vs us Q I r h
  obtain ⟨a, ns, rfl, hS, hb, q⟩ := h
  obtain ⟨its, rv, pl, hz⟩ := I.list hS
  rw [Vals.ref1 r]
  refine call_set_listI ns (I.ok.hd hc) pl.isList (by simpa using intsAre_of rv) hb fun h' tk c R hcn k => ?_
  refine ⟨.ref _, _, I.laid (t' := tk) k (Nat.le_refl _) (setO_new R), rfl, q _ c (I.hok.fresh (Nat.le_refl _)) fun l hl => ?_⟩
  obtain ⟨o, es, ep, t, _, _, _, _, nd, hm, _, _, hn, _⟩ := R
  rw [← hn, ← Array.length_toList, ← List.length_map (f := keyOf)]
  exact nodup_len nd fun x hx => hl x (of_decide_eq_true ((hm x).mpr hx))
end Vf

set_option maxRecDepth 100000
set_option maxHeartbeats 4000000
namespace Vf
open PySem PySem.Spec PyProof.Rows L2
section
variable {J : It} {n : Nat} {G : Hp → Prop} {Y : Nat → Hp → V → Hp → Prop}
theorem same_new {H : Hp} {p : Addr} {o : HO} (h : H p = none) : Same H (upd H p o) := fun b u e => by rw [upd_ne (ne_of_none e h)]; exact e
theorem same_upd {H H1 : Hp} {p : Addr} {o : HO} (s : Same H H1) (h : H p = none) : Same H (upd H1 p o) := fun b u e => by rw [upd_ne (ne_of_none e h)]; exact s b u e
theorem same_both {H H1 : Hp} {p : Addr} {o : HO} (s : Same H H1) : Same (upd H p o) (upd H1 p o) := fun b u e => by
  by_cases hb : b = p
  · subst hb
    rw [upd_same] at e ⊢
    exact e
  · rw [upd_ne hb] at e ⊢
    exact s b u e
theorem take_fm {α β : Type} {l : List α} {f : α → Option β} {i : Nat} {a : α} (h : l[i]? = some a) : (l.take (i + 1)).filterMap f = (l.take i).filterMap f ++ (f a).toList := by
  rw [List.take_add_one, h, List.filterMap_append]
  cases e : f a <;> simp [e]
/-- [.. for .. in .. if ..] -/
theorem lc_fm {α : Type} (l : List α) (w : Walk J l.length G Y) {g : TG} {tt : TT} {te : TE} {vs : List Nat} {σ : L2.St} {H1 : Hp} {D : Addr} {Qd : Hp → Prop} (hD : H1 D = none) (f : α → Option V) (hn : l.length < 1000000) (hG : ∀ H, Same H1 H → G H)
    (hs : ∀ i a x H H', l[i]? = some a → Same H1 H → Y i H x H' → ∀ R : Option V → Hp → Prop, (∀ H4, Same H H4 → R (f a) H4) →
      g x (wipe σ vs) H' fun σ2 H2 => wipe σ2 vs = wipe σ vs ∧ tt σ2 H2 fun b H3 => if b = true then te σ2 H3 (fun y => R (some y)) else R none H3)
    (hd : ∀ H, Same H1 H → H D = some (.lst (l.filterMap f)) → Qd H) :
    ∃ W : Nat → Nat → Hp → Prop, (∃ m, W 0 m (upd H1 D (.lst []))) ∧ ∀ i m H, W i m H →
      (J.stop i H ∧ Qd H) ∨ (J.go i H ∧ ∃ Nx : Hp → Prop, (∀ H', Nx H' → ∃ m', m' < m ∧ W (i + 1) m' H') ∧ ∀ x H', J.yld i H x H' → g x (wipe σ vs) H' fun σ2 H2 => wipe σ2 vs = wipe σ vs ∧ tt σ2 H2 fun b H3 =>
        if b = true then te σ2 H3 fun y H4 => ∃ acc, H4 D = some (.lst acc) ∧ acc.length < sizeLine ∧ Nx (upd H4 D (.lst (acc ++ [y]))) else Nx H3) := by
  refine ⟨fun i m H => m = l.length - i ∧ i ≤ l.length ∧ Same H1 H ∧ H D = some (.lst ((l.take i).filterMap f)), ⟨l.length, by simp, Nat.zero_le _, same_new hD, by rw [upd_same]; simp⟩, ?_⟩
  rintro i m H ⟨rfl, hi, s, hH⟩
  by_cases hlt : i < l.length
  · have ha : l[i]? = some l[i] := List.getElem?_eq_getElem hlt
    have hlen : ((l.take i).filterMap f).length < sizeLine := by
      have h1 := List.length_filterMap_le f (l.take i)
      rw [List.length_take] at h1
      rw [sizeLine_eq]
      omega
    refine .inr ⟨w.goes i H hlt (hG H s), fun H' => Same H1 H' ∧ H' D = some (.lst ((l.take (i + 1)).filterMap f)), fun H' p => ⟨l.length - (i + 1), by omega, rfl, hlt, p⟩, fun x H' y => ?_⟩
    refine hs i _ x H H' ha s (w.yields i H x H' hlt (hG H s) y) (fun o H4 => match o with
      | some y => ∃ acc, H4 D = some (.lst acc) ∧ acc.length < sizeLine ∧ Same H1 (upd H4 D (.lst (acc ++ [y]))) ∧ (upd H4 D (.lst (acc ++ [y]))) D = some (.lst ((l.take (i + 1)).filterMap f))
      | none => Same H1 H4 ∧ H4 D = some (.lst ((l.take (i + 1)).filterMap f))) ?_
    intro H4 s4
    have e4 := s4 D _ hH
    rw [take_fm ha]
    cases e : f l[i] with
    | some y => exact ⟨_, e4, hlen, same_upd (s.trans s4) hD, by rw [upd_same]; rfl⟩
    | none => exact ⟨s.trans s4, by rw [e4]; simp⟩
  · have e : i = l.length := by omega
    subst e
    rw [List.take_length] at hH
    exact .inl ⟨w.stops H (hG H s), hd H s hH⟩
/-- [.. for .. in ..], no test -/
theorem lc_mp {α : Type} (l : List α) (w : Walk J l.length G Y) {g : TG} {te : TE} {vs : List Nat} {σ : L2.St} {H1 : Hp} {D : Addr} {Qd : Hp → Prop} (hD : H1 D = none) (f : α → V) (hn : l.length < 1000000) (hG : ∀ H, Same H1 H → G H)
    (hs : ∀ i a x H H', l[i]? = some a → Same H1 H → Y i H x H' → ∀ R : V → Hp → Prop, (∀ H4, Same H H4 → R (f a) H4) →
      g x (wipe σ vs) H' fun σ2 H2 => wipe σ2 vs = wipe σ vs ∧ te σ2 H2 R)
    (hd : ∀ H, Same H1 H → H D = some (.lst (l.map f)) → Qd H) :
    ∃ W : Nat → Nat → Hp → Prop, (∃ m, W 0 m (upd H1 D (.lst []))) ∧ ∀ i m H, W i m H →
      (J.stop i H ∧ Qd H) ∨ (J.go i H ∧ ∃ Nx : Hp → Prop, (∀ H', Nx H' → ∃ m', m' < m ∧ W (i + 1) m' H') ∧ ∀ x H', J.yld i H x H' → g x (wipe σ vs) H' fun σ2 H2 => wipe σ2 vs = wipe σ vs ∧ tYes σ2 H2 fun b H3 =>
        if b = true then te σ2 H3 fun y H4 => ∃ acc, H4 D = some (.lst acc) ∧ acc.length < sizeLine ∧ Nx (upd H4 D (.lst (acc ++ [y]))) else Nx H3) := by
  refine ⟨fun i m H => m = l.length - i ∧ i ≤ l.length ∧ Same H1 H ∧ H D = some (.lst ((l.take i).map f)), ⟨l.length, by simp, Nat.zero_le _, same_new hD, by rw [upd_same]; simp⟩, ?_⟩
  rintro i m H ⟨rfl, hi, s, hH⟩
  by_cases hlt : i < l.length
  · have ha : l[i]? = some l[i] := List.getElem?_eq_getElem hlt
    have hlen : ((l.take i).map f).length < sizeLine := by
      rw [List.length_map, List.length_take, sizeLine_eq]
      omega
    refine .inr ⟨w.goes i H hlt (hG H s), fun H' => Same H1 H' ∧ H' D = some (.lst ((l.take (i + 1)).map f)), fun H' p => ⟨l.length - (i + 1), by omega, rfl, hlt, p⟩, fun x H' y => ?_⟩
    have q := hs i _ x H H' ha s (w.yields i H x H' hlt (hG H s) y) (fun y H4 => ∃ acc, H4 D = some (.lst acc) ∧ acc.length < sizeLine ∧ Same H1 (upd H4 D (.lst (acc ++ [y]))) ∧ (upd H4 D (.lst (acc ++ [y]))) D = some (.lst ((l.take (i + 1)).map f))) ?_
    · exact q
    intro H4 s4
    have e4 := s4 D _ hH
    refine ⟨_, e4, hlen, same_upd (s.trans s4) hD, ?_⟩
    rw [upd_same, List.take_add_one, ha, List.map_append]
    rfl
  · have e : i = l.length := by omega
    subst e
    rw [List.take_length] at hH
    exact .inl ⟨w.stops H (hG H s), hd H s hH⟩
/-- {.. for .. in ..}: the state by an invariant -/
theorem dc_it (w : Walk J n G Y) {g : TG} {tt : TT} {tk tv : TE} {vs : List Nat} {σ : L2.St} {H1 : Hp} {D : Addr} {Qd : Hp → Prop} (Pv : Nat → Hp → Prop) (h0 : Pv 0 (upd H1 D (.dK []))) (hG : ∀ i H, i ≤ n → Pv i H → G H)
    (hs : ∀ i x H H', i < n → Pv i H → Y i H x H' → g x (wipe σ vs) H' fun σ2 H2 => wipe σ2 vs = wipe σ vs ∧ tt σ2 H2 fun b H3 =>
      if b = true then tk σ2 H3 fun y H4 => tv σ2 H4 fun z H5 => ∃ kvs k, y = kV k ∧ H5 D = some (.dK kvs) ∧ kvs.length < sizeLine ∧ Pv (i + 1) (upd H5 D (.dK (putK kvs k z))) else Pv (i + 1) H3) (hd : ∀ H, Pv n H → Qd H) :
    ∃ W : Nat → Nat → Hp → Prop, (∃ m, W 0 m (upd H1 D (.dK []))) ∧ ∀ i m H, W i m H →
      (J.stop i H ∧ Qd H) ∨ (J.go i H ∧ ∃ Nx : Hp → Prop, (∀ H', Nx H' → ∃ m', m' < m ∧ W (i + 1) m' H') ∧ ∀ x H', J.yld i H x H' → g x (wipe σ vs) H' fun σ2 H2 => wipe σ2 vs = wipe σ vs ∧ tt σ2 H2 fun b H3 =>
        if b = true then tk σ2 H3 fun y H4 => tv σ2 H4 fun z H5 => ∃ kvs k, y = kV k ∧ H5 D = some (.dK kvs) ∧ kvs.length < sizeLine ∧ Nx (upd H5 D (.dK (putK kvs k z))) else Nx H3) := by
  refine ⟨fun i m H => m = n - i ∧ i ≤ n ∧ Pv i H, ⟨n, by simp, Nat.zero_le _, h0⟩, ?_⟩
  rintro i m H ⟨rfl, hi, p⟩
  by_cases hlt : i < n
  · exact .inr ⟨w.goes i H hlt (hG i H hi p), Pv (i + 1), fun H' p' => ⟨n - (i + 1), by omega, rfl, hlt, p'⟩, fun x H' y => hs i x H H' hlt p (w.yields i H x H' hlt (hG i H hi p) y)⟩
  · have e : i = n := by omega
    subst e
    exact .inl ⟨w.stops H (hG i H hi p), hd H p⟩
end
end Vf

set_option maxRecDepth 100000
set_option maxHeartbeats 4000000
namespace Vf
open PySem PySem.Spec PyProof.Rows L2
theorem sw_dict {kx vx : Expr} {gs : List Comprehension} {scope : Scope} {pos py : Pos} {y : Str} {l : Nat} {env : Env} (hk : env.scope.kind = .function) (hy : env.scope.names.lookup y = some .local)
    (hl : (py.line == pos.line) = true) (ha : (scope.names.any fun (n, k) => n == y && (k == .local || k == .cell)) = false) : swapsWith (.DictComp kx vx gs scope pos) (some (.Name y py)) l env = pure true := by
  have k1 : env.kindOf y = some .local := hy
  have k2 : env.blockKind = .function := by
    unfold Env.blockKind
    rw [hk]
    rfl
  unfold swapsWith
  simp only [k2, k1, ha, Expr.pos, hl]
  rfl
theorem ps_setDc {X : Cx} {i : Nat} {y : Str} {py : Pos} {kx vx tg iter : Expr} {ifs : List Expr} {scope : Scope} {own : List (Str × Nat)} {pos spos : Pos} {wi : TI} {g : TG} {tt : TT} {tk tv : TE} (hc : X.calm = true) (hN : X.N.Nodup)
    (hy : X.N[i]? = some y) (hyl : X.env.scope.names.lookup y = some .local) (hsw : swapsWith (.DictComp kx vx [⟨tg, iter, ifs, 0⟩] scope pos) (some (.Name y py)) spos.line X.env = pure true)
    (hi : PI X tg iter wi) (ok : BlkOk X.N X.env.scope scope own)
    (hg : ∀ (s : Shared) (H : Hp) (C : Addr) (cl : List (Str × Addr)) (fp : List Addr), PG (X.blk s H scope (compEnvC scope cl C X.env) fp) tg g)
    (ht : ∀ (s : Shared) (H : Hp) (C : Addr) (cl : List (Str × Addr)) (fp : List Addr), PTs (X.blk s H scope (compEnvC scope cl C X.env) fp) ifs tt)
    (hk : ∀ (s : Shared) (H : Hp) (C : Addr) (cl : List (Str × Addr)) (fp : List Addr), PE (X.blk s H scope (compEnvC scope cl C X.env) fp) kx tk)
    (he : ∀ (s : Shared) (H : Hp) (C : Addr) (cl : List (Str × Addr)) (fp : List Addr), PE (X.blk s H scope (compEnvC scope cl C X.env) fp) vx tv)
    (hs : ∀ x, foldedSetIterable iter X.env x = pure x := by intro _; rfl) :
    PS X (.Assign [.Name y py] (.DictComp kx vx [⟨tg, iter, ifs, 0⟩] scope pos) spos) (tAsg (tDc wi g tt tk tv (own.map (·.2))) (gName i)) := by
  constructor
  intro pins s σ H D I h
  rw [exec_Assign_Name_used _ _ _ _ hsw]
  refine wpAny_bind (wpAny_standAt (wpAny_bind (show wpAny _ X.A (do
    let _ ← comprehension (.DictComp kx vx [⟨tg, iter, ifs, 0⟩] scope pos) scope X.env (firstIterPos [⟨tg, iter, ifs, 0⟩] pos) newDict false (eval iter X.env) (some (assign (.Name y py) X.env))) _ _ s from ?_)))
  have h' : tDc wi g tt tk tv (own.map (·.2)) σ H (fun x H1 => gName i x σ H1 D.nx) := h
  refine wpAny_bind (thn (dc_core (Qf := fun _ s' => SP X pins D .next s') hc hN I hi ok hg ht hk he hs h' ?_) fun _ s' hq => wpAny_pure (wpAny_pure hq))
  rintro L C s' m H' I' q hn ⟨f0, f1, f2, f3, f4, f5⟩
  refine wpAny_assign_Name (store_ok2 (v := V.ref L) I' hN hy (.inl hyl) rfl ?_ (.inr hyl))
  rintro s2 I2 ⟨a, sb, ha⟩
  have hCa : C ≠ a := by
    rcases ha with z | z
    · exact fun e => f1 (e.trans z)
    · exact fun e => f4 y a z e.symm
  exact ⟨m, hn.sameBut sb hCa, fun h3 sb3 => ⟨_, H', I2.turned (t' := s2.toks) (fun b o hb e => (sb3.2 b hb).trans e) f0 f1 f3 f4 f5, q⟩⟩
end Vf

set_option maxRecDepth 100000
set_option maxHeartbeats 4000000
namespace Vf
open PySem PySem.Spec PyProof.Rows L2

/-- the text of a number -/
def natS (k : Nat) : Str := Str.ofString (toString (k : Int))
def sRead : Str := "read"
def sWrite : Str := "write"
def sArrow : Str := "->"
def sEnd : Str := "end"
def sSp : Str := " "
def sNl : Str := "\n"
def isNameT (z : Str) : Bool := decide (1 ≤ z.length) && decide (z.length ≤ 8) && z.cps.toList.all fun c => decide (97 ≤ c) && decide (c ≤ 122)
/-- the number of a word, one of many -/
def numOf (many : Nat) (z : Str) : Option Nat := (List.range many).find? fun k => decide (natS k = z)
/-- a node: what it does, its cell, its targets (none: the end) -/
structure Nd where
  word : Str
  cell : Str
  tg : List (Option Nat)
  deriving DecidableEq
def rises : List Nat → Bool
  | [] => true
  | [_] => true
  | a :: b :: r => decide (a < b) && rises (b :: r)
def targetsT (many : Nat) (ws : List Str) : Option (List (Option Nat)) :=
  match ws with
  | [] => some [none]
  | w :: rest =>
    if w ≠ sArrow ∨ rest = [] then none else
    let e := decide (rest.getLast? = some sEnd)
    let named := if e then rest.dropLast else rest
    if named.all fun z => (numOf many z).isSome then
      if rises (named.filterMap (numOf many)) then some ((named.filterMap (numOf many)).map some ++ if e then [none] else []) else none
    else none
def tgOf (many : Nat) (named : List Str) (e : Bool) : Option (List (Option Nat)) :=
  if named.all fun z => (numOf many z).isSome then
    if rises (named.filterMap (numOf many)) then some ((named.filterMap (numOf many)).map some ++ if e then [none] else []) else none
  else none
theorem targetsT_bad {many : Nat} {w : Str} {rest : List Str} (h : w ≠ sArrow) : targetsT many (w :: rest) = none := if_pos (.inl h)
theorem targetsT_bare {many : Nat} : targetsT many [sArrow] = none := by
  show (if sArrow ≠ sArrow ∨ ([] : List Str) = [] then none else tgOf many [] false) = none
  rw [if_pos (.inr rfl)]
theorem targetsT_step {many : Nat} {rs : List Str} {z : Str} : targetsT many (sArrow :: (rs ++ [z])) = tgOf many (if decide (z = sEnd) = true then rs else rs ++ [z]) (decide (z = sEnd)) := by
  have e : targetsT many (sArrow :: (rs ++ [z])) = tgOf many (if decide ((rs ++ [z]).getLast? = some sEnd) = true then (rs ++ [z]).dropLast else rs ++ [z]) (decide ((rs ++ [z]).getLast? = some sEnd)) :=
    if_neg (by simp)
  rw [e, List.getLast?_append, List.dropLast_concat]
  simp only [List.getLast?_singleton, Option.some_or, Option.some.injEq]
def nodeT (many : Nat) (row : Str) : Option Nd :=
  match Txt.split row sSp with
  | w :: c :: rest => if (w = sRead ∨ w = sWrite) ∧ isNameT c = true then (targetsT many rest).map fun t => ⟨w, c, t⟩ else none
  | _ => none
/-- the nodes of the first rows, as far as they are right -/
def nodesT (many : Nat) : List Str → Option (List Nd)
  | [] => some []
  | r :: rs => (nodeT many r).bind fun n => (nodesT many rs).map (n :: ·)
def parseT (z : Str) : Option (List Nd) :=
  let rows := Txt.split z sNl
  if rows.length ≤ 8 then nodesT rows.length rows else none

theorem tl_natS (k : Nat) : TL.tl (natS k) = TL.numL k := TL.tl_num k
theorem natS_inj {a b : Nat} (h : natS a = natS b) : a = b := by
  have e : TL.tl (natS a) = TL.tl (natS b) := by rw [h]
  rw [tl_natS, tl_natS] at e
  exact TL.numL_inj e
theorem numOf_some {many k : Nat} {z : Str} : numOf many z = some k ↔ k < many ∧ natS k = z := by
  unfold numOf
  constructor
  · intro h
    have h1 := List.find?_some (p := fun k => decide (natS k = z)) h
    have h2 := List.mem_of_find?_eq_some h
    exact ⟨List.mem_range.mp h2, of_decide_eq_true h1⟩
  · rintro ⟨h1, h2⟩
    cases e : (List.range many).find? fun k => decide (natS k = z) with
    | none =>
      have := List.find?_eq_none.mp e k (List.mem_range.mpr h1)
      exact absurd (decide_eq_true h2) this
    | some j =>
      have h3 : natS j = z := of_decide_eq_true (List.find?_some (p := fun k => decide (natS k = z)) e)
      rw [natS_inj (h3.trans h2.symm)]
theorem numOf_nat {many k : Nat} (h : k < many) : numOf many (natS k) = some k := numOf_some.mpr ⟨h, rfl⟩

def tgS : Option Nat → Str
  | none => sEnd
  | some k => natS k
def rowW (full : Bool) (n : Nd) : List Str := if full = false ∧ n.tg = [none] then [n.word, n.cell] else n.word :: n.cell :: sArrow :: n.tg.map tgS
def rowS (full : Bool) (n : Nd) : Str := Txt.join sSp (rowW full n)
structure GoodTg (many : Nat) (tg : List (Option Nat)) : Prop where
  ne : tg ≠ []
  sh : ∃ (ks : List Nat) (e : Bool), tg = ks.map some ++ (if e then [none] else []) ∧ rises ks = true ∧ ∀ k ∈ ks, k < many
structure GoodNd (many : Nat) (n : Nd) : Prop where
  word : n.word = sRead ∨ n.word = sWrite
  cell : isNameT n.cell = true
  tg : GoodTg many n.tg
inductive Rows : List Str → List Nd → Prop
  | nil : Rows [] []
  | cons {n : Nd} {rs : List Str} {ns : List Nd} (f : Bool) : Rows rs ns → Rows (rowS f n :: rs) (n :: ns)

theorem tl_sp : TL.tl sSp = [32] := by decide +kernel
theorem tl_nl : TL.tl sNl = [10] := by decide +kernel
theorem tl_end : TL.tl sEnd = [101, 110, 100] := by decide +kernel
theorem natS_ne_end (k : Nat) : natS k ≠ sEnd := fun h => by
  have e : TL.tl (natS k) = TL.tl sEnd := by rw [h]
  rw [tl_natS, tl_end] at e
  exact TL.numL_free (n := k) (s := 101) (by omega) (by rw [e]; decide)
theorem filterMap_nat {many : Nat} : ∀ {ks : List Nat}, (∀ k ∈ ks, k < many) → (ks.map natS).filterMap (numOf many) = ks
  | [], _ => rfl
  | k :: ks, h => by
    rw [List.map_cons, List.filterMap_cons, numOf_nat (h k List.mem_cons_self), filterMap_nat fun z hz => h z (List.mem_cons_of_mem _ hz)]
theorem all_nat {many : Nat} {ks : List Nat} (h : ∀ k ∈ ks, k < many) : ((ks.map natS).all fun z => (numOf many z).isSome) = true := by
  rw [List.all_eq_true]
  intro z hz
  obtain ⟨k, hk, rfl⟩ := List.mem_map.mp hz
  rw [numOf_nat (h k hk)]
  rfl
theorem targetsT_good {many : Nat} {tg : List (Option Nat)} (g : GoodTg many tg) : targetsT many (sArrow :: tg.map tgS) = some tg := by
  obtain ⟨ne, ks, e, rfl, hr, hk⟩ := g
  have hne : (ks.map some ++ (if e then [none] else [])).map tgS ≠ [] := fun z => ne (List.map_eq_nil_iff.mp z)
  have em : (ks.map some ++ (if e then [none] else [])).map tgS = ks.map natS ++ (if e then [sEnd] else []) := by
    rw [List.map_append, List.map_map]
    cases e <;> rfl
  unfold targetsT
  rw [em] at hne ⊢
  dsimp only
  rw [if_neg (by simp only [ne_eq, not_true, false_or]; exact hne)]
  cases e with
  | true =>
    have l1 : decide ((ks.map natS ++ (if true = true then [sEnd] else [])).getLast? = some sEnd) = true := by simp
    have l2 : (ks.map natS ++ (if true = true then [sEnd] else [])).dropLast = ks.map natS := by simp
    rw [l1, if_pos rfl, l2, if_pos (all_nat hk), filterMap_nat hk, if_pos hr]
  | false =>
    have l0 : ks.map natS ++ (if false = true then [sEnd] else []) = ks.map natS := by simp
    rw [l0]
    have l1 : decide ((ks.map natS).getLast? = some sEnd) = false := by
      refine decide_eq_false fun z => ?_
      obtain ⟨k, _, h⟩ := List.mem_map.mp (List.mem_of_getLast? z)
      exact natS_ne_end k h
    rw [l1, if_neg Bool.false_ne_true, if_pos (all_nat hk), filterMap_nat hk, if_pos hr]

/-- words of a row have no blank and no line feed in them -/
def Solid (z : Str) : Prop := ∀ c ∈ TL.tl z, c ≠ 32 ∧ c ≠ 10
theorem solid_of {z : Str} {l : List Nat} (e : TL.tl z = l) (h : (l.all fun c => decide (c ≠ 32) && decide (c ≠ 10)) = true) : Solid z := fun c hc => by
  rw [e] at hc
  have q := List.all_eq_true.mp h c hc
  simpa using q
theorem solid_read : Solid sRead := solid_of (l := [114, 101, 97, 100]) (by decide +kernel) (by decide)
theorem solid_write : Solid sWrite := solid_of (l := [119, 114, 105, 116, 101]) (by decide +kernel) (by decide)
theorem solid_arrow : Solid sArrow := solid_of (l := [45, 62]) (by decide +kernel) (by decide)
theorem solid_end : Solid sEnd := solid_of tl_end (by decide)
theorem solid_nat (k : Nat) : Solid (natS k) := fun c hc => by
  rw [tl_natS] at hc
  exact ⟨fun e => TL.numL_free (n := k) (s := 32) (by omega) (e ▸ hc), fun e => TL.numL_free (n := k) (s := 10) (by omega) (e ▸ hc)⟩
theorem name_signs {z : Str} (h : isNameT z = true) : ∀ c ∈ TL.tl z, 97 ≤ c ∧ c ≤ 122 := fun c hc => by
  unfold isNameT at h
  simp only [Bool.and_eq_true, List.all_eq_true, decide_eq_true_eq] at h
  exact h.2 c hc
theorem name_len {z : Str} (h : isNameT z = true) : 1 ≤ z.length ∧ z.length ≤ 8 := by
  unfold isNameT at h
  simp only [Bool.and_eq_true, decide_eq_true_eq] at h
  exact h.1
theorem solid_name {z : Str} (h : isNameT z = true) : Solid z := fun c hc => by
  have := name_signs h c hc
  omega
theorem solid_tg (t : Option Nat) : Solid (tgS t) := by
  cases t with
  | none => exact solid_end
  | some k => exact solid_nat k
theorem solid_row {many : Nat} {n : Nd} (g : GoodNd many n) (f : Bool) : ∀ z ∈ rowW f n, Solid z := fun z hz => by
  have hw : Solid n.word := by rcases g.word with e | e <;> rw [e] <;> first | exact solid_read | exact solid_write
  unfold rowW at hz
  split at hz
  · rcases List.mem_cons.mp hz with rfl | hz
    · exact hw
    · rw [List.mem_singleton.mp hz]
      exact solid_name g.cell
  · rcases List.mem_cons.mp hz with rfl | hz
    · exact hw
    rcases List.mem_cons.mp hz with rfl | hz
    · exact solid_name g.cell
    rcases List.mem_cons.mp hz with rfl | hz
    · exact solid_arrow
    · obtain ⟨t, _, rfl⟩ := List.mem_map.mp hz
      exact solid_tg t
theorem rowW_ne (f : Bool) (n : Nd) : rowW f n ≠ [] := by
  unfold rowW
  split <;> simp
theorem split_row {many : Nat} {n : Nd} (g : GoodNd many n) (f : Bool) : Txt.split (rowS f n) sSp = rowW f n :=
  TL.split_join (y := sSp) (s := 32) (S := []) tl_sp (by decide +kernel) (rowW_ne f n) fun z hz h => (solid_row g f z hz 32 h).1 rfl
theorem nodeT_good {many : Nat} {n : Nd} (g : GoodNd many n) (f : Bool) : nodeT many (rowS f n) = some n := by
  unfold nodeT
  rw [split_row g f]
  by_cases hf : f = false ∧ n.tg = [none]
  · have e : rowW f n = [n.word, n.cell] := if_pos hf
    rw [e]
    show (if (n.word = sRead ∨ n.word = sWrite) ∧ isNameT n.cell = true then (targetsT many []).map _ else none) = _
    rw [if_pos ⟨g.word, g.cell⟩]
    obtain ⟨w, c, t⟩ := n
    obtain rfl : t = [none] := hf.2
    rfl
  · have e : rowW f n = n.word :: n.cell :: sArrow :: n.tg.map tgS := if_neg hf
    rw [e]
    show (if (n.word = sRead ∨ n.word = sWrite) ∧ isNameT n.cell = true then (targetsT many (sArrow :: n.tg.map tgS)).map _ else none) = _
    rw [if_pos ⟨g.word, g.cell⟩, targetsT_good g.tg]
    rfl
theorem nodesT_good {many : Nat} {rs : List Str} {ns : List Nd} (h : Rows rs ns) (g : ∀ n ∈ ns, GoodNd many n) : nodesT many rs = some ns := by
  induction h with
  | nil => rfl
  | @cons n rs ns f _ ih =>
    unfold nodesT
    rw [nodeT_good (g n List.mem_cons_self) f, ih fun z hz => g z (List.mem_cons_of_mem _ hz)]
    rfl
theorem Rows.len {rs : List Str} {ns : List Nd} (h : Rows rs ns) : rs.length = ns.length := by
  induction h with
  | nil => rfl
  | cons f _ ih => rw [List.length_cons, List.length_cons, ih]
theorem mem_joinL {S : List Nat} {c : Nat} : ∀ {ps : List (List Nat)}, c ∈ TL.joinL S ps → c ∈ S ∨ ∃ p ∈ ps, c ∈ p
  | [], h => by cases h
  | [p], h => .inr ⟨p, List.mem_cons_self, h⟩
  | p :: q :: r, h => by
    have h' : c ∈ p ++ (S ++ TL.joinL S (q :: r)) := h
    rcases List.mem_append.mp h' with h | h
    · exact .inr ⟨p, List.mem_cons_self, h⟩
    rcases List.mem_append.mp h with h | h
    · exact .inl h
    · rcases mem_joinL (ps := q :: r) h with h | ⟨z, hz, hc⟩
      · exact .inl h
      · exact .inr ⟨z, List.mem_cons_of_mem _ hz, hc⟩
theorem row_no_nl {many : Nat} {n : Nd} (g : GoodNd many n) (f : Bool) : 10 ∉ TL.tl (rowS f n) := fun h => by
  unfold rowS at h
  rw [TL.join_eq, TL.tl_join, tl_sp] at h
  rcases mem_joinL h with h | ⟨p, hp, hc⟩
  · revert h
    decide
  · obtain ⟨z, hz, rfl⟩ := List.mem_map.mp hp
    exact (solid_row g f z hz 10 hc).2 rfl
theorem split_rows {many : Nat} {rs : List Str} {ns : List Nd} (h : Rows rs ns) (g : ∀ n ∈ ns, GoodNd many n) (hn : ns ≠ []) : Txt.split (Txt.join sNl rs) sNl = rs := by
  have hne : rs ≠ [] := fun z => hn (List.length_eq_zero_iff.mp (by rw [← h.len, z]; rfl))
  refine TL.split_join (y := sNl) (s := 10) (S := []) tl_nl (by decide +kernel) hne ?_
  clear hn hne
  induction h with
  | nil => exact fun _ hz => nomatch hz
  | @cons n rs ns f _ ih =>
    intro z hz
    rcases List.mem_cons.mp hz with rfl | hz
    · exact row_no_nl (g n List.mem_cons_self) f
    · exact ih (fun y hy => g y (List.mem_cons_of_mem _ hy)) z hz
theorem parse_good {rs : List Str} {ns : List Nd} (h : Rows rs ns) (hn : ns ≠ []) (h8 : ns.length ≤ 8) (g : ∀ n ∈ ns, GoodNd ns.length n) : parseT (Txt.join sNl rs) = some ns := by
  unfold parseT
  rw [split_rows h g hn]
  dsimp only
  rw [h.len, if_pos h8, nodesT_good h g]
end Vf

set_option maxRecDepth 100000
set_option maxHeartbeats 4000000
namespace Vf
open PySem PySem.Spec PyProof.Rows L2
mutual
def plainD : PyData → Bool
  | .none => true
  | .bool _ => false
  | .int _ => true
  | .str x => PyData.strOk x
  | .list xs => plainAll xs
  | .tuple xs => plainAll xs
  | .dict _ => false
def plainAll : List PyData → Bool
  | [] => true
  | x :: xs => plainD x && plainAll xs
end
mutual
theorem eqv_iff : ∀ d e : PyData, plainD d = true → plainD e = true → (PyData.eqv d e = true ↔ d = e)
  | .bool _, _, h, _ => by simp [plainD] at h
  | .dict _, _, h, _ => by simp [plainD] at h
  | .none, e, _, h => by cases e <;> simp_all [PyData.eqv, plainD]
  | .int i, e, _, h => by cases e <;> simp_all [PyData.eqv, plainD]
  | .str x, e, _, h => by cases e <;> simp_all [PyData.eqv, plainD]
  | .list xs, e, h1, h => by
    cases e with
    | list ys =>
      have := eqvAll_iff xs ys (by simpa [plainD] using h1) (by simpa [plainD] using h)
      simp only [PyData.eqv, PyData.list.injEq]
      exact this
    | _ => simp_all [PyData.eqv, plainD]
  | .tuple xs, e, h1, h => by
    cases e with
    | tuple ys =>
      have := eqvAll_iff xs ys (by simpa [plainD] using h1) (by simpa [plainD] using h)
      simp only [PyData.eqv, PyData.tuple.injEq]
      exact this
    | _ => simp_all [PyData.eqv, plainD]
theorem eqvAll_iff : ∀ xs ys : List PyData, plainAll xs = true → plainAll ys = true → (PyData.eqvAll xs ys = true ↔ xs = ys)
  | [], [], _, _ => by simp [PyData.eqvAll]
  | [], _ :: _, _, _ => by simp [PyData.eqvAll]
  | _ :: _, [], _, _ => by simp [PyData.eqvAll]
  | x :: xs, y :: ys, h1, h2 => by
    simp only [plainAll, Bool.and_eq_true] at h1 h2
    simp only [PyData.eqvAll, Bool.and_eq_true, List.cons.injEq, eqv_iff x y h1.1 h2.1, eqvAll_iff xs ys h1.2 h2.2]
end
mutual
theorem canLay_plain : ∀ d : PyData, plainD d = true → d.canLay0 = true
  | .none, _ => by simp [PyData.canLay0]
  | .bool _, h => by simp [plainD] at h
  | .int _, _ => by simp [PyData.canLay0]
  | .str x, h => by simpa [PyData.canLay0, plainD] using h
  | .list xs, h => by
    simp only [PyData.canLay0]
    exact canLayAll_plain xs (by simpa [plainD] using h)
  | .tuple xs, h => by
    simp only [PyData.canLay0]
    exact canLayAll_plain xs (by simpa [plainD] using h)
  | .dict _, h => by simp [plainD] at h
theorem canLayAll_plain : ∀ xs : List PyData, plainAll xs = true → PyData.canLayAll0 xs = true
  | [], _ => by simp [PyData.canLayAll0]
  | x :: xs, h => by
    simp only [plainAll, Bool.and_eq_true] at h
    simp only [PyData.canLayAll0, Bool.and_eq_true]
    exact ⟨canLay_plain x h.1, canLayAll_plain xs h.2⟩
end
theorem shaped_of {d : PyData} (h : plainD d = true) (hd : d.depth ≤ 64) : SeqAt.shaped d = true := by
  unfold SeqAt.shaped
  rw [canLay_plain d h, decide_eq_true hd]
  rfl
theorem eqv_dec {d e : PyData} {p : Prop} [Decidable p] (h1 : plainD d = true) (h2 : plainD e = true) (hp : d = e ↔ p) : PyData.eqv d e = decide p := by
  by_cases h : p
  · rw [decide_eq_true h]
    exact (eqv_iff d e h1 h2).mpr (hp.mpr h)
  · rw [decide_eq_false h]
    cases q : PyData.eqv d e with
    | false => rfl
    | true => exact absurd (hp.mp ((eqv_iff d e h1 h2).mp q)) h
theorem plain_ints : ∀ ns : List Int, plainAll (ns.map PyData.int) = true
  | [] => rfl
  | n :: ns => by simp only [List.map_cons, plainAll, plainD, Bool.true_and, plain_ints ns]
theorem depth_ints : ∀ ns : List Int, PyData.depthAll (ns.map PyData.int) = 0
  | [] => rfl
  | n :: ns => by simp only [List.map_cons, PyData.depthAll, PyData.depth, depth_ints ns, Nat.max_self]
theorem dp_ints {K : PySem.W.Frag} {H : Hp} : ∀ ns : List Int, DpAll K H (ns.map V.int) (ns.map PyData.int)
  | [] => .nil
  | n :: ns => .cons (.int n) (dp_ints ns)
theorem map_int_inj {a b : List Int} : PyData.list (a.map PyData.int) = PyData.list (b.map PyData.int) ↔ a = b := by
  refine ⟨fun h => ?_, fun h => by rw [h]⟩
  have h' : a.map PyData.int = b.map PyData.int := by injection h
  clear h
  induction a generalizing b with
  | nil => cases b <;> simp_all
  | cons x a ih =>
    cases b with
    | nil => cases h'
    | cons y b =>
      rw [List.map_cons, List.map_cons] at h'
      injection h' with h1 h2
      injection h1 with h3
      rw [h3, ih h2]
theorem shaped_ints (ns : List Int) : SeqAt.shaped (.list (ns.map PyData.int)) = true :=
  shaped_of (by simp only [plainD, plain_ints]) (by simp only [PyData.depth, depth_ints]; decide)
theorem eqv_ints (a b : List Int) : PyData.eqv (.list (a.map PyData.int)) (.list (b.map PyData.int)) = decide (a = b) :=
  eqv_dec (by simp only [plainD, plain_ints]) (by simp only [plainD, plain_ints]) map_int_inj
theorem rises_iff : ∀ l : List Nat, rises l = true ↔ l.Pairwise (· < ·)
  | [] => by simp [rises]
  | [a] => by simp [rises]
  | a :: b :: r => by
    have ih := rises_iff (b :: r)
    simp only [rises, Bool.and_eq_true, decide_eq_true_eq, ih]
    constructor
    · rintro ⟨h1, h2⟩
      refine List.pairwise_cons.mpr ⟨fun x hx => ?_, h2⟩
      rcases List.mem_cons.mp hx with rfl | hx
      · exact h1
      · exact Nat.lt_trans h1 ((List.pairwise_cons.mp h2).1 x hx)
    · intro h
      exact ⟨(List.pairwise_cons.mp h).1 b List.mem_cons_self, (List.pairwise_cons.mp h).2⟩
theorem sorted_same : ∀ {a b : List Int}, a.Pairwise (· < ·) → b.Pairwise (· < ·) → (∀ x, x ∈ a ↔ x ∈ b) → a = b
  | [], [], _, _, _ => rfl
  | [], y :: b, _, _, h => absurd ((h y).mpr List.mem_cons_self) (by simp)
  | x :: a, [], _, _, h => absurd ((h x).mp List.mem_cons_self) (by simp)
  | x :: a, y :: b, ha, hb, h => by
    have a1 := List.pairwise_cons.mp ha
    have b1 := List.pairwise_cons.mp hb
    have e : x = y := by
      rcases List.mem_cons.mp ((h x).mp List.mem_cons_self) with e | e
      · exact e
      · rcases List.mem_cons.mp ((h y).mpr List.mem_cons_self) with e2 | e2
        · exact e2.symm
        · have := b1.1 x e
          have := a1.1 y e2
          omega
    subst e
    rw [sorted_same a1.2 b1.2 fun z => ?_]
    constructor
    · intro hz
      rcases List.mem_cons.mp ((h z).mp (List.mem_cons_of_mem _ hz)) with e | e
      · have := a1.1 z hz
        omega
      · exact e
    · intro hz
      rcases List.mem_cons.mp ((h z).mpr (List.mem_cons_of_mem _ hz)) with e | e
      · have := b1.1 z hz
        omega
      · exact e
/-- a list of numbers is its own sorted set just if it rises -/
theorem rises_set {ts : List Nat} {ns : List Int} (hs : ns.Pairwise (· < ·)) (hm : ∀ k : Int, k ∈ ns ↔ k ∈ ts.map Int.ofNat) : ts.map Int.ofNat = ns ↔ rises ts = true := by
  rw [rises_iff]
  have hp : (ts.map Int.ofNat).Pairwise (· < ·) ↔ ts.Pairwise (· < ·) := by
    rw [List.pairwise_map]
    constructor <;> intro h <;> refine h.imp fun {a b} q => ?_
    · exact Int.ofNat_lt.mp q
    · exact Int.ofNat_lt.mpr q
  rw [← hp]
  constructor
  · intro e
    rw [e]
    exact hs
  · intro h
    exact sorted_same h hs fun x => (hm x).symm
end Vf

set_option maxRecDepth 100000
set_option maxHeartbeats 4000000
namespace Vf
open PySem PySem.Spec PyProof.Rows L2
section
variable {prog : Program} {w : World} {A : Around} {E : Value → Shared → Prop} {s : Shared}
theorem hint_text {x : Str} {t : Tok} {Q : Bool → Shared → Prop} (h : Q false s) : wpAny (model prog w) A (Builtin.List.listLengthHint (.str x t)) Q E s := by
  have hT : s.TypeIs (.str x t) "str" := typeIs_str _ _ _
  unfold Builtin.List.listLengthHint
  refine wpAny_bind (wpAny_specialOf hT PySem.F.slot_str_len.lookup ?_)
  generalize hid : ("str.__len__" : String) = id0
  wp_delta
  rw [show splitId id0 = some ("str", "__len__") from by subst hid; decide +kernel]
  subst hid
  refine wpAny_bind (wpAny_isInstance (T := "str") (b := true) hT (by rw [isSubtype_type]; kernel_rfl) (wpAny_ite_split (fun hab => absurd hab (by decide)) fun _ => ?_))
  exact wpAny_ite_split (fun _ => wpAny_bind (wpAny_typeOf hT (wpAny_pure h))) fun hab => absurd (by decide +kernel) hab
set_option maxHeartbeats 8000000 in
theorem call_list_text {x : Str} {t : Tok} {Q : Value → Shared → Prop} (hh : A.handled = none) (hn : x.cps.size ≤ sizeLine)
    (hQ : ∀ h' tk acc' c', (∀ b o, s.heap.get? b = some o → h'.get? b = some o) → h'.get? s.heap.objs.size = some { cls := .type "list", dict := none, data := .seq acc' c', slots := #[] } →
      ItemsOf (SignAt x) acc' x.cps.size → Q (.ref s.heap.objs.size) { s with heap := h', toks := tk }) :
    wpAny (model prog w) A (call (.type "list") [.str x t]) Q E s := by
  refine callType_codes (Q₁ := fun obj s₁ => obj = .ref s.heap.objs.size ∧ s₁ = { s with heap := s.heap.push { cls := .type "list", data := .seq #[] } }) PySem.F.called_list
    (PySem.F.typeCall_list_1 _) PySem.F.entry_list_init (code_list_new _ ⟨rfl, rfl⟩) ?_
  rintro _ _ ⟨rfl, rfl⟩
  have hS : (s.heap.push { cls := .type "list", data := .seq #[] }).get? s.heap.objs.size = some { cls := .type "list", data := .seq #[] } := Heap.get?_push_size _ rfl
  refine ⟨⟨_, hS, rfl⟩, PySem.F.args_list_init_2 _ _, ?_⟩
  generalize hS0 : s.heap.objs.size = S at hS ⊢
  show wpAny _ _ (do let old ← Builtin.List.listItems (.ref S); Builtin.List.listUpdate (.ref S) (fun _ => #[]); letGo old.toList.reverse; Builtin.List.listExtendWith (.ref S) (.str x t) .none) _ _ _
  refine wpAny_bind (show wpAny _ _ (Builtin.List.listItems (.ref S)) _ _ _ from ?_)
  unfold Builtin.List.listItems
  refine wpAny_bind (wpAny_seqItems hS rfl (wpAny_pure ?_))
  refine wpAny_bind (show wpAny _ _ (updateSeq S (fun _ => #[])) _ _ _ from wpAny_updateSeq hS rfl ?_)
  have hS2 := Heap.get?_update_self (Obj.mapSeq (fun _ => (#[] : Array Value))) hS rfl
  refine wpAny_bind (wpAny_letGo ?_)
  unfold Builtin.List.listExtendWith
  refine wpAny_bind (wpAny_typeOf (T := "str") (typeIs_str _ _ _) ?_)
  have n1 : Builtin.List.listSameRef (.ref S) (.str x t) = false := rfl
  have n2 : (Value.type "str" == Value.type "list") = false := by decide
  have n3 : (Value.type "str" == Value.type "tuple") = false := by decide
  simp only [n1, n2, n3, Bool.or_false, Bool.false_eq_true, if_false]
  refine wpAny_bind (wpAny_pyIter_str fun oI St W st => ?_)
  refine wpAny_bind (wpAny_holding (hint_text ?_))
  refine wpAny_ite_split (fun hab => absurd hab (by decide +kernel)) fun _ => wpAny_pure ⟨plainId_quiet PySem.F.plain_extend_loop _, ?_⟩
  have hS3 := Heap.get?_push_of_some oI hS2
  have W1 := (W A.in1.in1 hh).toS
  refine codeAny_extend_loopS W1 hn S ?_ .none x.cps.size 0 _ #[] _ rfl (Nat.zero_le _) st hS3 (ItemsOf.nil _) ?_
  · exact fun hm => absurd (Heap.lt_size hS2) (by rw [← List.mem_singleton.mp hm]; exact Nat.lt_irrefl _)
  · intro s' acc' c' hm hS' hacc
    rw [Moved.eq_with hm]
    suffices hk : ∀ b o, s.heap.get? b = some o → s'.heap.get? b = some o by
      have q := hQ s'.heap s'.toks acc' c' hk (by rw [hS0]; exact hS') hacc
      rw [hS0] at q
      exact ⟨rfl, q⟩
    intro b o e
    have hbS : b ≠ S := Nat.ne_of_lt (hS0 ▸ Heap.lt_size e)
    have e2 : (s.heap.push { cls := .type "list", data := .seq #[] }).get? b = some o := Heap.get?_push_of_some _ e
    have e3 := (Heap.get?_update_other (s.heap.push { cls := .type "list", data := .seq #[] }) (Obj.mapSeq (fun _ => (#[] : Array Value))) (Ne.symm hbS)).trans e2
    refine hm.heap b o (fun hmem => ?_) (Heap.get?_push_of_some oI e3)
    rcases List.mem_cons.mp hmem with e' | hmem
    · exact hbS e'
    · exact absurd (Heap.lt_size e3) (by rw [List.mem_singleton.mp hmem]; exact Nat.lt_irrefl _)
end
/-- list(text) -/
def rListS : List V → Hp → VK → Prop := fun vs H Q => ∃ z : Str, vs = [.str z] ∧ z.length ≤ sizeLine ∧ ∀ p, H p = none → Q (.ref p) (upd H p (.lst (z.cps.toList.map fun c => V.str ⟨#[c]⟩)))
theorem cr_listS {X : Cx} (hc : X.calm = true) : CallR X (.type "list") rListS := by
  intro pins s σ H vs us Q I r h
  obtain ⟨z, rfl, hz, q⟩ := h
  obtain ⟨u, rfl, t, rfl⟩ := vals1 r
  refine call_list_text (I.ok.hd hc) hz fun h' tk acc' c' k hS hacc => ?_
  refine ⟨.ref _, _, I.laid (t' := tk) k (Nat.le_refl _) (o := .lst (z.cps.toList.map fun c => V.str ⟨#[c]⟩)) ⟨by rw [List.length_map]; simpa [Str.length] using hz, acc'.toList, c', ?_, by rw [Array.toArray_toList]; exact hS⟩, rfl, q _ (I.hok.fresh (Nat.le_refl _))⟩
  refine vals_of_at (by rw [List.length_map, Array.length_toList, Array.length_toList, hacc.1]) fun j x w h1 h2 => ?_
  rw [Array.getElem?_toList] at h2
  obtain ⟨c, u, hcj, rfl⟩ := hacc.2 j w h2
  rw [List.getElem?_map, Array.getElem?_toList, hcj] at h1
  obtain rfl : V.str ⟨#[c]⟩ = x := Option.some.inj h1
  exact ⟨u, rfl⟩
end Vf

set_option maxRecDepth 100000
set_option maxHeartbeats 4000000
namespace Vf
open PySem PySem.Spec PyProof.Rows L2
theorem numL_head : ∀ (n : Nat), 1 ≤ n → ∃ c r, TL.numL n = c :: r ∧ 49 ≤ c ∧ c ≤ 57 := by
  intro n
  induction n using Nat.strongRecOn with
  | ind n ih =>
    intro h
    by_cases h10 : n < 10
    · exact ⟨48 + n, [], TL.numL_lt h10, by omega, by omega⟩
    · obtain ⟨c, r, e, h1, h2⟩ := ih (n / 10) (by omega) (by omega)
      exact ⟨c, r ++ [48 + n % 10], by rw [TL.numL_step (by omega), e]; rfl, h1, h2⟩
/-- digits without a nought ahead are the text of their number -/
theorem numL_back : ∀ (m : Nat) (l : List Nat), l.length = m → l ≠ [] → NumText.AllDigits l → (l.length > 1 → l.head? ≠ some 48) → TL.numL (NumText.digitsVal l) = l := by
  intro m
  induction m using Nat.strongRecOn with
  | ind m ih =>
    intro l hm hne hd hz
    obtain ⟨r, d, rfl⟩ : ∃ r d, l = r ++ [d] := ⟨l.dropLast, l.getLast hne, (List.dropLast_concat_getLast hne).symm⟩
    have hdd := hd d (by simp)
    rw [NumText.digitsVal_snoc]
    cases r with
    | nil =>
      have e : NumText.digitsVal [] = 0 := rfl
      rw [e, Nat.zero_mul, Nat.zero_add, TL.numL_lt (by omega)]
      show [48 + (d - 48)] = [d]
      rw [show 48 + (d - 48) = d by omega]
    | cons c r =>
      have hc : c ≠ 48 := fun z => hz (by simp) (by rw [z]; rfl)
      have hcd := hd c (by simp)
      have hpos : 0 < NumText.digitsVal (c :: r) := NumText.digitsVal_pos (by omega)
      have hr := ih (c :: r).length (by rw [← hm]; simp) (c :: r) rfl (by simp) (fun x hx => hd x (List.mem_append_left _ hx)) (fun _ z => hc (by simpa using z))
      rw [TL.numL_step (by omega), show (NumText.digitsVal (c :: r) * 10 + (d - 48)) / 10 = NumText.digitsVal (c :: r) by omega, hr, show 48 + (NumText.digitsVal (c :: r) * 10 + (d - 48)) % 10 = d by omega]
def lawNum (w : Str) : Option Nat :=
  if TL.tl w = [] ∨ ((TL.tl w).length > 1 ∧ (TL.tl w).head? = some 48) ∨ (TL.tl w).length > 4 then none
  else if (TL.tl w).all fun c => decide (48 ≤ c) && decide (c ≤ 57) then some (NumText.digitsVal (TL.tl w)) else none
theorem all_dig {l : List Nat} : (l.all fun c => decide (48 ≤ c) && decide (c ≤ 57)) = true ↔ NumText.AllDigits l := by
  rw [List.all_eq_true]
  exact ⟨fun h c hc => by simpa using h c hc, fun h c hc => by simpa using h c hc⟩
theorem lawNum_nat {k : Nat} (h : k < 10000) : lawNum (natS k) = some k := by
  unfold lawNum
  rw [tl_natS, TL.numL_val]
  have h1 := TL.numL_ne k
  have h2 := TL.numL_len (n := k) (k := 4) (by decide) (by simpa using h)
  rw [if_neg, if_pos (all_dig.mpr (TL.numL_digits k))]
  rintro (z | ⟨z1, z2⟩ | z)
  · exact h1 z
  · by_cases h0 : k = 0
    · subst h0
      rw [TL.numL_lt (by decide)] at z1
      simp at z1
    · obtain ⟨c, r, e, h3, _⟩ := numL_head k (by omega)
      rw [e] at z2
      have : c = 48 := by simpa using z2
      omega
  · omega
theorem lawNum_some {w : Str} {k : Nat} (h : lawNum w = some k) : natS k = w := by
  unfold lawNum at h
  split at h
  · cases h
  · rename_i hn
    split at h
    · rename_i ha
      obtain rfl := Option.some.inj h
      refine TL.ext_tl ?_
      rw [tl_natS]
      exact numL_back _ _ rfl (fun z => hn (.inl z)) (all_dig.mp ha) fun z1 z2 => hn (.inr (.inl ⟨z1, z2⟩))
    · cases h
/-- a number among many: the program's dict and the statement's reckoning agree -/
theorem numOf_law {many : Nat} (hm : many ≤ 10000) (w : Str) : numOf many w = (lawNum w).filter fun k => decide (k < many) := by
  cases e : lawNum w with
  | none =>
    cases e2 : numOf many w with
    | none => rfl
    | some k =>
      obtain ⟨h1, h2⟩ := numOf_some.mp e2
      rw [← h2, lawNum_nat (by omega)] at e
      cases e
  | some k =>
    have hk := lawNum_some e
    by_cases hlt : k < many
    · rw [numOf_some.mpr ⟨hlt, hk⟩]
      simp [Option.filter, hlt]
    · cases e2 : numOf many w with
      | none => simp [Option.filter, hlt]
      | some j =>
        obtain ⟨h1, h2⟩ := numOf_some.mp e2
        have := natS_inj (hk.trans h2.symm)
        omega
/-- the statement's loop over words: what is found so far, the last number -/
def lawGo (many : Nat) : List Str → Int → Option (List (Option Nat))
  | [], _ => some []
  | w :: r, last => if w = sEnd ∧ r = [] then some [none] else
    match lawNum w with
    | none => none
    | some k => if last < (k : Int) ∧ k < many then (lawGo many r (k : Int)).map (some k :: ·) else none
def upFrom (last : Int) : List Nat → Bool
  | [] => true
  | k :: r => decide (last < (k : Int)) && upFrom (k : Int) r
theorem rises_up : ∀ (ks : List Nat), rises ks = upFrom (-1) ks := by
  have key : ∀ (ks : List Nat) (a : Nat), rises (a :: ks) = upFrom (a : Int) ks := by
    intro ks
    induction ks with
    | nil => exact fun a => rfl
    | cons b r ih =>
      intro a
      show (decide (a < b) && rises (b :: r)) = (decide ((a : Int) < (b : Int)) && upFrom (b : Int) r)
      rw [ih b, decide_eq_decide.mpr (Int.ofNat_lt (n := a) (m := b)).symm]
  intro ks
  cases ks with
  | nil => rfl
  | cons a r =>
    rw [key r a]
    show _ = (decide ((-1 : Int) < (a : Int)) && upFrom (a : Int) r)
    rw [decide_eq_true (p := (-1 : Int) < (a : Int)) (by omega), Bool.true_and]
theorem go_eq {many : Nat} (hm : many ≤ 10000) : ∀ (rs : List Str) (z : Str) (last : Int), lawGo many (rs ++ [z]) last =
    (let e := decide (z = sEnd)
     let named := if e = true then rs else rs ++ [z]
     if (named.all fun w => (numOf many w).isSome) = true then if upFrom last (named.filterMap (numOf many)) = true then some ((named.filterMap (numOf many)).map some ++ if e = true then [none] else []) else none else none)
  | [], z, last => by
    by_cases hz : z = sEnd
    · subst hz
      show (if sEnd = sEnd ∧ ([] : List Str) = [] then some [none] else _) = _
      rw [if_pos ⟨rfl, rfl⟩, decide_eq_true rfl]
      rfl
    · show (if z = sEnd ∧ ([] : List Str) = [] then some [none] else _) = _
      rw [if_neg (fun q => hz q.1), decide_eq_false hz]
      dsimp only
      rw [if_neg Bool.false_ne_true]
      simp only [List.nil_append, List.all_cons, List.all_nil, Bool.and_true, List.filterMap_cons, List.filterMap_nil, numOf_law hm, Bool.false_eq_true, if_false, List.append_nil]
      cases e : lawNum z with
      | none => rfl
      | some k =>
        by_cases h1 : k < many
        · by_cases h2 : last < (k : Int) <;> simp [Option.filter, h1, h2, upFrom, lawGo]
        · simp [Option.filter, h1]
  | w :: rs, z, last => by
    have ih := go_eq hm rs z
    dsimp only at ih
    have step : lawGo many (w :: rs ++ [z]) last = (match lawNum w with
      | none => none
      | some k => if last < (k : Int) ∧ k < many then (lawGo many (rs ++ [z]) (k : Int)).map (some k :: ·) else none) := by
      show (if w = sEnd ∧ rs ++ [z] = [] then some [none] else _) = _
      rw [if_neg (fun q => by simp at q)]
      rfl
    rw [step]
    have hn : ∀ e : Bool, (if e = true then w :: rs else w :: rs ++ [z]) = w :: (if e = true then rs else rs ++ [z]) := fun e => by cases e <;> rfl
    dsimp only
    rw [hn]
    generalize decide (z = sEnd) = b at ih ⊢
    generalize (if b = true then rs else rs ++ [z]) = named at ih ⊢
    rw [List.all_cons, List.filterMap_cons, numOf_law hm w]
    cases e : lawNum w with
    | none => rfl
    | some k =>
      dsimp only
      rw [ih (k : Int)]
      by_cases h1 : k < many
      · by_cases h2 : last < (k : Int)
        · rw [if_pos ⟨h2, h1⟩]
          simp only [Option.filter, h1, decide_true, if_true, Option.isSome_some, Bool.true_and, upFrom, h2]
          split
          · split <;> rfl
          · rfl
        · rw [if_neg (fun q => h2 q.1)]
          simp [Option.filter, h1, upFrom, h2]
      · rw [if_neg (fun q => h1 q.2)]
        simp [Option.filter, h1]
/-- the statement's targets are the program's -/
theorem targets_law {many : Nat} (hm : many ≤ 10000) {rest : List Str} (h : rest ≠ []) : targetsT many (sArrow :: rest) = lawGo many rest (-1) := by
  obtain ⟨rs, z, rfl⟩ : ∃ rs z, rest = rs ++ [z] := ⟨rest.dropLast, rest.getLast h, (List.dropLast_concat_getLast h).symm⟩
  rw [targetsT_step, go_eq hm]
  unfold tgOf
  dsimp only
  rw [rises_up]
end Vf

set_option maxRecDepth 100000
set_option maxHeartbeats 4000000
namespace Vf
open PySem PySem.Spec PyProof.Rows L2 NdefX
section
variable {CX : CXT} {P : Program} {w : World} {K : PySem.W.Frag} {mg : Str → Option Value} {base : Heap} {N ps : List Str} {F : NF} {f C c0 : Addr} {k : Nat} {sp : Sp}
theorem cell_at {H : Hp} {s : Shared} {A : Around} {outer : List Env} (e0 : Env0 P w K mg base A outer s H) (hcl : F.cl = [(("__class__" : Str), c0)]) (has : ∃ o, K.lookup c0 = some o) (cell : ∀ h : Heap, K.In h → h.IsCell c0 (some (.ref C))) :
    CellsAt F.cl ["__class__"] [some (.ref C)] s.heap H := by
  have kin := e0.mod.kin.keeps fun b o e => (e0.bs b o e).1
  obtain ⟨o, ho⟩ := has
  have away : H c0 = none := (e0.bs _ _ (e0.mod.kin _ _ ho)).2
  rw [hcl]
  refine ⟨rfl, fun y c hy => ?_, fun x y c hx hy => ?_, fun i y hi => ?_⟩
  · rw [List.lookup_cons] at hy
    split at hy
    · obtain rfl := Option.some.inj hy
      exact ⟨away, _, cell _ kin⟩
    · cases hy
  · rw [List.lookup_cons] at hx hy
    split at hx
    · rename_i ex
      split at hy
      · rename_i ey
        rw [beq_iff_eq.mp ex, beq_iff_eq.mp ey]
      · cases hy
    · cases hx
  · match i, hi with
    | 0, hi =>
      obtain rfl := Option.some.inj hi
      refine ⟨c0, by rw [List.lookup_cons_self], fun v hv => ?_⟩
      obtain rfl : V.ref C = v := by simpa using hv
      exact ⟨.ref C, rfl, cell _ kin⟩
    | _ + 1, hi => cases hi
/-- the def by its body -/
theorem ok_clo {oc : Value} {od : Option Addr} {osl : Array (Option Value)} {doc pm ctv : Value} (look : K.lookup f = some ⟨oc, od, .func (F.fd doc pm ctv), osl⟩) (code : PySem.W.codeIn K (.ref F.c) F.qual = true)
    (hcl : F.cl = [(("__class__" : Str), c0)]) (has : ∃ o, K.lookup c0 = some o) (cell : ∀ h : Heap, K.In h → h.IsCell c0 (some (.ref C))) (S : NScope N ps ["__class__"] F.scope) (hlen : ∀ vs H Q E, sp vs H Q E → vs.length = ps.length)
    (hbody : ∀ (A : Around) (outer : List Env) (s : Shared) (H : Hp) (vs : List V) (Q : VK) (E : XK), Room k (A.deeper (envF F f s.heap.objs.size)) → sp vs H Q E →
      ∃ t, PSs (ncx CX P w K mg base N F f A outer s H E) F.body t ∧ t { nx := fun _ H' => Q .non H', rt := Q } (startF N vs [some (.ref C)]) H) :
    FnOk P w K mg base CX (k + 1) f (F.fd doc pm ctv) ps sp := by
  refine ⟨hlen, fun A outer s H args us vs Q E room e0 bnd rel q => ?_⟩
  have below := fun b o (e : base.get? b = some o) => (e0.bs b o e).1
  have kin := e0.mod.kin.keeps below
  refine codeAny_call_function room.depth (kin _ _ look) rfl S.co S.gen rfl (PySem.W.codeRec_of kin code) (bnd _ _ _ _ ?_)
  refine wpAny_newFunctionEnv S.nocell (fun ⟨n, _⟩ hy => S.par n (List.of_mem_zip hy).1) (fun h₁ made grown => ⟨(e0.mod.nolimit.keeps below).fresh _ grown, ?_⟩) S.kind
  show codeAny _ _ (.func F.body (envF F f s.heap.objs.size)) _ _
  refine codeAny_func ?_
  have keep : ∀ b o, s.heap.get? b = some o → h₁.get? b = some o := fun b o e => grown.extBut b o (Nat.ne_of_lt (Heap.lt_size e)) (Heap.get?_push_of_some _ e)
  obtain ⟨t, hps, ht⟩ := hbody A outer s H vs Q E (room.deeper _) q
  have inv := inv_startN (CX := CX) (mg := mg) (f := f) (E := E) (tk := s.toks + (ps.zip us).length) S room.hd e0 (hlen _ _ _ _ q) rel (cell_at (F := F) e0 hcl has cell) made keep
  refine wpAny_mono (hps.run [] _ (startF N vs [some (.ref C)]) H _ inv ht) (fun fl s' out => ?_) fun _ _ out => out
  cases fl with
  | next =>
    obtain ⟨σ', H', J, q'⟩ := out
    exact ⟨V.non, H', J.os, J.bare, J.base, J.hok, rfl, q'⟩
  | ret u =>
    obtain ⟨v, σ', H', J, rv, q'⟩ := out
    exact ⟨v, H', J.os, J.bare, J.base, J.hok, rv, q'⟩
  | brk =>
    obtain ⟨_, _, _, no⟩ := out
    exact False.elim no
  | cont =>
    obtain ⟨_, _, _, no⟩ := out
    exact False.elim no
end
end Vf

set_option maxRecDepth 100000
set_option maxHeartbeats 4000000
namespace Vf
open PySem PySem.Spec PyProof.Rows L2 NdefX
/-- what the written part says of the error class at C, whose __init__ is F, with its cell at c0 -/
structure SupC (P : Program) (K : PySem.W.Frag) (mg : Str → Option Value) (F : NF) (C c0 : Addr) : Prop where
  ox : OexC K C
  hcl : F.cl = [(("__class__" : Str), c0)]
  cell : ∃ cl cld csl, K.lookup c0 = some ⟨cl, cld, .cell (some (.ref C)), csl⟩
  code : ∃ ccl cdd vs ccs file tf, K.lookup F.c = some ⟨ccl, cdd, .fields vs, ccs⟩ ∧ vs[2]? = some (.str file tf) ∧ ((P.main.file : Str) == file) = true
  sub : PySem.W.mroIn K C (.ref C) = some true
  up : PySem.W.ks_superIn K C C "__init__" = some (some (.builtin "ValueError.__init__"))
  isV : PySem.W.subIn K (.ref C) (.type "ValueError") = some true
  any : PySem.W.nsIn K cStatics "thirdparty.any" = some none
  top : (P.main.scope.names.lookup ("super" : Str)).isSome = false
  mg : mg "super" = none
section
variable {X : Cx} {pins : List (Addr × Obj)} {σ : L2.St} {H : Hp} {s : Shared} {a C : Addr} {A : Around} {E : Value → Shared → Prop}
theorem bw_ok {u : Addr} {us : List Value} {Q : Value → Shared → Prop} (T : OexC X.K C) (I : Inv X pins σ H s) (e : H a = some (exo a C none)) (hu : s.heap.get? u = some (PySem.W.kxs_mw "ValueError.__init__" a)) (hl : us.length ≤ sizeLine)
    (h : ∀ s', Inv X pins σ H s' → Q .none s') : wpAny (model X.prog X.w) A (call (.ref u) us) Q E s := by
  obtain ⟨nm, q, N, bs, bm, sn, sub, ab, col, dd, k0, k1, k2, k3, k5, hC, hbm⟩ := T.cls
  obtain ⟨t1, ho⟩ := exo_at I.hok e
  obtain ⟨hp, g, d, t, os⟩ := s
  refine wpAny_call (codeAny_of_tree ?_)
  show wpAny _ A.in1 (callAny (.ref u) ⟨us, []⟩) _ _ _
  simp only [callAny]
  refine wpAny_bind (wpAny_load hu ?_)
  simp only [PySem.W.kxs_mw, show (Value.type "method-wrapper" == Value.type "method" || Value.type "method-wrapper" == Value.type "builtin_function_or_method" || Value.type "method-wrapper" == Value.type "method-wrapper") = true by decide, if_true]
  refine PySem.W.KFB.if_so (by decide) ?_
  refine wpAny_bind (PySem.W.check_bound_init F.excBase_ValueError.toExcCallFacts (I.kIn _ _ hC) ho rfl ?_)
  refine wpAny_bind (wpAny_pure (wpAny_pure ?_))
  refine ⟨plainId_quiet F.excBase_ValueError.init.plain _, codeAny_builtin F.excBase_ValueError.initEntry ?_⟩
  refine PySem.W.exc_init_tree (cls := .ref C) (t0 := t1) (dv := none) (c2 := .none) (c3 := .none) (b4 := .bool false) ho hl fun h' k hx _ => ?_
  have J := I.write (t' := t) (x := a) (e := a) (o := exo a C none) (by rw [e]; exact True.intro) (.inl rfl) k ⟨_, hx⟩ (exo_ok hx)
  have eu : upd H a (exo a C none) = H := by
    funext b
    by_cases hb : b = a
    · rw [hb, upd_same, e]
    · rw [upd_ne hb]
  rw [eu] at J
  exact h _ J
theorem callWith_mw {M : Model} {pos : Pos} {u x : Addr} {i : String} {env : Env} {e : Expr} {rest : List Expr} {Q : Value → Shared → Prop}
    (h : wpAny M A (spliced (backTo pos (starEach (e :: rest) env))) (fun vs s₁ => s₁.heap.get? u = some (PySem.W.kxs_mw i x) ∧ wpAny M A (call (.ref u) vs) Q E s₁) E s)
    (he : starEach (e :: rest) env = (false, eval e env) :: starEach rest env := by rfl) (hplain : (backTo pos (starEach rest env)).any (·.1) = false := by rfl) :
    wpAny M A (callWith pos (.ref u) [] (backTo pos (starEach (e :: rest) env)) []) Q E s := by
  rw [he] at h ⊢
  refine PySem.W.kxs_callWith (i := i) (x := x) (by show (false || (backTo pos (starEach rest env)).any (·.1)) = false; rw [hplain]; rfl) ?_
  exact Calls.evalArgs_plain h
theorem pin_new {o : Obj} (I : Inv X pins σ H s) (hd : ∀ v, o.data ≠ .cell v) (hfr : o.isFreed = false) (t : Nat) : Inv X ((s.heap.objs.size, o) :: pins) σ H { s with heap := s.heap.push o, toks := t } := by
  have k : ∀ b u, s.heap.get? b = some u → (s.heap.push o).get? b = some u := fun b u e => Heap.get?_push_of_some _ e
  have J : Inv X pins σ H { s with heap := s.heap.push o, toks := t } := I.kept k
  refine J.pins_of fun p hp => ?_
  rcases List.mem_cons.mp hp with rfl | hp
  · exact ⟨Heap.get?_push_at rfl hfr, I.hok.fresh (Nat.le_refl _), Nat.ne_of_gt I.lt, I.nofs (Nat.le_refl _), hd⟩
  · exact J.pin p (List.mem_append_right _ hp)
/-- super().__init__(e) in the __init__ of the error class C -/
theorem at_super {F : NF} {body : List Stmt} {f c0 : Addr} {doc pm ctv oc : Value} {od : Option Addr} {osl : Array (Option Value)} {sx : Str} {e : Expr} {es : List Expr} {ta : TA} {p0 p1 p2 p3 p4 : Pos} {Q : Flow → Shared → Prop}
    (S : SupC X.prog X.K X.mg F C c0) (I : Inv X pins σ H s) (henv : ∃ L, X.env = envF F f L) (look : X.K.lookup f = some ⟨oc, od, .func (F.fd doc pm ctv), osl⟩)
    (hp : (F.params.posonlyargs ++ F.params.args).head?.map (·.arg) = some sx) (hN : X.N[0]? = some sx) (hv : F.scope.names.lookup sx = some .local) (hks : F.scope.names.lookup ("super" : Str) = some .globalImplicit) (hkc : F.scope.names.lookup ("__class__" : Str) = some .free)
    (hs0 : σ[0]? = some (some (.ref a))) (ea : H a = some (exo a C none)) (hcd : (sx == ("__classdict__" : Str)) = false)
    (ha : PA X (e :: es) ta) (he : starEach (e :: es) X.env = (false, eval e X.env) :: starEach es X.env) (hpl : (backTo p3 (starEach es X.env)).any (·.1) = false)
    (hev : eval (.Call (.Attribute (.Call (.Name "super" p0) [] [] p1) "__init__" p2) (e :: es) [] p3) X.env = (do
      let ov ← attributeBase (.Call (.Name "super" p0) [] [] p1) "__init__" X.env (eval (.Call (.Name "super" p0) [] [] p1) X.env)
      standAt p2.atName
      let (f, first) ← holding [ov] (getMethod ov "__init__" (pure false))
      callWith p3 f first (backTo p3 (starEach (e :: es) X.env)) []))
    (hi : interactive X.env = false) (hsw : swapsWith (.Call (.Attribute (.Call (.Name "super" p0) [] [] p1) "__init__" p2) (e :: es) [] p3) none p4.line X.env = pure false)
    {R : List V → Hp → Prop} (h : ta σ H R) (hR : ∀ vs H1, R vs H1 → vs.length ≤ 1000 ∧ H1 a = some (exo a C none) ∧ ∀ s', Inv X pins σ H1 s' → Q .next s') :
    _root_.PySem.wpAt (model X.prog X.w) X.A (.func body X.env) (exec (.Expr (.Call (.Attribute (.Call (.Name "super" p0) [] [] p1) "__init__" p2) (e :: es) [] p3) p4) X.env) Q X.xe s := by
  obtain ⟨L, henv⟩ := henv
  obtain ⟨cl, cld, csl, hcell⟩ := S.cell
  obtain ⟨ccl, cdd, vs, ccs, file, tf, hcode, hvs, hfile⟩ := S.code
  obtain ⟨nm, q, N, bs, bm, sn, sub, ab, col, dd, k0, k1, k2, k3, k5, hC, hbm⟩ := S.ox.cls
  have hcd0 : ∃ cd, PySem.W.clsIn X.K C = some cd := by
    refine ⟨{ name := nm, bases := bs, mro := .ref C :: bm, ns := N, qualname := q, hasDict := true, slotNames := sn, subclasses := sub, abstract := ab, collection := col, hasDel := false }, ?_⟩
    unfold PySem.W.clsIn
    rw [hC] <;> rfl
  obtain ⟨cd, hclsC⟩ := hcd0
  have hks' : X.env.kindOf "super" = some .globalImplicit := by rw [henv]; exact hks
  have hkc' : X.env.kindOf "__class__" = some .free := by rw [henv]; exact hkc
  obtain ⟨ar, har, hars⟩ : ∃ ar, (F.params.posonlyargs ++ F.params.args).head? = some ar ∧ ar.arg = sx := by
    cases z : (F.params.posonlyargs ++ F.params.args).head? with
    | none => rw [z] at hp; cases hp
    | some ar => rw [z] at hp; exact ⟨ar, rfl, Option.some.inj hp⟩
  obtain ⟨hh, g, d, t, os⟩ := s
  have kin := I.kIn
  obtain ⟨t1, ho⟩ := exo_at I.hok ea
  refine PySem.ks_wpAt_Expr_any (PySem.ks_wpAt_MethodCall ?_ hev) hi hsw
  refine PySem.ks_wpAt_super_base (f := f) (cc := F.c) (fd := F.fd doc pm ctv) (ar := ar) hks' hkc' (by decide) (by rw [henv] <;> rfl) (kin _ _ look) rfl har (by rw [henv] <;> rfl) (kin _ _ hcode) rfl hvs hfile S.top ?_
  obtain ⟨mb, h1, h2⟩ := I.mod.blt
  refine PySem.W.ks_loadName_global I.ok.kind hks' (Calls.loadGlobal_builtin (by rw [I.ok.glob]; exact I.mod.glob.keeps I.bk) S.mg (by rw [I.ok.blt]; exact h1.keeps I.bk) ((h2 _ (by decide)).trans (by decide +kernel)) ⟨rfl, ?_⟩)
  have hc0 : X.env.cells.lookup ("__class__" : Str) = some c0 := by
    rw [henv]
    show F.cl.lookup ("__class__" : Str) = some c0
    rw [S.hcl, List.lookup_cons_self]
  refine wpAny_loadName_free I.ok.kind hkc' hc0 ⟨_, kin _ _ hcell, rfl⟩ ?_
  obtain ⟨m, hns, hlk⟩ := I.loc
  obtain ⟨u0, r0, l0⟩ := hlk 0 sx (.ref a) hN hs0 (by rw [henv]; exact .inl hv)
  obtain rfl : u0 = Value.ref a := r0
  have hkx : X.env.kindOf sx = some .local := by rw [henv]; exact hv
  have hm : m sx = some (.ref a) := by
    rcases l0 with ⟨_, hm⟩ | ⟨hk, _⟩
    · exact hm
    · rcases hk with hk | hk <;> rw [hkx] at hk <;> cases hk
  rw [hars]
  refine PySem.wpAny_loadName_local I.ok.kind hkx hns hm ?_
  refine PySem.ks_wpAny_isType_cls (kin _ _ hC) rfl ⟨rfl, ?_⟩
  refine PySem.ks_wpAny_call_super (kin _ _ hC) rfl ho rfl (fun c z => by cases z) (PySem.W.looks_mroIn kin S.sub) (fun h' e2 k => ?_)
  have I1 : Inv X pins σ H ⟨h', g, d, t, os⟩ := I.kept k
  have kin1 := I1.kIn
  have ho1 := k _ _ ho
  have IA : PySem.W.InstAt h' a ({ cls := .ref C, dict := none, data := .fields #[.ref t1, .none, .none, .none, .bool false, .none] } : Obj) C none := ⟨ho1, rfl, rfl, trivial⟩
  have hup := S.up
  unfold PySem.W.ks_superIn at hup
  rw [hclsC] at hup
  refine PySem.W.kxs_getMethod PySem.W.kxs_ValueError e2 (PySem.W.looks_opaque kin1 S.any) (l₀ := cd.mro) (fun A Q E s k q => wpAny_bind ((PySem.W.looks_clsIn kin1 hclsC) A _ E s k (wpAny_pure q))) rfl kin1 hup (IA.type.andThen (PySem.W.looks_subIn kin1 S.isV)) (PySem.W.ks_ne kin1 IA hclsC) (by decide) ?_
  have I2 := pin_new (o := PySem.W.kxs_mw "ValueError.__init__" a) I1 (fun v z => by cases z) rfl (t + 1)
  refine callWith_mw (i := "ValueError.__init__") (x := a) (thn (ha.run p3 _ _ σ H _ I2 h) fun us s1 ⟨vs1, H1, J, rv, hr1⟩ => ?_) he hpl
  obtain ⟨hl, ea1, q1⟩ := hR _ _ hr1
  refine ⟨(J.pin (h'.objs.size, PySem.W.kxs_mw "ValueError.__init__" a) (List.mem_append_right _ (List.mem_cons_self ..))).1, ?_⟩
  have J' : Inv X pins σ H1 s1 := J.pins_of fun p hp => J.pin p (List.mem_append_right _ (List.mem_cons_of_mem _ hp))
  refine bw_ok S.ox J' ea1 ((J.pin (h'.objs.size, PySem.W.kxs_mw "ValueError.__init__" a) (List.mem_append_right _ (List.mem_cons_self ..))).1) ?_ fun s' J2 => q1 s' J2
  rw [← Paired.length rv, sizeLine_eq]
  omega
end
section
variable {CX : CXT} {P : Program} {w : World} {K : PySem.W.Frag} {mg : Str → Option Value} {base : Heap} {N ps : List Str} {F : NF} {f C c0 : Addr} {k : Nat} {sp : Sp}
/-- the def by its body: super().__init__(e) first, then the rest -/
theorem ok_sup {oc doc pm ctv : Value} {od : Option Addr} {osl : Array (Option Value)} {e : Expr} {es : List Expr} {p0 p1 p2 p3 p4 : Pos} {rest : List Stmt} {sx : Str}
    (T : SupC P K mg F C c0) (look : K.lookup f = some ⟨oc, od, .func (F.fd doc pm ctv), osl⟩) (code : PySem.W.codeIn K (.ref F.c) F.qual = true)
    (hb : F.body = .Expr (.Call (.Attribute (.Call (.Name "super" p0) [] [] p1) "__init__" p2) (e :: es) [] p3) p4 :: rest)
    (hp : (F.params.posonlyargs ++ F.params.args).head?.map (·.arg) = some sx) (hN : N[0]? = some sx) (hv : F.scope.names.lookup sx = some .local) (hks : F.scope.names.lookup ("super" : Str) = some .globalImplicit) (hkc : F.scope.names.lookup ("__class__" : Str) = some .free) (hcd : (sx == ("__classdict__" : Str)) = false)
    (he : ∀ L, starEach (e :: es) (envF F f L) = (false, eval e (envF F f L)) :: starEach es (envF F f L)) (hpl : ∀ L, (backTo p3 (starEach es (envF F f L))).any (·.1) = false)
    (hev : ∀ L, eval (.Call (.Attribute (.Call (.Name "super" p0) [] [] p1) "__init__" p2) (e :: es) [] p3) (envF F f L) = (do
      let ov ← attributeBase (.Call (.Name "super" p0) [] [] p1) "__init__" (envF F f L) (eval (.Call (.Name "super" p0) [] [] p1) (envF F f L))
      standAt p2.atName
      let (g, first) ← holding [ov] (getMethod ov "__init__" (pure false))
      callWith p3 g first (backTo p3 (starEach (e :: es) (envF F f L))) []))
    (hi : ∀ L, interactive (envF F f L) = false) (hsw : ∀ L, swapsWith (.Call (.Attribute (.Call (.Name "super" p0) [] [] p1) "__init__" p2) (e :: es) [] p3) none p4.line (envF F f L) = pure false)
    (S : NScope N ps ["__class__"] F.scope) (hlen : ∀ vs H Q E, sp vs H Q E → vs.length = ps.length)
    (hbody : ∀ (A : Around) (outer : List Env) (s : Shared) (H : Hp) (vs : List V) (Q : VK) (E : XK), Room k (A.deeper (envF F f s.heap.objs.size)) → sp vs H Q E →
      ∃ ta t, PA (ncx CX P w K mg base N F f A outer s H E) (e :: es) ta ∧ PSs (ncx CX P w K mg base N F f A outer s H E) rest t ∧ ∃ a us, vs = .ref a :: us ∧ H a = some (exo a C none) ∧
        ta (startF N vs [some (.ref C)]) H fun ws H1 => ws.length ≤ 1000 ∧ H1 a = some (exo a C none) ∧ t { nx := fun _ H' => Q .non H', rt := Q } (startF N vs [some (.ref C)]) H1) :
    FnOk P w K mg base CX (k + 1) f (F.fd doc pm ctv) ps sp := by
  refine ⟨hlen, fun A outer s H args us vs Q E room e0 bnd rel q => ?_⟩
  have below := fun b o (e : base.get? b = some o) => (e0.bs b o e).1
  have kin := e0.mod.kin.keeps below
  obtain ⟨cl, cld, csl, hcell⟩ := T.cell
  refine codeAny_call_function room.depth (kin _ _ look) rfl S.co S.gen rfl (PySem.W.codeRec_of kin code) (bnd _ _ _ _ ?_)
  refine wpAny_newFunctionEnv S.nocell (fun ⟨n, _⟩ hy => S.par n (List.of_mem_zip hy).1) (fun h₁ made grown => ⟨(e0.mod.nolimit.keeps below).fresh _ grown, ?_⟩) S.kind
  show codeAny _ _ (.func F.body (envF F f s.heap.objs.size)) _ _
  refine PySem.ks_codeAny_funcAt ?_
  have keep : ∀ b o, s.heap.get? b = some o → h₁.get? b = some o := fun b o e => grown.extBut b o (Nat.ne_of_lt (Heap.lt_size e)) (Heap.get?_push_of_some _ e)
  obtain ⟨ta, t, hpa, hps, a, us', hvs, ea, ht⟩ := hbody A outer s H vs Q E (room.deeper _) q
  have inv := inv_startN (CX := CX) (mg := mg) (f := f) (E := E) (tk := s.toks + (ps.zip us).length) S room.hd e0 (hlen _ _ _ _ q) rel (cell_at (F := F) e0 T.hcl ⟨_, hcell⟩ (fun h ki => ⟨_, ki _ _ hcell, rfl⟩)) made keep
  rw [hb]
  refine PySem.ks_wpAt_execs_cons ?_
  refine at_super (X := ncx CX P w K mg base N F f A outer s H E) (a := a) T inv ⟨_, rfl⟩ look hp hN hv hks hkc (by rw [hvs] <;> rfl) ea hcd hpa (he _) (hpl _) (hev _) (hi _) (hsw _) ht fun vs1 H1 ⟨hl, ea1, ht1⟩ => ⟨hl, ea1, fun s' J => ?_⟩
  refine wpAt_of_wpAny (wpAny_mono (hps.run [] _ _ H1 _ J ht1) (fun fl s' out => ?_) fun _ _ out => out)
  cases fl with
  | next =>
    obtain ⟨σ', H', J, q'⟩ := out
    exact ⟨V.non, H', J.os, J.bare, J.base, J.hok, rfl, q'⟩
  | ret u =>
    obtain ⟨v, σ', H', J, rv, q'⟩ := out
    exact ⟨v, H', J.os, J.bare, J.base, J.hok, rv, q'⟩
  | brk =>
    obtain ⟨_, _, _, no⟩ := out
    exact False.elim no
  | cont =>
    obtain ⟨_, _, _, no⟩ := out
    exact False.elim no
end
end Vf

set_option maxRecDepth 100000
set_option maxHeartbeats 4000000
namespace Vf
open PySem PySem.Spec PyProof.Rows L2 NdefX ClX
/-- the promise of such an error's __init__ -/
def sp_err (C : Addr) (fld : Str) : Sp := fun vs H Q _ => ∃ (a : Addr) (v : V), vs = [.ref a, v] ∧ H a = some (exo a C none) ∧ ∀ dx, H dx = none → dx ≠ a → Q .non (upd (upd H dx (exd dx [(fld, v)])) a (exo a C (some dx)))
/-- what the text says of an own error with the field fld, __init__ at fI -/
structure ErrC (K : PySem.W.Frag) (mg : Str → Option Value) (x : Str) (C fI : Addr) (fld : Str) : Prop where
  ox : OexC K C
  xf : XfC K C
  iC : PySem.W.findIn K (.ref C) "__init__" = some (some (.ref fI))
  tI : PySem.W.typeIn K (.ref fI) = some (.type "function")
  gC : mg x = some (.ref C)
  kC : PySem.W.keepIn K (.ref C) = true
  no : PySem.W.findIn K (.ref C) fld = some none
  te : PySem.W.exmOne K (.ref C) (.ref C) = some true
/-- the def as it can be called -/
structure ErrF (P : Program) (w : World) (K : PySem.W.Frag) (mg : Str → Option Value) (base : Heap) (x : Str) (C : Addr) (fld : Str) : Prop where
  ex : ∃ (fI : Addr) (fd : FuncData) (ps : List Str), ErrC K mg x C fI fld ∧ Binds K fd ps [] ∧ FnOk P w K mg base CX0 1 fI fd ps (sp_err C fld)
theorem upd_self_none {H : Hp} {a d : Addr} {fs : List (Str × V)} {o1 o2 : HO} {u : HO} (ha : H a = none) (hda : d ≠ a) : upd (del (upd (upd (upd H a o1) d u) a o2) a) d (.xd fs) = upd H d (.xd fs) := by
  funext b
  by_cases hb : b = d
  · rw [hb, upd_same, upd_same]
  · rw [upd_ne hb, upd_ne hb]
    by_cases hba : b = a
    · rw [hba, del_same, ha]
    · rw [del_ne hba, upd_ne hba, upd_ne hb, upd_ne hba]
theorem mkO_err {C : Addr} {fld : Str} {v : V} {H : Hp} {Q : XK} (h : ∀ d, H d = none → Q (.ref C) (some d) (upd H d (.xd [(fld, v)]))) :
    [v].length ≤ 1000 ∧ ∀ a, H a = none → sp_err C fld (.ref a :: ([v] ++ [])) (upd H a (exo a C none))
      (fun v H2 => v = .non ∧ ∃ (d : Addr) (fs : List (Str × V)), H2 a = some (exo a C (some d)) ∧ H2 d = some (exd d fs) ∧ H d = none ∧ Q (.ref C) (some d) (upd (del H2 a) d (.xd fs))) (fun _ _ _ => False) := by
  refine ⟨by show 1 ≤ 1000; decide, fun a ha => ⟨a, v, rfl, upd_same, fun dx hdx hne => ⟨rfl, dx, [(fld, v)], upd_same, ?_, ?_, ?_⟩⟩⟩
  · rw [upd_ne hne, upd_same]
  · rw [upd_ne hne] at hdx
    exact hdx
  · have hd : H dx = none := by
      rw [upd_ne hne] at hdx
      exact hdx
    rw [upd_self_none ha hne]
    exact h dx hd
section
variable {X : Cx} {W : WX} {C : Addr} {fld x : Str} {e : Expr} {te : TE} {p pos pos2 : Pos}
/-- raise X(e) -/
theorem ps_raiseE (hc : X.calm = true) (T : ErrF X.prog X.w X.K X.mg X.base x C fld) (hr : Room 2 X.A) (tk : Takes X W) (he : PE X e te) (hg : Gl X x)
    (hdb : (x == ("__debug__" : Str)) = false := by decide) (hst : starEach (e :: []) X.env = (false, eval e X.env) :: starEach [] X.env := by rfl) (hpl : (backTo pos (starEach [] X.env)).any (·.1) = false := by rfl) :
    PS X (.Raise (some (.Call (.Name x p) [e] [] pos)) none pos2) (fun _ σ H => tMkO C (sp_err C fld) [] (tCons te tNil) σ H fun cls d H' => W cls d σ H') := by
  obtain ⟨fI, fd, ps, T, hb, F⟩ := T.ex
  exact ps_raise hc tk (pmk_oex T.ox T.iC T.tI F hr hb .nil pass0 hg T.gC (pa_cons he pa_nil hst) hdb hst hpl)
end
section
variable {P : Program} {w : World} {K : PySem.W.Frag} {mg : Str → Option Value} {base : Heap} {N ps : List Str} {F : NF} {f C c0 : Addr}
/-- the __init__ of such an error: super().__init__(text); self.fld = y -/
theorem ok_err {oc doc pm ctv : Value} {od : Option Addr} {osl : Array (Option Value)} {m : Str} {fld sx sy : Str} {j : Nat} {p0 p1 p2 p3 p4 p5 p6 p7 p8 p9 : Pos}
    (T : SupC P K mg F C c0) (look : K.lookup f = some ⟨oc, od, .func (F.fd doc pm ctv), osl⟩) (code : PySem.W.codeIn K (.ref F.c) F.qual = true)
    (hb : F.body = [.Expr (.Call (.Attribute (.Call (.Name "super" p0) [] [] p1) "__init__" p2) [.Constant (.str m) j p3] [] p4) p5, .Assign [.Attribute (.Name sx p6) fld p7] (.Name sy p8) p9])
    (hp : (F.params.posonlyargs ++ F.params.args).head?.map (·.arg) = some sx) (hN : N = [sx, sy, "__class__"]) (hps : ps = [sx, sy]) (hv : F.scope.names.lookup sx = some .local) (hvy : F.scope.names.lookup sy = some .local)
    (hks : F.scope.names.lookup ("super" : Str) = some .globalImplicit) (hkc : F.scope.names.lookup ("__class__" : Str) = some .free) (hcd : (sx == ("__classdict__" : Str)) = false) (hcdy : (sy == ("__classdict__" : Str)) = false)
    (hdx : (sx == ("__debug__" : Str)) = false) (hdy : (sy == ("__debug__" : Str)) = false)
    (hev : ∀ L, eval (.Call (.Attribute (.Call (.Name "super" p0) [] [] p1) "__init__" p2) [.Constant (.str m) j p3] [] p4) (envF F f L) = (do
      let ov ← attributeBase (.Call (.Name "super" p0) [] [] p1) "__init__" (envF F f L) (eval (.Call (.Name "super" p0) [] [] p1) (envF F f L))
      standAt p2.atName
      let (g, first) ← holding [ov] (getMethod ov "__init__" (pure false))
      callWith p4 g first (backTo p4 (starEach [.Constant (.str m) j p3] (envF F f L))) []))
    (hi : ∀ L, interactive (envF F f L) = false) (hsw : ∀ L, swapsWith (.Call (.Attribute (.Call (.Name "super" p0) [] [] p1) "__init__" p2) [.Constant (.str m) j p3] [] p4) none p5.line (envF F f L) = pure false)
    (hsw2 : ∀ L, swapsWith (.Name sy p8) (some (.Attribute (.Name sx p6) fld p7)) p9.line (envF F f L) = pure false)
    (S : NScope N ps ["__class__"] F.scope) (no : PySem.W.findIn K (.ref C) fld = some none) :
    FnOk P w K mg base CX0 1 f (F.fd doc pm ctv) ps (sp_err C fld) := by
  subst hN hps
  refine ok_sup (k := 0) (sx := sx) T look code hb hp rfl hv hks hkc hcd (fun _ => by rfl) (fun _ => by rfl) hev hi hsw S (fun vs H Q E h => ?_) (fun A outer s H vs Q E hr h => ?_)
  · obtain ⟨a, v, rfl, _⟩ := h
    rfl
  · obtain ⟨a, v, rfl, ea, k⟩ := h
    refine ⟨_, _, pa_cons pe_str pa_nil, pss_one (ps_ost (pe_var (i := 0) rfl (.inl hv) hdx hcd) (pe_var (i := 1) rfl (.inl hvy) hdy hcdy) (hsw2 _)), a, [v], rfl, ea, ?_⟩
    refine ⟨by show 1 ≤ 1000; decide, ea, _, rfl, _, rfl, a, C, rfl, T.ox, no, .inl ⟨ea, fun dx hdx hne => k dx hdx hne⟩⟩
end
/-- C.m(e, ..), m static, that may raise -/
def tSMs (C : Addr) (sp : Sp) (E : L2.St → XK) (ta : TE) (t : TA) : TE := fun σ H Q => ta σ H fun x H1 => x = .ref C ∧ t σ H1 fun vs H2 => sp vs H2 Q (E σ)
section
variable {X : Cx} {CX : CXT} {k : Nat} {C p g : Addr} {fd : FuncData} {ps : List Str} {sp : Sp} {E : L2.St → XK} {o e : Expr} {es : List Expr} {m : Str} {pos apos : Pos} {ta : TE} {t : TA} {pl : Sem Bool} {mc : Value}
theorem pe_smethS (he : PE X o ta) (r : CRead X.K C mc) (c : SMet X.K C mc m p g)
    (F : FnOk X.prog X.w X.K X.mg X.base CX k g fd ps sp) (hr : Room k X.A) (hb : Binds X.K fd ps []) (hx : ∀ σ, PassesAt CX X σ (E σ))
    (ha : PA X (e :: es) t) (hst : starEach (e :: es) X.env = (false, eval e X.env) :: starEach es X.env := by rfl)
    (hpl : (backTo pos (starEach es X.env)).any (·.1) = false := by rfl)
    (ht : eval (.Call (.Attribute o m apos) (e :: es) [] pos) X.env = (do
      let ov ← eval o X.env
      standAt apos.atName
      let (f, first) ← holding [ov] (getMethod ov m pl)
      callWith pos f first (backTo pos (starEach (e :: es) X.env)) (backToKw pos (keywordEach [] X.env))) := by rfl) :
    PE X (.Call (.Attribute o m apos) (e :: es) [] pos) (tSMs C sp E ta t) := by
  refine ⟨fun pins s σ H Q I h => PySem.W.methodCall_KW (pl := pl) (thn (he.run pins s σ H _ I h) ?_) ht⟩
  rintro u s1 ⟨x, H1, I1, rx, rfl, q⟩
  obtain rfl : u = Value.ref C := rx
  obtain ⟨rest, hp⟩ := c.rc
  refine PySem.W.method_cls I1.kIn r.ga (PySem.W.cls_bind I1.kIn r.rd c.fd (wpAny_call
    (PySem.W.sm_get (s := { s1 with toks := s1.toks + 1 }) I1.kIn hp (PySem.W.handed_on rfl ?_))))
  have I2 : Inv X pins σ H1 { s1 with toks := s1.toks + 1 } := I1.tok _
  refine PySem.W.callWith_K (h₀ := X.base) I.ok.mod.kin c.kp (thn (ha.run pos pins _ σ H1 _ I2 q) ?_) hst hpl
  rintro us s2 ⟨vs, H2, I3, rv, q2⟩
  exact ⟨I3.kIn, run_fnS F hr hb (hx σ) I3 rv q2⟩
/-- what a def that may raise lets out of its callees -/
theorem passX {W : WX} {E : XK} (tk : Takes X W) (h : ∀ cls d σ H, E cls d H → W cls d σ H) : Passes (L2.CX X.prog X.w) X E := fun _ σ _ _ e s' I c => tk e s' (XE.of_call I (fun cls d H' h' => h cls d σ H' h') c)
end
end Vf

set_option maxRecDepth 100000
set_option maxHeartbeats 4000000
namespace Vf
open PySem PySem.Spec PyProof.Rows L2
/-- nothing is being printed -/
abbrev Calm (A : Around) : Prop := A.guards = some []
structure FnG (P : Program) (w : World) (K : PySem.W.Frag) (mg : Str → Option Value) (base : Heap) (CX : CXT) (k : Nat) (f : Addr) (fd : FuncData) (ps : List Str) (sp : Sp) : Prop where
  len : ∀ vs H Q E, sp vs H Q E → vs.length = ps.length
  run : ∀ (A : Around) (outer : List Env) (s : Shared) (H : Hp) (args : Args) (us : List Value) (vs : List V) (Q : VK) (E : XK), Calm A → Room k A →
    Env0 P w K mg base A outer s H → BindsTo s fd args (ps.zip us) → Vals vs us → sp vs H Q E → codeAny (model P w) A (.call (.ref f) args) (CR CX outer P w H s Q E) s
section
variable {P : Program} {w : World} {K : PySem.W.Frag} {mg : Str → Option Value} {base : Heap}
theorem FnG.of {CX : CXT} {k : Nat} {f : Addr} {fd : FuncData} {ps : List Str} {sp : Sp} (F : FnOk P w K mg base CX k f fd ps sp) : FnG P w K mg base CX k f fd ps sp :=
  ⟨F.len, fun A outer s H args us vs Q E _ => F.run A outer s H args us vs Q E⟩
/-- a def by its body; both ways are told of what goes on around it -/
theorem Fun.okG {x qual : Str} {st : Stmt} {f : Addr} {fd : FuncData} {N ps : List Str} {k : Nat} {sp : Sp} (F : Fun K x qual st f fd) (S : FnScope N ps (defScope st)) (hlen : ∀ vs H Q E, sp vs H Q E → vs.length = ps.length)
    (hbody : ∀ (cdv : Value) (A : Around) (outer : List Env) (s : Shared) (H : Hp) (vs : List V) (Q : VK) (E : XK), Calm (A.deeper (envOfC qual (defScope st) s.heap.objs.size f cdv)) →
      Room k (A.deeper (envOfC qual (defScope st) s.heap.objs.size f cdv)) → sp vs H Q E →
      ∃ t, PSs (cxOf CX0 P w K mg base N qual (defScope st) f cdv A outer s H E).nox (defBody st) t ∧ t { nx := fun _ H' => Q .non H', rt := Q } (start N vs) H) :
    FnG P w K mg base CX0 (k + 1) f fd ps sp := by
  obtain ⟨oc, od, kV, doc, pm, an, cdv, ct, osl, rfl, hlook, hcode⟩ := F.ex
  refine ⟨hlen, fun A outer s H args us vs Q E hcalm hroom env bnd rel q => ?_⟩
  have below := fun b o (e : base.get? b = some o) => (env.bs b o e).1
  have inK := env.mod.kin.keeps below
  have kinds : ∀ y ∈ ps.zip us, (defScope st).names.lookup y.1 = some .local ∨ ((defScope st).names.lookup y.1 = some .cell ∧ ((cellsFrom (s.heap.objs.size + 1) (defScope st).names []).lookup y.1).isSome = true) := by
    rintro ⟨n, v⟩ hy
    exact (S.par n (List.of_mem_zip hy).1).imp id fun c => ⟨c, PySem.W.cellsFrom_some _ _ _ (.inl c)⟩
  refine codeAny_call_function hroom.depth (inK _ _ hlook) rfl S.co S.gen rfl (PySem.W.codeRec_of inK hcode) (bnd _ _ _ _ (wpAny_newFunctionEnv_cells S.kind kinds fun env' he s1 made => ?_))
  subst he
  refine ⟨(env.mod.nolimit.keeps below).keeps made.toInCall.keep, codeAny_func ?_⟩
  obtain ⟨t, hps, ht⟩ := hbody cdv A outer s H vs Q E hcalm (hroom.deeper _) q
  have inv := inv_start (CX := CX0) (E := E) S hroom.hd env (hlen _ _ _ _ q) rel made
  refine wpAny_mono (hps.nox.run [] s1 (start N vs) H _ inv ht) (fun fl s' out => ?_) fun _ _ out => out
  cases fl with
  | next =>
    obtain ⟨σ', H', J, q'⟩ := out
    exact ⟨V.non, H', J.os, J.bare, J.base, J.hok, rfl, q'⟩
  | ret u =>
    obtain ⟨v, σ', H', J, rv, q'⟩ := out
    exact ⟨v, H', J.os, J.bare, J.base, J.hok, rv, q'⟩
  | brk =>
    obtain ⟨_, _, _, no⟩ := out
    exact False.elim no
  | cont =>
    obtain ⟨_, _, _, no⟩ := out
    exact False.elim no
end
def OkG (P : Program) (w : World) (K : PySem.W.Frag) (mg : Str → Option Value) (base : Heap) (CX : CXT) (x : Str) (ps : List Str) (k : Nat) (sp : Sp) : Prop :=
  ∃ (f : Addr) (fd : FuncData), mg x = some (.ref f) ∧ PySem.W.keepIn K (.ref f) = true ∧ Binds K fd ps [] ∧ FnG P w K mg base CX k f fd ps sp
section
variable {X : Cx} {CX : CXT} {k : Nat} {f : Addr} {fd : FuncData} {ps : List Str} {sp : Sp} {ds : List Value} {dvs : List V} {E : XK} {x : Str} {p pos : Pos} {e : Expr} {es : List Expr} {t : TA}
theorem run_fnG {pins : List (Addr × Obj)} {σ : L2.St} {H : Hp} {s : Shared} {Q : VK} {us : List Value} {vs : List V} (F : FnG X.prog X.w X.K X.mg X.base CX k f fd ps sp) (hgd : Calm X.A) (hr : Room k X.A) (hb : Binds X.K fd ps ds) (hd : Vals dvs ds) (hx : Passes CX X E)
    (I : Inv X pins σ H s) (r : Vals vs us) (h : sp (vs ++ dvs) H Q E) : wpAny (model X.prog X.w) X.A (call (.ref f) us) (EP X pins σ Q) X.xe s := by
  have all := r.append hd
  have many : (us ++ ds).length = ps.length := all.length.symm.trans (F.len _ _ _ _ h)
  refine wpAny_call (codeAny_mono (F.run X.A X.stack s H ⟨us, []⟩ (us ++ ds) (vs ++ dvs) Q E hgd hr I.env0 (hb s us I.kIn many) all h) fun out s' q => ?_)
  match out, q with
  | .error e, q => exact hx pins σ H s e s' I q
  | .ok (.ret u), q => exact I.after q
  | .ok .next, q => exact (q : False).elim
  | .ok .brk, q => exact (q : False).elim
  | .ok .cont, q => exact (q : False).elim
theorem pe_fnG (G : OkG X.prog X.w X.K X.mg X.base CX x ps k sp) (hgd : Calm X.A) (hr : Room k X.A) (hg : Gl X x) (hx : Passes CX X E)
    (ha : PA X (e :: es) t) (hdb : (x == ("__debug__" : Str)) = false := by decide) (hst : starEach (e :: es) X.env = (false, eval e X.env) :: starEach es X.env := by rfl) (hpl : (backTo pos (starEach es X.env)).any (·.1) = false := by rfl) :
    PE X (.Call (.Name x p) (e :: es) [] pos) (tCall sp [] E t) := by
  obtain ⟨f, fd, hm, hk, hb, F⟩ := G
  refine ⟨fun pins s σ H Q I h => wpAny_Call_Name_kw (ld_glob I hg hm ?_ hdb)⟩
  refine PySem.W.callWith_K (h₀ := X.base) I.ok.mod.kin hk (thn (ha.run pos pins s σ H _ I h) ?_) hst hpl
  rintro us s1 ⟨vs, H1, I1, rel, q⟩
  exact ⟨I1.kIn, run_fnG F hgd hr hb .nil hx I1 rel q⟩
end
end Vf

set_option maxRecDepth 100000
set_option maxHeartbeats 4000000
namespace Vf
open PySem PySem.Spec PyProof.Rows L2
def rRepr (K : PySem.W.Frag) : List V → Hp → VK → Prop := fun xs H Q => ∃ (a : Addr) (d : PyData), xs = [.ref a] ∧ Dp K H (.ref a) d ∧ d.showable = true ∧ d.hasDict = false ∧ d.depth ≤ 64 ∧ d.shown.length ≤ sizeLine ∧ Q (.str d.shown) H
theorem cr_repr {X : Cx} (hgd : Calm X.A) {k : Nat} (hr : Room k X.A) : CallR X (.builtin "repr") (rRepr X.K) := by
  intro pins s σ H vs us Q I r h
  obtain ⟨a, d, rfl, hd, sh, nod, dep, hz, q⟩ := h
  obtain ⟨u, rfl, r1⟩ := vals1 r
  obtain ⟨as, rd⟩ := Dp.reads I d (.ref a) u hd r1
  obtain rfl : u = Value.ref a := r1
  have room := hr.un
  refine repr_of_reads' rd sh (fun z => by rw [nod] at z; cases z) hgd (by omega) (fun _ _ e => e) (fun h' u tk keep => ?_) hz
  exact ⟨.str d.shown, H, I.kept (t' := tk) keep, ⟨u, rfl⟩, q⟩
mutual
/-- data that can be shown: small numbers, texts, lists and tuples -/
def shD : PyData → Bool
  | .none => true
  | .bool _ => true
  | .int i => decide (0 ≤ i) && decide (i < 1000000)
  | .str x => PyData.strOk x
  | .list xs => shAll xs
  | .tuple xs => shAll xs
  | .dict _ => false
def shAll : List PyData → Bool
  | [] => true
  | x :: xs => shD x && shAll xs
end
theorem int_short {i : Int} (h : 0 ≤ i) (h2 : i < 1000000) : (PyData.int i).shown.length ≤ 13 ∧ i.natAbs.log2 < 1920 := by
  obtain ⟨k, rfl⟩ := Int.eq_ofNat_of_zero_le h
  have hk : k < 1000000 := by omega
  constructor
  · show (natS k).length ≤ 13
    rw [TL.len_tl, tl_natS]
    exact Nat.le_trans (TL.numL_len (k := 6) (by decide) (by simpa using hk)) (by decide)
  · show k.log2 < 1920
    by_cases h0 : k = 0
    · subst h0
      decide
    · exact Nat.lt_of_lt_of_le ((Nat.log2_lt h0).mpr (show k < 2 ^ 20 by omega)) (by decide)
mutual
theorem sh_show : ∀ d : PyData, shD d = true → d.showable = true ∧ d.hasDict = false ∧ d.leavesShort 13 = true
  | .none, _ => ⟨rfl, rfl, rfl⟩
  | .bool _, _ => ⟨rfl, rfl, rfl⟩
  | .int i, h => by
    simp only [shD, Bool.and_eq_true, decide_eq_true_eq] at h
    obtain ⟨h1, h2⟩ := int_short h.1 h.2
    exact ⟨by simpa [PyData.showable] using h2, rfl, by simpa [PyData.leavesShort] using h1⟩
  | .str x, h => by
    refine ⟨rfl, rfl, ?_⟩
    simp only [shD, PyData.strOk] at h
    rw [← Array.all_toList, List.all_eq_true] at h
    simp only [PyData.leavesShort, List.all_eq_true, decide_eq_true_eq]
    intro c hc
    have := h c hc
    simp only [decide_eq_true_eq] at this
    have e : (16 : Nat) ^ 8 = 4294967296 := by decide
    omega
  | .list xs, h => by
    have := sh_showAll xs (by simpa [shD] using h)
    simpa [PyData.showable, PyData.hasDict, PyData.leavesShort] using this
  | .tuple xs, h => by
    have := sh_showAll xs (by simpa [shD] using h)
    simpa [PyData.showable, PyData.hasDict, PyData.leavesShort] using this
  | .dict _, h => by simp [shD] at h
theorem sh_showAll : ∀ xs : List PyData, shAll xs = true → PyData.showableAll xs = true ∧ PyData.hasDictAll xs = false ∧ PyData.leavesShortAll 13 xs = true
  | [], _ => ⟨rfl, rfl, rfl⟩
  | x :: xs, h => by
    simp only [shAll, Bool.and_eq_true] at h
    obtain ⟨a1, a2, a3⟩ := sh_show x h.1
    obtain ⟨b1, b2, b3⟩ := sh_showAll xs h.2
    simp [PyData.showableAll, PyData.hasDictAll, PyData.leavesShortAll, a1, a2, a3, b1, b2, b3]
end
theorem shown_fits {d : PyData} (h : shD d = true) (hw : d.weight ≤ 1000000) : d.shown.length ≤ sizeLine := by
  have := PyData.shown_le 13 (by decide) d (sh_show d h).2.2
  rw [sizeLine_eq]
  omega
end Vf

set_option maxRecDepth 100000
set_option maxHeartbeats 4000000
namespace Vf
open PySem PySem.Spec PyProof.Rows L2 PyProof.V 
def keyD : Key → PyData
  | .inl i => .int i
  | .inr x => .str x
def atomD : V → Option PyData
  | .non => some .none
  | .bl b => some (.bool b)
  | .int i => some (.int i)
  | .str x => some (.str x)
  | _ => none
theorem atom_reads {h : Heap} {v : V} {u : Value} {d : PyData} (e : atomD v = some d) (r : RelV v u) : Reads h u d [] := by
  cases v with
  | non =>
    obtain rfl := Option.some.inj e
    obtain rfl : u = Value.none := r
    exact .none
  | bl b =>
    obtain rfl := Option.some.inj e
    obtain rfl : u = Value.bool b := r
    exact .bool b
  | int i =>
    obtain rfl := Option.some.inj e
    obtain ⟨t, rfl⟩ : ∃ t, u = Value.int i t := r
    exact .int i t
  | str x =>
    obtain rfl := Option.some.inj e
    obtain ⟨t, rfl⟩ : ∃ t, u = Value.str x t := r
    exact .str x t
  | _ => cases e
theorem key_reads {h : Heap} {k : Key} {u : Value} (e : keyIs k u = true) : Reads h u (keyD k) [] := by
  rcases keyIs_shape e with ⟨i, t, rfl, rfl⟩ | ⟨x, t, rfl, rfl⟩
  · exact .int i t
  · exact .str x t
/-- what a dict of atoms reads as -/
inductive FlatD : List (Key × V) → List (PyData × PyData) → Prop
  | nil : FlatD [] []
  | cons {k : Key} {v : V} {d : PyData} {kvs : List (Key × V)} {ds : List (PyData × PyData)} : atomD v = some d → FlatD kvs ds → FlatD ((k, v) :: kvs) ((keyD k, d) :: ds)
theorem pairs_of {h : Heap} : ∀ {kvs : List (Key × V)} {ds : List (PyData × PyData)} {vs : List (Key × Value)}, FlatD kvs ds → KV kvs vs → PairsRead h keyD vs ds []
  | _, _, _, .nil, h => by
    cases h
    exact .nil
  | _, _, _, .cons e f, h => by
    cases h with
    | @cons _ q _ _ h1 h2 =>
      obtain ⟨k', u⟩ := q
      obtain ⟨rfl, r⟩ := h1
      exact .cons (atom_reads e r) (pairs_of f h2)
def rReprFlat : List V → Hp → VK → Prop := fun xs H Q => ∃ (a : Addr) (kvs : List (Key × V)) (ds : List (PyData × PyData)), xs = [.ref a] ∧ H a = some (.dK kvs) ∧ FlatD kvs ds ∧ (PyData.dict ds).showable = true ∧ (PyData.dict ds).depth ≤ 64 ∧ (PyData.dict ds).shown.length ≤ sizeLine ∧ Q (.str (PyData.dict ds).shown) H
theorem cr_reprFlat {X : Cx} (hgd : Calm X.A) {k : Nat} (hr : Room k X.A) : CallR X (.builtin "repr") rReprFlat := by
  intro pins s σ H vs us Q I r h
  obtain ⟨a, kvs, ds, rfl, ha, fl, sh, dep, hz, q⟩ := h
  obtain ⟨u, rfl, r1⟩ := vals1 r
  obtain rfl : u = Value.ref a := r1
  have room := hr.un
  have ok : ObjOk X.prog X.w H s.heap a (.dK kvs) := I.hok a _ ha
  obtain ⟨_, away, ws, kv, dict⟩ := ok
  have rd := reads_dictOf (enc := keyD) (fun k key e => key_reads e) dict (pairs_of fl kv)
  refine repr_of_reads' rd sh (fun _ z => ?_) hgd (by omega) (fun _ _ e => e) (fun h' u tk keep => ?_) hz
  · rw [List.mem_singleton] at z
    rw [← z] at away
    simp at away
  · exact ⟨.str (PyData.dict ds).shown, H, I.kept (t' := tk) keep, ⟨u, rfl⟩, q⟩
end Vf

set_option maxRecDepth 100000
set_option maxHeartbeats 4000000
namespace Vf
open PySem PySem.Spec PyProof.Rows L2
section
variable {P : Program} {w : World} {K : PySem.W.Frag} {mg mb : Str → Option Value} {a : Addr} {s₁ : Shared} {vs : List Value}
/-- what the caller sees: all but the script, which H tracks or K has -/
theorem head_env {H : Hp} (inK : K.In s₁.heap) (nm : s₁.heap.Ns mainGlobals mg) (nb : s₁.heap.Ns builtinsNs mb) (bb : ∀ x : Str, x ≠ "__name__" → mb x = bootBuiltins x) (lim : s₁.heap.NoLimit) (gens : s₁.gens = #[])
    (at_a : s₁.heap.get? a = some { cls := .type "list", data := .seq vs.toArray }) (ok : HOk P w H s₁.heap) (only : ∀ b u, H b = some u → b = a) (apart : ∀ u, H a = some u → K.lookup a = none) :
    Env0 P w K mg (hidT s₁.heap H) callerA [] s₁ H := by
  -- what is no list stands untracked
  have plain : ∀ {b : Addr} {o : Obj} {es : Array DictEntry} {ep : Nat}, s₁.heap.get? b = some o → o.data = .dict es ep → H b = none := by
    intro b o es ep at_b isd
    match tr : H b with
    | none => rfl
    | some u =>
      rw [only b u tr, at_a] at at_b
      cases at_b
      exact absurd isd (fun z => by cases z)
  have see : ∀ {b : Addr} {m : Str → Option Value}, s₁.heap.Ns b m → (hidT s₁.heap H).Ns b m := by
    rintro b m ⟨o, es, ep, at_b, isd, more⟩
    exact ⟨o, es, ep, hidT_get at_b (plain at_b isd), isd, more⟩
  have kin : K.In (hidT s₁.heap H) := by
    intro b o look
    refine hidT_get (inK b o look) ?_
    match tr : H b with
    | none => rfl
    | some u =>
      have eb := only b u tr
      subst eb
      rw [apart u tr] at look
      cases look
  obtain ⟨mc, l1, l2⟩ := lim
  exact ⟨rfl, ⟨kin, see nm, ⟨mb, see nb, bb⟩, ⟨mc, see l1, l2⟩⟩, fun _ _ at_b => of_hidT at_b, Nat.le_of_eq (hidT_size _ _), trivial, (fun b no => absurd (show b ∈ ([] : List Addr) from no) (by simp)), ok, AllBare.of_eq gens⟩
/-- a call by the caller that tells True -/
theorem head_run {CX : CXT} {k : Nat} {fa : Addr} {fd : FuncData} {x : Str} {sp : Sp} {H : Hp} (F : FnG P w K mg (hidT s₁.heap H) CX k fa fd [x] sp) (room : Room k callerA) (bind : ∀ (s : Shared) (u : Value), BindsTo s fd ⟨[u], []⟩ [(x, u)])
    (env : Env0 P w K mg (hidT s₁.heap H) callerA [] s₁ H) (only : Only H) (q : sp [.ref a] H (fun v _ => v = .bl true) fun _ _ _ => False) (noX : ∀ e s', CX [] H s₁ (fun _ _ _ => False) e s' → False) :
    codeAny (model P w) callerA (.call (.ref fa) ⟨[.ref a], []⟩) (fun r s' => r = .ok (.ret (.bool true)) ∧ OldK s₁.heap s'.heap ∧ s'.os = s₁.os ∧ AllBare s'.gens) s₁ := by
  have one : Vals [V.ref a] [Value.ref a] := .cons rfl .nil
  refine codeAny_mono (F.run callerA [] s₁ H ⟨[.ref a], []⟩ [.ref a] [.ref a] _ _ rfl room env (bind s₁ (.ref a)) one q) fun out s' told => ?_
  match out, told with
  | .error e, told => exact (noX e s' told).elim
  | .ok .next, told => exact (told : False).elim
  | .ok .brk, told => exact (told : False).elim
  | .ok .cont, told => exact (told : False).elim
  | .ok (.ret u), told =>
    obtain ⟨v, H', eos, bare, un, ok', rel, ev⟩ := told
    obtain rfl : v = .bl true := ev
    obtain rfl : u = Value.bool true := rel
    refine ⟨rfl, OldK.of_keep fun b o at_b => ?_, eos, bare⟩
    match tr : H b with
    | none => exact un.keep b o at_b tr (fun z => nomatch z) (by simp)
    | some u =>
      obtain ⟨ob, xs, fz⟩ := (only b).resolve_left fun z => by
        rw [tr] at z
        cases z
      obtain ⟨before, _⟩ := env.hok b _ fz
      obtain ⟨behind, _⟩ := ok' b _ (un.frzs b ob _ fz)
      rw [before] at at_b
      cases at_b
      exact behind
/-- the script as the hand layer has it -/
theorem head_call {CX : CXT} {k : Nat} {fa : Addr} {fd : FuncData} {x : Str} {sp : Sp} {ns : List Int} (inK : K.In s₁.heap) (nm : s₁.heap.Ns mainGlobals mg) (nb : s₁.heap.Ns builtinsNs mb) (bb : ∀ x : Str, x ≠ "__name__" → mb x = bootBuiltins x) (lim : s₁.heap.NoLimit)
    (gens : s₁.gens = #[]) (at_a : s₁.heap.get? a = some { cls := .type "list", data := .seq vs.toArray }) (isI : IntsAre vs ns) (hl : ns.length ≤ sizeLine) (room : Room k callerA)
    (F : ∀ base : Heap, K.In base → base.Ns mainGlobals mg → FnG P w K mg base CX k fa fd [x] sp) (bind : ∀ (s : Shared) (u : Value), BindsTo s fd ⟨[u], []⟩ [(x, u)])
    (hsp : ∀ H : Hp, Only H → SqL K H a (ns.map V.int) → sp [.ref a] H (fun v _ => v = .bl true) fun _ _ _ => False) (noX : ∀ H e s', CX [] H s₁ (fun _ _ _ => False) e s' → False) :
    codeAny (model P w) callerA (.call (.ref fa) ⟨[.ref a], []⟩) (fun r s' => r = .ok (.ret (.bool true)) ∧ OldK s₁.heap s'.heap ∧ s'.os = s₁.os ∧ AllBare s'.gens) s₁ := by
  have rel := vals_ints isI
  have short : (ns.map V.int).length ≤ sizeLine := by rwa [List.length_map]
  cases look : K.lookup a with
  | some o =>
    have z := inK a o look
    rw [at_a] at z
    cases z
    have env := head_env (P := P) (w := w) (H := fun _ => none) inK nm nb bb lim gens at_a (fun b u z => by cases z) (fun b u z => by cases z) (fun u z => by cases z)
    refine head_run (F _ env.mod.kin env.mod.glob) room bind env (fun _ => .inl rfl) (hsp _ (fun _ => .inl rfl) (.inr ⟨_, vs.toArray, _, look, rfl, rfl, rfl, ?_, by simpa using rel⟩)) (noX _)
    rw [List.size_toArray, isI.length]
    exact hl
  | none =>
    let H : Hp := fun b => if b = a then some (.frz { cls := .type "list", data := .seq vs.toArray } (.lst (ns.map V.int))) else none
    have here : H a = some (.frz { cls := .type "list", data := .seq vs.toArray } (.lst (ns.map V.int))) := if_pos rfl
    have away : ∀ b, b ≠ a → H b = none := fun b hb => if_neg hb
    have only : ∀ b u, H b = some u → b = a := fun b u z => Classical.byContradiction fun hb => by
      rw [away b hb] at z
      cases z
    have onlyF : Only H := fun b => by
      by_cases hb : b = a
      · exact .inr ⟨_, _, hb ▸ here⟩
      · exact .inl (away b hb)
    have ok : HOk P w H s₁.heap := fun b u z => by
      have eb := only b u z
      subst eb
      rw [here] at z
      cases z
      exact ⟨at_a, short, vs, _, rel, at_a⟩
    have env := head_env inK nm nb bb lim gens at_a ok only fun _ _ => look
    exact head_run (F _ env.mod.kin env.mod.glob) room bind env onlyF (hsp _ onlyF (.inl (.inr ⟨_, here⟩))) (noX _)
end
theorem walk_ofG {l : PySem.W.OpenLaw} {n k : Nat} {q : Program} {loose : List Str} {XP : (Str → Option Value) → Heap → Prop} {YP : World → Heap → Prop} {d : DefRec} {K : Params → PySem.W.Frag} {CX : World → CXT} {sp : World → Sp} {x : Str}
    (hn : l.most = some n) (fits : n ≤ sizeLine) (hdf : d.params.defaults = []) (room : Room k callerA) (inK : ∀ (w : World) (h : Heap), YP w h → (K w.params).In h)
    (F : ∀ (w : World) (mg : Str → Option Value) (fa : Addr) (h : Heap), (K w.params).In h → h.Ns mainGlobals mg → mg d.name = some (.ref fa) →
      ∃ fd : FuncData, (∀ (s : Shared) (u : Value), BindsTo s fd ⟨[u], []⟩ [(x, u)]) ∧ ∀ base : Heap, (K w.params).In base → base.Ns mainGlobals mg → FnG l.prog w (K w.params) mg base (CX w) k fa fd [x] (sp w))
    (hsp : ∀ (w : World) (H : Hp) (a : Addr) (ns : List Int), ns.length ≤ n → Only H → SqL (K w.params) H a (ns.map V.int) → sp w [.ref a] H (fun v _ => v = .bl true) fun _ _ _ => False)
    (noX : ∀ (w : World) (H : Hp) (s : Shared) (e : Value) (s' : Shared), CX w [] H s (fun _ _ _ => False) e s' → False) :
    PySem.W.WalkO q loose XP YP l.row.toRowW d [] (fun f vs => PySem.call f vs) := by
  refine Att.attach_call hn hdf fun w s₀ s₁ mg mb fa o pm cd doc a vs ns G Y _ _ _ hmg at_a isI few gens => ?_
  obtain ⟨fd, bind, hF⟩ := F w mg fa _ (inK w _ Y) G.T.g hmg
  exact head_call (inK w _ Y) G.T.g G.T.b G.T.builtins G.T.nolimit gens at_a isI (Nat.le_trans few fits) room hF bind (fun H only hS => hsp w H a ns few only hS) fun H e s' => noX w H s₁ e s'
end Vf

set_option maxRecDepth 100000
set_option maxHeartbeats 4000000
namespace Vf
open PySem PySem.Spec PyProof.Rows L2
def top (i : Nat) : Stmt := PySem.Challenge.pw_sharedlines_k11_texts_of_programs_judged.main.body.getD i (.Pass ⟨0, 0, 0, 0⟩)
abbrev s_is_name : Stmt := top 2
abbrev s_InvalidText_init : Stmt := inClass (top 5) 0
abbrev s_Program_init : Stmt := inClass (top 11) 0
abbrev s_Program_parse : Stmt := inClass (top 11) 1
abbrev s_Program_str : Stmt := inClass (top 11) 2
abbrev s_Program_eq : Stmt := inClass (top 11) 3
abbrev s_nodes_of : Stmt := top 12
abbrev s_node_of : Stmt := top 13
abbrev s_targets_of : Stmt := top 14
abbrev s_law_feed : Stmt := top 16
abbrev s_law_take : Stmt := top 17
abbrev s_law_pick : Stmt := top 18
abbrev s_law_nodes : Stmt := top 19
abbrev s_law_text : Stmt := top 20
abbrev s_law_names : Stmt := top 21
abbrev s_law_number : Stmt := top 22
abbrev s_law_node : Stmt := top 23
abbrev s_law_due : Stmt := top 24
abbrev s_law_told : Stmt := top 25
abbrev s_law_spoilt : Stmt := top 26
abbrev s_law : Stmt := top 27
-- is_name: 0:value 1:letter
abbrev n_is_name : List Str := ["value", "letter"]
abbrev p_is_name : List Str := ["value"]
theorem sc_is_name : FnScope n_is_name p_is_name (defScope s_is_name) := ⟨rfl, rfl, rfl, by decide +kernel, rfl, by decide +kernel, by decide +kernel⟩
-- InvalidText.__init__: 0:self 1:row
abbrev n_InvalidText_init : List Str := ["self", "row"]
abbrev p_InvalidText_init : List Str := ["self", "row"]
-- Program.__init__: 0:self 1:text
abbrev n_Program_init : List Str := ["self", "text"]
abbrev p_Program_init : List Str := ["self", "text"]
theorem sc_Program_init : FnScope n_Program_init p_Program_init (defScope s_Program_init) := ⟨rfl, rfl, rfl, by decide +kernel, rfl, by decide +kernel, by decide +kernel⟩
-- Program.parse: 0:text
abbrev n_Program_parse : List Str := ["text"]
abbrev p_Program_parse : List Str := ["text"]
theorem sc_Program_parse : FnScope n_Program_parse p_Program_parse (defScope s_Program_parse) := ⟨rfl, rfl, rfl, by decide +kernel, rfl, by decide +kernel, by decide +kernel⟩
-- Program.__str__: 0:self
abbrev n_Program_str : List Str := ["self"]
abbrev p_Program_str : List Str := ["self"]
theorem sc_Program_str : FnScope n_Program_str p_Program_str (defScope s_Program_str) := ⟨rfl, rfl, rfl, by decide +kernel, rfl, by decide +kernel, by decide +kernel⟩
-- Program.__eq__: 0:self 1:other
abbrev n_Program_eq : List Str := ["self", "other"]
abbrev p_Program_eq : List Str := ["self", "other"]
theorem sc_Program_eq : FnScope n_Program_eq p_Program_eq (defScope s_Program_eq) := ⟨rfl, rfl, rfl, by decide +kernel, rfl, by decide +kernel, by decide +kernel⟩
-- _nodes_of: 0:text 1:rows 2:numbers 3:nodes 4:index 5:row 6:node 7:number
abbrev n_nodes_of : List Str := ["text", "rows", "numbers", "nodes", "index", "row", "node", "number"]
abbrev p_nodes_of : List Str := ["text"]
theorem sc_nodes_of : FnScope n_nodes_of p_nodes_of (defScope s_nodes_of) := ⟨rfl, rfl, rfl, by decide +kernel, rfl, by decide +kernel, by decide +kernel⟩
-- _node_of: 0:row 1:numbers 2:words 3:targets
abbrev n_node_of : List Str := ["row", "numbers", "words", "targets"]
abbrev p_node_of : List Str := ["row", "numbers"]
theorem sc_node_of : FnScope n_node_of p_node_of (defScope s_node_of) := ⟨rfl, rfl, rfl, by decide +kernel, rfl, by decide +kernel, by decide +kernel⟩
-- _targets_of: 0:words 1:numbers 2:may_end 3:named 4:targets 5:word
abbrev n_targets_of : List Str := ["words", "numbers", "may_end", "named", "targets", "word"]
abbrev p_targets_of : List Str := ["words", "numbers"]
theorem sc_targets_of : FnScope n_targets_of p_targets_of (defScope s_targets_of) := ⟨rfl, rfl, rfl, by decide +kernel, rfl, by decide +kernel, by decide +kernel⟩
-- _law_feed: 0:script 1:k 2:seed 3:digits
abbrev n_law_feed : List Str := ["script", "k", "seed", "digits"]
abbrev p_law_feed : List Str := ["script", "k"]
theorem sc_law_feed : FnScope n_law_feed p_law_feed (defScope s_law_feed) := ⟨rfl, rfl, rfl, by decide +kernel, rfl, by decide +kernel, by decide +kernel⟩
-- _law_take: 0:feed 1:size 2:digit
abbrev n_law_take : List Str := ["feed", "size", "digit"]
abbrev p_law_take : List Str := ["feed", "size"]
theorem sc_law_take : FnScope n_law_take p_law_take (defScope s_law_take) := ⟨rfl, rfl, rfl, by decide +kernel, rfl, by decide +kernel, by decide +kernel⟩
-- _law_pick: 0:feed 1:choices
abbrev n_law_pick : List Str := ["feed", "choices"]
abbrev p_law_pick : List Str := ["feed", "choices"]
theorem sc_law_pick : FnScope n_law_pick p_law_pick (defScope s_law_pick) := ⟨rfl, rfl, rfl, by decide +kernel, rfl, by decide +kernel, by decide +kernel⟩
-- _law_nodes: 0:feed 1:cells 2:most 3:many 4:found 5:at 6:targets 7:word 8:one
abbrev n_law_nodes : List Str := ["feed", "cells", "most", "many", "found", "at", "targets", "word", "one"]
abbrev p_law_nodes : List Str := ["feed", "cells", "most"]
theorem sc_law_nodes : FnScope n_law_nodes p_law_nodes (defScope s_law_nodes) := ⟨rfl, rfl, rfl, by decide +kernel, rfl, by decide +kernel, by decide +kernel⟩
-- _law_text: 0:nodes 1:rows 2:word 3:cell 4:targets 5:row 6:one
abbrev n_law_text : List Str := ["nodes", "rows", "word", "cell", "targets", "row", "one"]
abbrev p_law_text : List Str := ["nodes"]
theorem sc_law_text : FnScope n_law_text p_law_text (defScope s_law_text) := ⟨rfl, rfl, rfl, by decide +kernel, rfl, by decide +kernel, by decide +kernel⟩
-- _law_names: 0:feed 1:letters 2:found 3:turn 4:word 5:more
abbrev n_law_names : List Str := ["feed", "letters", "found", "turn", "word", "more"]
abbrev p_law_names : List Str := ["feed"]
theorem sc_law_names : FnScope n_law_names p_law_names (defScope s_law_names) := ⟨rfl, rfl, rfl, by decide +kernel, rfl, by decide +kernel, by decide +kernel⟩
-- _law_number: 0:word 1:sign
abbrev n_law_number : List Str := ["word", "sign"]
abbrev p_law_number : List Str := ["word"]
theorem sc_law_number : FnScope n_law_number p_law_number (defScope s_law_number) := ⟨rfl, rfl, rfl, by decide +kernel, rfl, by decide +kernel, by decide +kernel⟩
-- _law_node: 0:row 1:many 2:words 3:targets 4:last 5:place 6:word 7:number 8:sign
abbrev n_law_node : List Str := ["row", "many", "words", "targets", "last", "place", "word", "number", "sign"]
abbrev p_law_node : List Str := ["row", "many"]
theorem sc_law_node : FnScope n_law_node p_law_node (defScope s_law_node) := ⟨rfl, rfl, rfl, by decide +kernel, rfl, by decide +kernel, by decide +kernel⟩
-- _law_due: 0:value 1:rows 2:found 3:place 4:row 5:node
abbrev n_law_due : List Str := ["value", "rows", "found", "place", "row", "node"]
abbrev p_law_due : List Str := ["value"]
theorem sc_law_due : FnScope n_law_due p_law_due (defScope s_law_due) := ⟨rfl, rfl, rfl, by decide +kernel, rfl, by decide +kernel, by decide +kernel⟩
-- _law_told: 0:value 1:found 2:error
abbrev n_law_told : List Str := ["value", "found", "error"]
abbrev p_law_told : List Str := ["value"]
theorem sc_law_told : FnScope n_law_told p_law_told (defScope s_law_told) := ⟨rfl, rfl, rfl, by decide +kernel, rfl, by decide +kernel, by decide +kernel⟩
-- _law_spoilt: 0:feed 1:text 2:rows 3:at 4:signs 5:sign 6:case 7:k 8:more 9:words 10:j 11:odd
abbrev n_law_spoilt : List Str := ["feed", "text", "rows", "at", "signs", "sign", "case", "k", "more", "words", "j", "odd"]
abbrev p_law_spoilt : List Str := ["feed", "text"]
theorem sc_law_spoilt : FnScope n_law_spoilt p_law_spoilt (defScope s_law_spoilt) := ⟨rfl, rfl, rfl, by decide +kernel, rfl, by decide +kernel, by decide +kernel⟩
-- law: 0:script 1:deep 2:turn 3:value 4:shown 5:index 6:feed 7:text 8:more
abbrev n_law : List Str := ["script", "deep", "turn", "value", "shown", "index", "feed", "text", "more"]
abbrev p_law : List Str := ["script"]
theorem sc_law : FnScope n_law p_law (defScope s_law) := ⟨rfl, rfl, rfl, by decide +kernel, rfl, by decide +kernel, by decide +kernel⟩

def OkF (P : Program) (w : World) (K : PySem.W.Frag) (mg : Str → Option Value) (base : Heap) (CX : CXT) (x : Str) (ps : List Str) (k : Nat) (sp : Sp) : Prop :=
  ∃ (f : Addr) (fd : FuncData), mg x = some (.ref f) ∧ PySem.W.keepIn K (.ref f) = true ∧ Binds K fd ps [] ∧ FnOk P w K mg base CX k f fd ps sp
theorem pe_fn {X : Cx} {CX : CXT} {x : Str} {ps : List Str} {k : Nat} {sp : Sp} {E : XK} {e : Expr} {es : List Expr} {t : TA} {p pos : Pos} (G : OkF X.prog X.w X.K X.mg X.base CX x ps k sp) (hr : Room k X.A) (hg : Gl X x) (hx : Passes CX X E)
    (ha : PA X (e :: es) t) (hdb : (x == ("__debug__" : Str)) = false := by decide) (he : starEach (e :: es) X.env = (false, eval e X.env) :: starEach es X.env := by rfl) (hpl : (backTo pos (starEach es X.env)).any (·.1) = false := by rfl) :
    PE X (.Call (.Name x p) (e :: es) [] pos) (tCall sp [] E t) := by
  obtain ⟨f, fd, hm, hk, hb, F⟩ := G
  exact pe_call F hr hg hm hk hb .nil hx ha hdb he hpl
/-- what the top leaves: names that are still the built-ins, constants -/
structure Txt0 (K : PySem.W.Frag) (mg : Str → Option Value) : Prop where
  len : mg "len" = none
  isinstance : mg "isinstance" = none
  all : mg "all" = none
  str : mg "str" = none
  longest : ∃ t, mg "LONGEST_NAME" = some (.int 8 t)
  most : ∃ t, mg "MOST_NODES" = some (.int 8 t)
  arrow : ∃ t, mg "ARROW" = some (.str sArrow t)
  end_ : ∃ t, mg "END" = some (.str sEnd t)
  words : ∃ a, mg "WORDS" = some (.ref a) ∧ ∀ H, SqT K H a [.str sRead, .str sWrite]
  range : mg "range" = none
  enumerate : mg "enumerate" = none
  set : mg "set" = none
  sorted : mg "sorted" = none
  tuple : mg "tuple" = none
end Vf

set_option maxRecDepth 100000
set_option maxHeartbeats 4000000
namespace Vf
open PySem PySem.Spec PyProof.Rows L2
section
variable {P : Program} {w : World} {K : PySem.W.Frag} {mg : Str → Option Value} {base : Heap}
theorem lt_one (a b : Nat) : (decide ([a] < [b]) : Bool) = decide (a < b) := by
  refine decide_eq_decide.mpr ⟨fun q => ?_, fun h => List.Lex.rel h⟩
  cases q with
  | rel q => exact q
  | cons q => cases q
theorem cps_size (z : Str) : z.cps.toList.length = z.length := by simp [Str.length]
/-- is_name(text) -/
def sp_is_name : Sp := fun vs H Q _ => ∃ z : Str, vs = [.str z] ∧ z.length ≤ 1000000 ∧ ∀ H', Same H H' → Q (.bl (isNameT z)) H'
theorem ok_is_name {f : Addr} {fd : FuncData} (F : Fun K "is_name" "is_name" s_is_name f fd) (T : Txt0 K mg) : FnOk P w K mg base CX0 1 f fd p_is_name sp_is_name := by
  refine F.ok sc_is_name (fun vs H Q E h => ?_) (fun cdv A outer s H vs Q E hr h => ?_)
  · obtain ⟨z, rfl, _⟩ := h
    rfl
  · obtain ⟨z, rfl, hz, k⟩ := h
    obtain ⟨t8, e8⟩ := T.longest
    refine ⟨_, pss_cons (ps_if (PW.pt (pw_or (pt_not (pt_val (pe_callB call_isi (by rfl) T.isinstance boot_isinstance (pa_cons (pv 0) (pa_cons (pe_bltn (by rfl) T.str boot_str (v := .ty "str") rfl) pa_nil)))))
        (pw_or1 (pt_not (pt_chain op_le op_le pe_int (pe_callB call_len_str (by rfl) T.len PySem.boot_len (pa_cons (pv 0) pa_nil)) (pe_glob (v := .int 8) rfl e8 ⟨_, rfl⟩))))))
        (pss_one (ps_ret pe_bl)) pss_nil)
      (pss_one (ps_ret (pe_callB (cr_all rfl) (by rfl) T.all (by decide +kernel)
        (pa_cons (pe_lc (own := [("letter", 1)]) (g := gName 1) (tt := tYes) rfl sc_is_name.nd (pi_str (pv 0)) (blkOk_by (N := n_is_name) (sc := defScope s_is_name) (by decide +kernel))
          (fun _ _ _ _ _ => pg_name (i := 1) sc_is_name.nd rfl (Or.inl rfl)) (fun _ _ _ _ _ => pts_nil)
          (fun _ _ _ _ _ => pe_chain op_le_str op_le_str pe_str (pv 1) pe_str)) pa_nil)))), ?_⟩
    have hzl : z.length ≤ sizeLine := Nat.le_trans hz (by decide)
    refine ⟨_, rfl, _, _, _, _, true, rfl, .ty _, .base (.str _), kit_ty (by decide +kernel), _, rfl, iteF ?_⟩
    refine ⟨_, rfl, z, rfl, hzl, 1, (z.length : Int), rfl, rfl, decide ((1 : Int) ≤ z.length), rfl, ?_⟩
    have out : isNameT z = false → Q (.bl false) H := fun e => e ▸ k H (Same.refl H)
    by_cases h1 : (1 : Int) ≤ z.length
    case neg =>
      rw [decide_eq_false h1]
      refine iteF ⟨_, rfl, iteT (out ?_)⟩
      unfold isNameT
      rw [decide_eq_false (by omega)]
      rfl
    rw [decide_eq_true h1]
    refine iteT ⟨_, _, rfl, rfl, ⟨_, rfl, ?_⟩⟩
    by_cases h2 : (z.length : Int) ≤ 8
    case neg =>
      rw [decide_eq_false h2]
      refine iteT (out ?_)
      unfold isNameT
      rw [decide_eq_false (p := z.length ≤ 8) (by omega), Bool.and_false]
      rfl
    rw [decide_eq_true h2]
    refine iteF ?_
    have wz : Walk (Its z) z.cps.toList.length (fun _ => True) (fun i H v H' => H' = H ∧ ∃ c, z.cps[i]? = some c ∧ v = .str ⟨#[c]⟩) := by
      rw [cps_size]
      exact walk_str
    refine ⟨_, rfl, z, rfl, fun D hD => lc_mp z.cps.toList wz hD (fun c => .bl (decide (97 ≤ c) && decide (c ≤ 122))) (by rw [cps_size]; omega) (fun _ _ => trivial) ?_ ?_⟩
    · rintro i c x H2 H3 hc s2 ⟨rfl, c', hc', rfl⟩ R hR
      obtain rfl : c' = c := by
        rw [Array.getElem?_toList] at hc
        exact Option.some.inj (hc'.symm.trans hc)
      have ea : ("a" : Str).cps.toList = [97] := by decide +kernel
      have ez : ("z" : Str).cps.toList = [122] := by decide +kernel
      refine ⟨rfl, _, rfl, _, _, rfl, rfl, _, rfl, ?_⟩
      have e1 : (!decide ([c'] < ("a" : Str).cps.toList)) = decide (97 ≤ c') := by
        rw [ea, lt_one, ← decide_not]
        exact decide_eq_decide.mpr Nat.not_lt
      have e2 : (!decide (("z" : Str).cps.toList < [c'])) = decide (c' ≤ 122) := by
        rw [ez, lt_one, ← decide_not]
        exact decide_eq_decide.mpr Nat.not_lt
      show if (!decide ([c'] < ("a" : Str).cps.toList)) = true then _ else _
      rw [e1]
      have hk := hR H3 (Same.refl H3)
      by_cases g1 : 97 ≤ c'
      · rw [decide_eq_true g1, Bool.true_and] at hk
        rw [decide_eq_true g1]
        refine iteT ⟨_, _, rfl, rfl, ?_⟩
        show R (.bl (!decide (("z" : Str).cps.toList < [c']))) H3
        rw [e2]
        exact hk
      · rw [decide_eq_false g1, Bool.false_and] at hk
        rw [decide_eq_false g1]
        exact iteF hk
    · intro H2 s2 hL
      refine ⟨D, z.cps.toList.map fun c => decide (97 ≤ c) && decide (c ≤ 122), rfl, ?_, ?_⟩
      · rw [List.map_map]
        exact SqL.of hL
      · rw [List.all_map]
        have e : isNameT z = (z.cps.toList.all fun c => decide (97 ≤ c) && decide (c ≤ 122)) := by
          unfold isNameT
          rw [decide_eq_true (p := 1 ≤ z.length) (by omega), decide_eq_true (p := z.length ≤ 8) (by omega), Bool.true_and, Bool.true_and]
        have q := k H2 s2
        rw [e] at q
        exact q
end
end Vf

set_option maxRecDepth 100000
set_option maxHeartbeats 4000000
namespace Vf
open PySem PySem.Spec PyProof.Rows L2
/-- a target as a value -/
def tgV : Option Nat → V
  | none => .non
  | some k => .int (k : Int)
def numKvs (many : Nat) : List (Key × V) := (List.range many).map fun k => (Sum.inr (natS k), V.int (k : Int))
theorem valV_num {l : List Nat} {z : Str} : valV (l.map fun k => ((Sum.inr (natS k) : Key), V.int (k : Int))) (Sum.inr z) = (l.find? fun k => decide (natS k = z)).map fun (k : Nat) => V.int (k : Int) := by
  induction l with
  | nil => rfl
  | cons k l ih =>
    rw [List.map_cons, List.find?_cons]
    by_cases h : natS k = z
    · rw [decide_eq_true h, valV_pos (by rw [h])]
      rfl
    · rw [decide_eq_false h, valV_neg (fun e => h (Sum.inr.inj e)), ih]
theorem valV_nums {many : Nat} {z : Str} : valV (numKvs many) (Sum.inr z) = (numOf many z).map fun (k : Nat) => V.int (k : Int) := valV_num
theorem cut_one {x : V} {xs : List V} : cutV (x :: xs) (some 1) none = xs := by
  unfold cutV
  have e : HT.sIx (x :: xs).length 0 (some 1) = 1 := by
    show (if (1 : Int) < 0 then ((1 : Int) + ((xs.length + 1 : Nat) : Int)).toNat else min (1 : Int).toNat (xs.length + 1)) = 1
    rw [if_neg (by decide)]
    show min 1 (xs.length + 1) = 1
    omega
  rw [e, HT.sIx_none]
  simp
theorem cut_mid {x : V} {xs : List V} (h : xs ≠ []) : cutV (x :: xs) (some 1) (some (-1)) = xs.dropLast := by
  unfold cutV
  have hl := List.length_pos_iff.mpr h
  have e : HT.sIx (x :: xs).length 0 (some 1) = 1 := by
    show (if (1 : Int) < 0 then ((1 : Int) + ((xs.length + 1 : Nat) : Int)).toNat else min (1 : Int).toNat (xs.length + 1)) = 1
    rw [if_neg (by decide)]
    show min 1 (xs.length + 1) = 1
    omega
  have e2 : HT.sIx (x :: xs).length (x :: xs).length (some (-1)) = xs.length := by
    show (if (-1 : Int) < 0 then ((-1 : Int) + ((xs.length + 1 : Nat) : Int)).toNat else min (-1 : Int).toNat (xs.length + 1)) = xs.length
    rw [if_pos (by decide)]
    omega
  rw [e, e2, List.drop_one, List.tail_cons, List.dropLast_eq_take]
section
variable {P : Program} {w : World} {K : PySem.W.Frag} {mg : Str → Option Value} {base : Heap}
def sp_targets_of (K : PySem.W.Frag) : Sp := fun vs H Q _ => ∃ (a d : Addr) (ws : List Str) (many : Nat), vs = [.ref a, .ref d] ∧ SqL K H a (ws.map V.str) ∧ H d = some (.dK (numKvs many)) ∧ ws.length ≤ 4000 ∧ many ≤ 60 ∧
  (targetsT many ws = none → ∀ H', Same H H' → Q .non H') ∧ ∀ tg, targetsT many ws = some tg → ∀ t H', Same H H' → H t = none → H' t = some (.tup (tg.map tgV)) → Q (.ref t) H'
set_option maxHeartbeats 8000000 in
theorem ok_targets_of {f : Addr} {fd : FuncData} (F : Fun K "_targets_of" "_targets_of" s_targets_of f fd) (T : Txt0 K mg) : FnOk P w K mg base CX0 1 f fd p_targets_of (sp_targets_of K) := by
  refine F.ok sc_targets_of (fun vs H Q E h => ?_) (fun cdv A outer s H vs Q E hr h => ?_)
  · obtain ⟨a, d, ws, many, rfl, _⟩ := h
    rfl
  · obtain ⟨a, d, ws, many, rfl, hS, hD, hl, hm, kN, kS⟩ := h
    obtain ⟨tA, eA⟩ := T.arrow
    obtain ⟨tE, eE⟩ := T.end_
    have hu := hu_of hr
    refine ⟨_, pss_cons (ps_if (pt_cmpR op_eq (pe_callB call_len_seq (by rfl) T.len PySem.boot_len (pa_cons (pv 0) pa_nil)) pe_int (nomark _)) (pss_one (ps_ret (pe_tup (pa_cons pe_non pa_nil)))) pss_nil)
      (pss_cons (ps_if (PW.pt (pw_or (pt_cmpR op_ne (pe_ix ix_list (pv 0) pe_int (fun _ _ => rfl)) (pe_glob (v := .str sArrow) rfl eA ⟨_, rfl⟩) (nomark _))
        (pw_or1 (pt_cmpR op_eq (pe_callB call_len_seq (by rfl) T.len PySem.boot_len (pa_cons (pv 0) pa_nil)) pe_int (nomark _))))) (pss_one (ps_ret pe_non)) pss_nil)
      (pss_cons (ps_set (i := 2) sc_targets_of.nd rfl (Or.inl rfl) (pe_cmpR op_eq (pe_ix ix_list (pv 0) (pe_un un_neg pe_int) (fun _ _ => rfl)) (pe_glob (v := .str sEnd) rfl eE ⟨_, rfl⟩) (nomark _)))
      (C8.pss_cut (ps_set (i := 3) sc_targets_of.nd rfl (Or.inl rfl) (pe_ifExp (pt_val (pv 2)) (pe_slice sl_list (pv 0) (po_some pe_int) (po_some (pe_un un_neg pe_int))) (pe_slice sl_list (pv 0) (po_some pe_int) po_none)))
      (pss_cons (ps_if (pt_not (pt_val (pe_callB (cr_all rfl) (by rfl) T.all (by decide +kernel)
          (pa_cons (pe_lc (own := [("word", 5)]) (g := gName 5) (tt := tYes) rfl sc_targets_of.nd (pi_list (pv 3)) (blkOk_by (N := n_targets_of) (sc := defScope s_targets_of) (by decide +kernel))
            (fun _ _ _ _ _ => pg_name (i := 5) sc_targets_of.nd rfl (Or.inl rfl)) (fun _ _ _ _ _ => pts_nil)
            (fun _ _ _ _ _ => pe_cmp (pc_din hu (pv 5) (pv 1)))) pa_nil)))) (pss_one (ps_ret pe_non)) pss_nil)
      (pss_cons (ps_setLc (i := 4) (own := [("word", 5)]) (g := gName 5) (tt := tYes) rfl sc_targets_of.nd rfl rfl (sw_true rfl rfl rfl (by decide +kernel)) (pi_list (pv 3)) (blkOk_by (N := n_targets_of) (sc := defScope s_targets_of) (by decide +kernel))
            (fun _ _ _ _ _ => pg_name (i := 5) sc_targets_of.nd rfl (Or.inl rfl)) (fun _ _ _ _ _ => pts_nil)
            (fun _ _ _ _ _ => pe_dget hu (pv 1) (pv 5) (fun _ _ => rfl)))
      (pss_cons (ps_if (pt_cmpR (op_neD hr.units) (pv 4) (pe_callB (cr_sortedSet rfl) (by rfl) T.sorted (by decide +kernel) (pa_cons (pe_callTy (cr_setI rfl) (by rfl) T.set (by decide +kernel) (pa_cons (pv 4) pa_nil)) pa_nil)) (nomark _))
          (pss_one (ps_ret pe_non)) pss_nil)
      (pss_one (ps_ret (pe_ifExp (pt_val (pv 2)) (pe_tup (StX.pa_star (pv 4) (pa_cons pe_non pa_nil))) (pe_callTy call_tuple_of (by rfl) T.tuple (by decide +kernel) (pa_cons (pv 4) pa_nil))))))))))), ?_⟩
    refine ⟨_, rfl, a, _, rfl, .inl hS, rfl, _, rfl, ?_⟩
    cases ws with
    | nil =>
      refine iteT ⟨by show 1 ≤ sizeLine; decide, fun t ht => ?_⟩
      exact kS [none] rfl t _ (same_new ht) ht upd_same
    | cons w0 rest =>
      have none_of : targetsT many (w0 :: rest) = none → ∀ H', Same H H' → Q .non H' := kN
      refine iteF ⟨_, rfl, a, _, (0 : Int), .str w0, rfl, rfl, hS, at_of (j := 0) rfl rfl, rfl, _, rfl, ?_⟩
      by_cases h0 : w0 = sArrow
      case neg =>
        rw [decide_eq_false (p := V.str w0 = V.str sArrow) (fun e => h0 (V.str.inj e))]
        exact iteT (iteT (none_of (targetsT_bad h0) H (Same.refl H)))
      subst h0
      rw [decide_eq_true (p := V.str sArrow = V.str sArrow) rfl]
      refine iteF ⟨_, rfl, a, _, rfl, .inl hS, rfl, _, rfl, ?_⟩
      by_cases hr0 : rest = []
      · subst hr0
        exact iteT (none_of targetsT_bare H (Same.refl H))
      rw [decide_eq_false (p := V.int (((sArrow :: rest).map V.str).length : Int) = V.int 1) (fun e => hr0 (by
        have := V.int.inj e
        rw [List.length_map, List.length_cons] at this
        exact List.length_eq_zero_iff.mp (by omega)))]
      refine iteF ?_
      obtain ⟨rs, z, rfl⟩ : ∃ rs z, rest = rs ++ [z] := ⟨rest.dropLast, rest.getLast hr0, (List.dropLast_concat_getLast hr0).symm⟩
      have hlast : atI ((sArrow :: (rs ++ [z])).map V.str) (-1) = some (.str z) := by
        have e := atI_last (V.str sArrow :: rs.map V.str) (.str z)
        simpa using e
      refine ⟨_, rfl, 1, rfl, a, _, (-1 : Int), .str z, rfl, rfl, hS, hlast, rfl, ?_⟩
      refine ⟨fun σ H' => ∃ p named, σ = [some (.ref a), some (.ref d), some (.bl (decide (z = sEnd))), some (.ref p), none, none] ∧ Same H H' ∧ H' p = some (.lst (named.map V.str)) ∧
        named = (if decide (z = sEnd) = true then rs else rs ++ [z]), ?_, ?_⟩
      · have e0 : decide (V.str z = V.str sEnd) = decide (z = sEnd) := decide_eq_decide.mpr ⟨V.str.inj, fun e => by rw [e]⟩
        refine ⟨_, rfl, _, rfl, ?_⟩
        by_cases he : z = sEnd
        · rw [decide_eq_true (p := V.str z = V.str sEnd) (by rw [he])]
          refine iteT ⟨_, rfl, 1, rfl, 1, rfl, _, rfl, a, _, rfl, hS, fun p hp => ?_⟩
          refine ⟨p, rs, ?_, same_new hp, ?_, by rw [decide_eq_true he]; rfl⟩
          · rw [decide_eq_true he]
            rfl
          · rw [upd_same, List.map_cons, cut_mid (by simp), List.map_append, List.map_singleton, List.dropLast_concat]
        · rw [decide_eq_false (p := V.str z = V.str sEnd) (fun e => he (V.str.inj e))]
          refine iteF ⟨_, rfl, 1, rfl, a, _, rfl, hS, fun p hp => ?_⟩
          refine ⟨p, rs ++ [z], ?_, same_new hp, ?_, by rw [decide_eq_false he]; rfl⟩
          · rw [decide_eq_false he]
            rfl
          · rw [upd_same, List.map_cons, cut_one]
      rintro σ H' ⟨p, named, rfl, s1, hp, en⟩
      have hnl : named.length ≤ 4000 := by
        have q : (sArrow :: (rs ++ [z])).length ≤ 4000 := hl
        rw [List.length_cons, List.length_append, List.length_singleton] at q
        rw [en]
        split
        · omega
        · rw [List.length_append, List.length_singleton]; omega
      have et : targetsT many (sArrow :: (rs ++ [z])) = tgOf many named (decide (z = sEnd)) := by rw [targetsT_step, ← en]
      have hD' := s1 _ _ hD
      refine ⟨_, rfl, p, rfl, ⟨_, SqL.of hp⟩, fun D1 hD1 => lc_mp named (walk_list (K := K) (a := p) (xs := named.map V.str) |> fun q => by rw [List.length_map] at q; exact q) hD1
        (fun z => .bl (numOf many z).isSome) (by omega) (fun H2 s2 => SqL.of (s2 _ _ hp)) ?_ ?_⟩
      · rintro i z1 x H2 H3 hz s2 ⟨rfl, hx⟩ R hR
        rw [List.getElem?_map, hz] at hx
        obtain rfl : V.str z1 = x := Option.some.inj hx
        refine ⟨rfl, _, rfl, _, rfl, d, _, rfl, DGet.k (k := Sum.inr z1) (s2 _ _ hD'), ?_⟩
        rw [valV_nums, Option.isSome_map]
        exact hR _ (Same.refl _)
      intro H2 s2 hL
      refine ⟨D1, named.map fun z => (numOf many z).isSome, rfl, by rw [List.map_map]; exact SqL.of hL, _, rfl, ?_⟩
      rw [List.all_map]
      cases ha : named.all (id ∘ fun z => (numOf many z).isSome) with
      | false =>
        refine iteT (none_of ?_ H2 (s1.trans s2))
        rw [et]
        unfold tgOf
        rw [show (named.all fun z => (numOf many z).isSome) = false from ha, if_neg Bool.false_ne_true]
      | true =>
      refine iteF ?_
      have ha' : ∀ z ∈ named, (numOf many z).isSome = true := fun z hz => List.all_eq_true.mp ha z hz
      have s12 := s1.trans s2
      have hp2 := s2 _ _ hp
      have hD2 := s2 _ _ hD'
      refine ⟨_, rfl, p, rfl, ⟨_, SqL.of hp2⟩, fun D2 hD2' => lc_mp named (walk_list (K := K) (a := p) (xs := named.map V.str) |> fun q => by rw [List.length_map] at q; exact q) hD2'
        (fun z => .int (((numOf many z).getD 0 : Nat) : Int)) (by omega) (fun H3 s3 => SqL.of (s3 _ _ hp2)) ?_ ?_⟩
      · rintro i z1 x H3 H4 hz s3 ⟨rfl, hx⟩ R hR
        rw [List.getElem?_map, hz] at hx
        obtain rfl : V.str z1 = x := Option.some.inj hx
        refine ⟨rfl, _, rfl, _, rfl, d, .int (((numOf many z1).getD 0 : Nat) : Int), rfl, ?_, hR _ (Same.refl _)⟩
        have g := DGet.k (k := Sum.inr z1) (s3 _ _ hD2)
        rw [valV_nums] at g
        have h1 := ha' z1 (List.mem_of_getElem? hz)
        cases e : numOf many z1 with
        | none => rw [e] at h1; cases h1
        | some k =>
          rw [e] at g
          exact g
      intro H3 s3 hT
      have ets : named.map (fun z => V.int (((numOf many z).getD 0 : Nat) : Int)) = ((named.filterMap (numOf many)).map Int.ofNat).map V.int := by
        clear hT s3 en et hnl hp hp2 hL
        induction named with
        | nil => rfl
        | cons z r ih =>
          have h1 := ha' z List.mem_cons_self
          have h2 := ih (by rw [List.all_eq_true]; exact fun y hy => ha' y (List.mem_cons_of_mem _ hy)) fun y hy => ha' y (List.mem_cons_of_mem _ hy)
          cases e : numOf many z with
          | none => rw [e] at h1; cases h1
          | some k =>
            rw [List.map_cons, h2, List.filterMap_cons, e]
            rfl
      rw [ets] at hT
      have hlt : ∀ k ∈ named.filterMap (numOf many), k < many := fun k hk => by
        obtain ⟨z, _, e⟩ := List.mem_filterMap.mp hk
        exact (numOf_some.mp e).1
      generalize htl : named.filterMap (numOf many) = ts at hT hlt
      have htl4 : ts.length ≤ 4000 := by
        rw [← htl]
        exact Nat.le_trans (List.length_filterMap_le _ _) hnl
      have etg : tgOf many named (decide (z = sEnd)) = if rises ts then some (ts.map some ++ if decide (z = sEnd) then [none] else []) else none := by
        unfold tgOf
        rw [show (named.all fun z => (numOf many z).isSome) = true from ha, if_pos rfl, htl]
      have hc60 : ∀ c : Nat, (∀ l : List Int, (∀ k ∈ ts.map Int.ofNat, k ∈ l) → c ≤ l.length) → c < 64 := fun c hc => by
        have q := hc ((List.range many).map Int.ofNat) fun k hk => by
          obtain ⟨j, hj, rfl⟩ := List.mem_map.mp hk
          exact List.mem_map.mpr ⟨j, List.mem_range.mpr (hlt j hj), rfl⟩
        rw [List.length_map, List.length_range] at q
        omega
      refine ⟨_, rfl, _, rfl, D2, ts.map Int.ofNat, rfl, SqL.of hT, by rw [List.length_map]; unfold scanBound; omega, fun pS c hpS hc => ?_⟩
      refine ⟨pS, _, c, rfl, upd_same, hc60 c hc, fun ns pn hs hmem hlen hpn => ?_⟩
      have nTS : D2 ≠ pS := ne_of_none hT hpS
      have nTn : D2 ≠ pn := fun e => by
        rw [← e, upd_ne nTS, hT] at hpn
        cases hpn
      have hT2 : (upd (upd H3 pS (SetO w pS (fun j => decide (j ∈ ts.map Int.ofNat)) c)) pn (.lst (ns.map V.int))) D2 = some (.lst ((ts.map Int.ofNat).map V.int)) := by
        rw [upd_ne nTn, upd_ne nTS]
        exact hT
      refine ⟨.list ((ts.map Int.ofNat).map PyData.int), .list (ns.map PyData.int), .lst (SqL.of hT2) (dp_ints _), .lst (SqL.of upd_same) (dp_ints _), shaped_ints _, shaped_ints _, _, rfl, ?_⟩
      rw [eqv_ints]
      have hrs := rises_set hs fun k => by rw [hmem k]; exact decide_eq_true_iff
      have sall : Same H (upd (upd H3 pS (SetO w pS (fun j => decide (j ∈ ts.map Int.ofNat)) c)) pn (.lst (ns.map V.int))) :=
        (s12.trans s3).trans ((same_new hpS).trans (same_new hpn))
      by_cases hri : rises ts = true
      case neg =>
        rw [decide_eq_false (fun e => hri (hrs.mp e))]
        refine iteT (none_of ?_ _ sall)
        rw [et, etg, if_neg hri]
      rw [decide_eq_true (hrs.mpr hri)]
      refine iteF ?_
      have etT : targetsT many (sArrow :: (rs ++ [z])) = some (ts.map some ++ if decide (z = sEnd) then [none] else []) := by rw [et, etg, if_pos hri]
      have ev : ∀ l : List Nat, (l.map Int.ofNat).map V.int = (l.map some).map tgV := fun l => by
        rw [List.map_map, List.map_map]
        rfl
      refine ⟨_, rfl, _, rfl, ?_⟩
      cases he : decide (z = sEnd) with
      | true =>
        rw [he] at etT
        refine iteT ⟨_, rfl, D2, _, rfl, .inr (SqL.of hT2), ?_, fun t ht => ?_⟩
        · rw [List.length_append, List.length_map, List.length_map, sizeLine_eq]
          show ts.length + 1 ≤ _
          omega
        · refine kS _ etT t _ (sall.trans (same_new ht)) ?_ ?_
          · exact sall.free ht
          · rw [upd_same, ev, List.map_append]
            rfl
      | false =>
        rw [he] at etT
        refine iteF ⟨_, rfl, D2, _, rfl, .inl ⟨SqL.of hT2, fun t ht => ?_⟩⟩
        refine kS _ etT t _ (sall.trans (same_new ht)) (sall.free ht) ?_
        rw [upd_same, ev, List.map_append]
        show _ = some (HO.tup (_ ++ []))
        rw [List.append_nil]
end
end Vf

set_option maxRecDepth 100000
set_option maxHeartbeats 8000000
namespace Vf
open PySem PySem.Spec PyProof.Rows L2
def NodeAt (H : Hp) (a : Addr) (n : Nd) : Prop := ∃ t, H a = some (.tup [.str n.word, .str n.cell, .ref t]) ∧ H t = some (.tup (n.tg.map tgV))
theorem NodeAt.same {H H' : Hp} {a : Addr} {n : Nd} (h : NodeAt H a n) (s : Same H H') : NodeAt H' a n := by
  obtain ⟨t, h1, h2⟩ := h
  exact ⟨t, s _ _ h1, s _ _ h2⟩
theorem cut_two {x y : V} {xs : List V} : cutV (x :: y :: xs) (some 2) none = xs := by
  unfold cutV
  have e : HT.sIx (x :: y :: xs).length 0 (some 2) = 2 := by
    show (if (2 : Int) < 0 then ((2 : Int) + ((xs.length + 2 : Nat) : Int)).toNat else min (2 : Int).toNat (xs.length + 2)) = 2
    rw [if_neg (by decide)]
    show min 2 (xs.length + 2) = 2
    omega
  rw [e, HT.sIx_none]
  simp
/-- no part is longer than the whole -/
theorem part_len {x y z : Str} (h : z ∈ Txt.split x y) : z.length ≤ x.length := by
  have e := StrLaws.join_split x y
  generalize Txt.split x y = l at h e
  rw [← e]
  clear e
  induction l with
  | nil => cases h
  | cons a r ih =>
    cases r with
    | nil =>
      rw [List.mem_singleton.mp h]
      exact Nat.le_refl _
    | cons b r =>
      show z.length ≤ (a ++ y ++ Str.join y (b :: r)).length
      rw [Str.length_append, Str.length_append]
      rcases List.mem_cons.mp h with rfl | h
      · omega
      · have := ih h
        omega
theorem nodeT_short {many : Nat} {row : Str} (h : (Txt.split row sSp).length < 2) : nodeT many row = none := by
  unfold nodeT
  match Txt.split row sSp, h with
  | [], _ => rfl
  | [_], _ => rfl
theorem nodeT_cons {many : Nat} {row w c : Str} {rest : List Str} (h : Txt.split row sSp = w :: c :: rest) :
    nodeT many row = if (w = sRead ∨ w = sWrite) ∧ isNameT c = true then (targetsT many rest).map fun t => ⟨w, c, t⟩ else none := by
  unfold nodeT
  rw [h]
section
variable {P : Program} {w : World} {K : PySem.W.Frag} {mg : Str → Option Value} {base : Heap}
def sp_node_of : Sp := fun vs H Q _ => ∃ (row : Str) (d : Addr) (many : Nat), vs = [.str row, .ref d] ∧ H d = some (.dK (numKvs many)) ∧ many ≤ 60 ∧ row.length ≤ 100000 ∧ (Txt.split row sSp).length ≤ 4000 ∧
  (nodeT many row = none → ∀ H', Same H H' → Q .non H') ∧ ∀ n, nodeT many row = some n → ∀ a H', Same H H' → NodeAt H' a n → Q (.ref a) H'
theorem ok_node_of {f : Addr} {fd : FuncData} (F : Fun K "_node_of" "_node_of" s_node_of f fd) (T : Txt0 K mg) (GN : OkF P w K mg base CX0 "is_name" p_is_name 1 sp_is_name) (GT : OkF P w K mg base CX0 "_targets_of" p_targets_of 1 (sp_targets_of K)) :
    FnOk P w K mg base CX0 2 f fd p_node_of sp_node_of := by
  refine F.ok sc_node_of (fun vs H Q E h => ?_) (fun cdv A outer s H vs Q E hr h => ?_)
  · obtain ⟨row, d, many, rfl, _⟩ := h
    rfl
  · obtain ⟨row, d, many, rfl, hD, hm, hl, hw, kN, kS⟩ := h
    obtain ⟨aW, eW, hW⟩ := T.words
    refine ⟨_, pss_cons (ps_set (i := 2) sc_node_of.nd rfl (Or.inl rfl) (pe_split (pv 0) pe_str))
      (pss_cons (ps_if (PW.pt (pw_or (pt_cmpR op_lt (pe_callB call_len_seq (by rfl) T.len PySem.boot_len (pa_cons (pv 2) pa_nil)) pe_int (nomark _))
          (pw_or (pt_cmpR op_notIn_seq (pe_ix ix_list (pv 2) pe_int (fun _ _ => rfl)) (pe_glob (v := .ref aW) rfl eW rfl) rfl)
          (pw_or1 (pt_not (pt_val (pe_fn GN hr rfl pass0 (pa_cons (pe_ix ix_list (pv 2) pe_int (fun _ _ => rfl)) pa_nil)))))))) (pss_one (ps_ret pe_non)) pss_nil)
      (pss_cons (ps_set (i := 3) sc_node_of.nd rfl (Or.inl rfl) (pe_fn GT hr rfl pass0 (pa_cons (pe_slice sl_list (pv 2) (po_some pe_int) po_none) (pa_cons (pv 1) pa_nil))))
      (pss_cons (ps_if (pt_cmpR op_isN (pv 3) pe_non (nomark _)) (pss_one (ps_ret pe_non)) pss_nil)
      (pss_one (ps_ret (pe_tup (pa_cons (pe_ix ix_list (pv 2) pe_int (fun _ _ => rfl)) (pa_cons (pe_ix ix_list (pv 2) pe_int (fun _ _ => rfl)) (pa_cons (pv 3) pa_nil))))))))), ?_⟩
    refine ⟨_, rfl, ⟨_, rfl⟩, _, sSp, rfl, rfl, (by decide +kernel), (by rw [sizeLine_eq]; omega), fun p hp => ?_⟩
    have s1 := same_new (o := .lst ((Txt.split row sSp).map V.str)) hp
    refine ⟨_, rfl, p, _, rfl, .inl (SqL.of upd_same), _, _, rfl, rfl, _, rfl, ?_⟩
    rw [List.length_map]
    by_cases h2 : (Txt.split row sSp).length < 2
    · rw [decide_eq_true (p := (((Txt.split row sSp).length : Nat) : Int) < 2) (by omega)]
      exact iteT (iteT (kN (nodeT_short h2) _ s1))
    rw [decide_eq_false (p := (((Txt.split row sSp).length : Nat) : Int) < 2) (by omega)]
    obtain ⟨w0, c, rest, hsp⟩ : ∃ w0 c rest, Txt.split row sSp = w0 :: c :: rest := by
      match Txt.split row sSp, h2 with
      | [], h => exact absurd (show 0 < 2 by decide) h
      | [_], h => exact absurd (show 1 < 2 by decide) h
      | a :: b :: r, _ => exact ⟨a, b, r, rfl⟩
    have hpl : (upd H p (.lst ((Txt.split row sSp).map V.str))) p = some (.lst ((w0 :: c :: rest).map V.str)) := by rw [upd_same, hsp]
    have en := nodeT_cons (many := many) hsp
    refine iteF ⟨_, rfl, p, _, (0 : Int), .str w0, rfl, rfl, SqL.of hpl, at_of (j := 0) rfl rfl, aW, _, rfl, .inr (hW _), rfl, rfl, _, rfl, ?_⟩
    have hin : inV (.str w0) [V.str sRead, V.str sWrite] = decide (w0 = sRead ∨ w0 = sWrite) := by
      by_cases e1 : w0 = sRead
      · subst e1
        rw [decide_eq_true (.inl rfl)]
        decide +kernel
      by_cases e2 : w0 = sWrite
      · subst e2
        rw [decide_eq_true (.inr rfl)]
        decide +kernel
      rw [decide_eq_false (by rintro (e | e); exact e1 e; exact e2 e)]
      show ([V.str sRead, V.str sWrite].any fun y => eqV y (.str w0)) = false
      rw [List.any_cons, List.any_cons, List.any_nil]
      have f1 : eqV (.str sRead) (.str w0) = false := decide_eq_false fun e => e1 e.symm
      have f2 : eqV (.str sWrite) (.str w0) = false := decide_eq_false fun e => e2 e.symm
      rw [f1, f2]
      rfl
    show if (if true = true then !inV (.str w0) [V.str sRead, V.str sWrite] else _) = true then _ else _
    rw [if_pos rfl, hin]
    by_cases hw0 : w0 = sRead ∨ w0 = sWrite
    case neg =>
      rw [decide_eq_false hw0]
      refine iteT (iteT (kN ?_ _ s1))
      rw [en, if_neg (fun h => hw0 h.1)]
    rw [decide_eq_true hw0]
    have hc : c.length ≤ 1000000 := by
      have := part_len (x := row) (y := sSp) (z := c) (by rw [hsp]; simp)
      omega
    refine iteF ⟨_, rfl, p, _, (1 : Int), .str c, rfl, rfl, SqL.of hpl, at_of (j := 1) rfl rfl, c, rfl, hc, fun H2 s2 => ?_⟩
    refine ⟨_, rfl, ?_⟩
    cases hnm : isNameT c with
    | false =>
      refine iteT (kN ?_ _ (s1.trans s2))
      rw [en, if_neg (fun h => by rw [hnm] at h; exact Bool.false_ne_true h.2)]
    | true =>
    rw [if_pos ⟨hw0, hnm⟩] at en
    have hp2 := s2 _ _ hpl
    refine iteF ⟨_, rfl, 2, rfl, p, _, rfl, SqL.of hp2, fun q hq => ?_⟩
    have s3 := same_new (o := .lst (cutV ((w0 :: c :: rest).map V.str) (some 2) none)) hq
    have s13 := (s1.trans s2).trans s3
    have hq3 : (upd H2 q (.lst (cutV ((w0 :: c :: rest).map V.str) (some 2) none))) q = some (.lst (rest.map V.str)) := by
      rw [upd_same, List.map_cons, List.map_cons, cut_two]
    have hlr : rest.length ≤ 4000 := by
      rw [hsp, List.length_cons, List.length_cons] at hw
      omega
    refine ⟨_, rfl, q, d, rest, many, rfl, SqL.of hq3, s13 _ _ hD, hlr, hm, fun eT H4 s4 => ?_, fun tg eT t H4 s4 ht0 ht => ?_⟩
    · refine ⟨_, rfl, rfl, _, rfl, iteT (kN ?_ _ (s13.trans s4))⟩
      rw [en, eT]
      rfl
    · have hp4 := (s3.trans s4) _ _ hp2
      refine ⟨_, rfl, rfl, _, rfl, iteF ⟨_, rfl, p, _, (0 : Int), .str w0, rfl, rfl, SqL.of hp4, at_of (j := 0) rfl rfl,
        _, rfl, p, _, (1 : Int), .str c, rfl, rfl, SqL.of hp4, at_of (j := 1) rfl rfl, _, rfl, (by show 3 ≤ sizeLine; decide), fun a ha => ?_⟩⟩
      refine kS ⟨w0, c, tg⟩ (by rw [en, eT]; rfl) a _ ((s13.trans s4).trans (same_new ha)) ⟨t, upd_same, ?_⟩
      rw [upd_ne (ne_of_none ht ha)]
      exact ht
end
end Vf

set_option maxRecDepth 100000
set_option maxHeartbeats 8000000
namespace Vf
open PySem PySem.Spec PyProof.Rows L2
/-- what stood at H1 stands at H, but for what is at p -/
def But (p : Addr) (H1 H : Hp) : Prop := ∀ b o, b ≠ p → H1 b = some o → H b = some o
theorem But.refl (p : Addr) (H : Hp) : But p H H := fun _ _ _ e => e
theorem But.then {p : Addr} {H1 H2 H3 : Hp} (a : But p H1 H2) (s : Same H2 H3) : But p H1 H3 := fun b o hb e => s b o (a b o hb e)
theorem But.trans {p : Addr} {H1 H2 H3 : Hp} (a : But p H1 H2) (s : But p H2 H3) : But p H1 H3 := fun b o hb e => s b o hb (a b o hb e)
theorem But.put {p : Addr} {H1 H2 : Hp} {o : HO} (a : But p H1 H2) : But p H1 (upd H2 p o) := fun b u hb e => by rw [upd_ne hb]; exact a b u hb e
theorem Same.but {p : Addr} {H1 H2 : Hp} (s : Same H1 H2) : But p H1 H2 := fun b o _ e => s b o e
theorem But.same {p : Addr} {H0 H1 H2 : Hp} (a : But p H1 H2) (s : Same H0 H1) (h : H0 p = none) : Same H0 H2 := fun b o e => a b o (ne_of_none e h) (s b o e)
theorem NodeAt.but {p : Addr} {H H' : Hp} {a : Addr} {n : Nd} (h : NodeAt H a n) (s : But p H H') (hp : ∃ xs, H p = some (.lst xs)) : NodeAt H' a n := by
  obtain ⟨t, h1, h2⟩ := h
  obtain ⟨xs, hp⟩ := hp
  exact ⟨t, s _ _ (ne_of h1 hp (by intro z; cases z)) h1, s _ _ (ne_of h2 hp (by intro z; cases z)) h2⟩
/-- a tuple of nodes -/
def NodesIn (H : Hp) (as : List Addr) (ns : List Nd) : Prop := as.length = ns.length ∧ ∀ (i : Nat) (a : Addr) (n : Nd), as[i]? = some a → ns[i]? = some n → NodeAt H a n
def NodesAt (H : Hp) (t : Addr) (ns : List Nd) : Prop := ∃ as : List Addr, H t = some (.tup (as.map V.ref)) ∧ NodesIn H as ns
theorem NodesIn.same {H H' : Hp} {as : List Addr} {ns : List Nd} (h : NodesIn H as ns) (s : Same H H') : NodesIn H' as ns :=
  ⟨h.1, fun i a n ha hn => (h.2 i a n ha hn).same s⟩
theorem NodesAt.same {H H' : Hp} {t : Addr} {ns : List Nd} (h : NodesAt H t ns) (s : Same H H') : NodesAt H' t ns := by
  obtain ⟨as, h1, h2⟩ := h
  exact ⟨as, s _ _ h1, h2.same s⟩
theorem nodesT_get {many : Nat} : ∀ {rs : List Str} {ns : List Nd}, nodesT many rs = some ns → rs.length = ns.length ∧ ∀ (i : Nat) (r : Str), rs[i]? = some r → ∃ n, ns[i]? = some n ∧ nodeT many r = some n
  | [], ns, h => by
    obtain rfl : [] = ns := Option.some.inj h
    exact ⟨rfl, fun i r h => by simp at h⟩
  | r :: rs, ns, h => by
    unfold nodesT at h
    cases e : nodeT many r with
    | none => rw [e] at h; cases h
    | some n =>
      rw [e] at h
      cases e2 : nodesT many rs with
      | none => rw [e2] at h; cases h
      | some ms =>
        rw [e2] at h
        obtain rfl : n :: ms = ns := Option.some.inj h
        obtain ⟨h1, h2⟩ := nodesT_get e2
        refine ⟨by rw [List.length_cons, List.length_cons, h1], fun i z hz => ?_⟩
        cases i with
        | zero =>
          obtain rfl : r = z := by simpa using hz
          exact ⟨n, rfl, e⟩
        | succ i =>
          obtain ⟨m, hm, hn⟩ := h2 i z (by simpa using hz)
          exact ⟨m, by simpa using hm, hn⟩
theorem cut_eight {xs : List V} : cutV xs none (some 8) = xs.take 8 := by
  unfold cutV
  have e : HT.sIx xs.length xs.length (some 8) = min 8 xs.length := by
    show (if (8 : Int) < 0 then ((8 : Int) + ((xs.length : Nat) : Int)).toNat else min (8 : Int).toNat xs.length) = _
    rw [if_neg (by decide)]
    rfl
  rw [e, HT.sIx_none, List.drop_zero, Nat.sub_zero]
  by_cases h : 8 ≤ xs.length
  · rw [Nat.min_eq_left h]
  · rw [Nat.min_eq_right (by omega), List.take_of_length_le (by omega), List.take_of_length_le (by omega)]
theorem put_new {kvs : List (Key × V)} {k : Key} {v : V} (h : k ∉ kvs.map (·.1)) : putK kvs k v = kvs ++ [(k, v)] := by
  refine putK_new _ ?_
  cases e : valV kvs k with
  | none => rfl
  | some x => exact absurd (valV_in e) h
section
variable {P : Program} {w : World} {K : PySem.W.Frag} {mg : Str → Option Value} {base : Heap}
def Fits (z : Str) : Prop := z.length ≤ 100000 ∧ ∀ r ∈ Txt.split z sNl, (Txt.split r sSp).length ≤ 4000
def sp_nodes_of : Sp := fun vs H Q _ => ∃ (z : Str) (ns : List Nd), vs = [.str z] ∧ Fits z ∧ parseT z = some ns ∧ ∀ t H', Same H H' → NodesAt H' t ns → Q (.ref t) H'
theorem ok_nodes_of {f : Addr} {fd : FuncData} (F : Fun K "_nodes_of" "_nodes_of" s_nodes_of f fd) (T : Txt0 K mg) (GN : OkF P w K mg base CX0 "_node_of" p_node_of 2 sp_node_of) :
    FnOk P w K mg base CX0 3 f fd p_nodes_of sp_nodes_of := by
  refine F.ok sc_nodes_of (fun vs H Q E h => ?_) (fun cdv A outer s H vs Q E hr h => ?_)
  · obtain ⟨z, ns, rfl, _⟩ := h
    rfl
  · obtain ⟨z, ns, rfl, ⟨hz, hw⟩, hp, k⟩ := h
    obtain ⟨t8, e8⟩ := T.most
    refine ⟨_, pss_cons (ps_if (pt_not (pt_val (pe_callB call_isi (by rfl) T.isinstance boot_isinstance (pa_cons (pv 0) (pa_cons (pe_bltn (by rfl) T.str boot_str (v := .ty "str") rfl) pa_nil))))) (pss_one ps_never) pss_nil)
      (pss_cons (ps_set (i := 1) sc_nodes_of.nd rfl (Or.inl rfl) (pe_split (pv 0) pe_str))
      (pss_cons (ps_setDc (i := 2) (own := [("number", 7)]) (g := gName 7) (tt := tYes) rfl sc_nodes_of.nd rfl rfl (sw_dict rfl rfl rfl (by decide +kernel))
          (pi_range1 (by rfl) T.range (pa_cons (pe_callB call_len_seq (by rfl) T.len PySem.boot_len (pa_cons (pv 1) pa_nil)) pa_nil)) (blkOk_by (N := n_nodes_of) (sc := defScope s_nodes_of) (by decide +kernel))
          (fun _ _ _ _ _ => pg_name (i := 7) sc_nodes_of.nd rfl (Or.inl rfl)) (fun _ _ _ _ _ => pts_nil)
          (fun _ _ _ _ _ => pe_callTy call_str_int (by rfl) T.str boot_str (pa_cons (pv 7) pa_nil)) (fun _ _ _ _ _ => pv 7))
      (pss_cons (ps_set (i := 3) sc_nodes_of.nd rfl (Or.inl rfl) (pe_lst pa_nil))
      (pss_cons (ps_for PassesOwn.never rfl (pi_enum (by rfl) T.enumerate (pa_cons (pe_slice sl_list (pv 1) po_none (po_some (pe_glob (v := .int 8) rfl e8 ⟨_, rfl⟩))) pa_nil))
          (pg_tup (by rfl) (pgs_cons (pg_name (i := 4) sc_nodes_of.nd rfl (Or.inl rfl)) (pgs_cons (pg_name (i := 5) sc_nodes_of.nd rfl (Or.inl rfl)) pgs_nil)))
        (pss_cons (ps_set (i := 6) sc_nodes_of.nd rfl (Or.inl rfl) (pe_fn GN (hr.mono (by decide)) rfl pass0 (pa_cons (pv 5) (pa_cons (pv 2) pa_nil))))
        (pss_cons (ps_if (pt_cmpR op_isN (pv 6) pe_non (nomark _)) (pss_one ps_never) pss_nil)
        (pss_one (ps_expr (pe_bm PySem.F.plainAttrs_list PySem.F.slot_list_append PySem.F.type_list_append mt_append (pv 3) (pa_cons (pv 6) pa_nil)))))))
      (pss_cons (ps_if (pt_cmpR op_gt (pe_callB call_len_seq (by rfl) T.len PySem.boot_len (pa_cons (pv 1) pa_nil)) (pe_glob (v := .int 8) rfl e8 ⟨_, rfl⟩) (nomark _)) (pss_one ps_never) pss_nil)
      (pss_one (ps_ret (pe_callTy call_tuple_of (by rfl) T.tuple (by decide +kernel) (pa_cons (pv 3) pa_nil))))))))), ?_⟩
    refine ⟨_, rfl, _, _, _, _, true, rfl, .ty _, .base (.str _), kit_ty (by decide +kernel), _, rfl, iteF ?_⟩
    refine ⟨_, rfl, ⟨_, rfl⟩, _, sNl, rfl, rfl, (by decide +kernel), (by rw [sizeLine_eq]; omega), fun p hpn => ?_⟩
    have s1 := same_new (o := .lst ((Txt.split z sNl).map V.str)) hpn
    unfold parseT at hp
    dsimp only at hp
    generalize hrows : Txt.split z sNl = rows at hp hw s1 ⊢
    have hr8 : rows.length ≤ 8 := by
      by_cases h8 : rows.length ≤ 8
      · exact h8
      · rw [if_neg h8] at hp
        cases hp
    rw [if_pos hr8] at hp
    obtain ⟨hlen, hget⟩ := nodesT_get hp
    have hrow : ∀ r ∈ rows, r.length ≤ 100000 := fun r hr' => by
      have := part_len (x := z) (y := sNl) (z := r) (by rw [hrows]; exact hr')
      omega
    refine ⟨_, rfl, p, _, rfl, .inl (SqL.of upd_same), _, rfl, (by rw [List.length_map]; omega), (by rw [List.length_map]; omega), fun d hd => ?_⟩
    rw [List.length_map, Int.toNat_natCast]
    refine dc_it walk_range (fun i H' => Same (upd H p (.lst (rows.map V.str))) H' ∧ H' d = some (.dK (numKvs i))) ⟨same_new hd, upd_same⟩ (fun _ _ _ _ => trivial) ?_ ?_
    · rintro i x H2 H3 hi ⟨s2, h2⟩ ⟨rfl, rfl⟩
      refine ⟨rfl, _, rfl, (0 + (i : Int)), rfl, ?_, _, rfl, numKvs i, Sum.inr (natS i), ?_, h2, ?_, ?_, ?_⟩
      · rw [Int.zero_add]
        show i.log2 < 1920
        exact Nat.lt_of_le_of_lt (Nat.log2_le_self i) (by omega)
      · rw [Int.zero_add]
        rfl
      · unfold numKvs
        rw [List.length_map, List.length_range, sizeLine_eq]
        omega
      · exact same_upd s2 hd
      · rw [upd_same, put_new]
        · show some (HO.dK (numKvs i ++ [(Sum.inr (natS i), V.int (0 + (i : Int)))])) = _
          unfold numKvs
          rw [List.range_succ, List.map_append, Int.zero_add]
          rfl
        · unfold numKvs
          rw [List.map_map]
          intro hm
          obtain ⟨j, hj, e⟩ := List.mem_map.mp hm
          have e' : natS j = natS i := Sum.inr.inj e
          have := natS_inj e'
          have := List.mem_range.mp hj
          omega
    rintro H2 ⟨s2, hd2⟩
    have s02 := s1.trans s2
    have hp2 := s2 _ _ (upd_same (H := H) (a := p) (o := .lst (rows.map V.str)))
    refine ⟨Nat.zero_le _, fun l hl => ?_⟩
    have hlD : d ≠ l := ne_of_none hd2 hl
    have hlP : p ≠ l := ne_of_none hp2 hl
    have hp3 : (upd H2 l (.lst [])) p = some (.lst (rows.map V.str)) := by rw [upd_ne hlP]; exact hp2
    refine ⟨_, rfl, 8, rfl, p, _, rfl, SqL.of hp3, fun q hq => ?_⟩
    rw [cut_eight, List.take_of_length_le (by rw [List.length_map]; exact hr8)]
    have hlq : l ≠ q := fun e => by
      rw [← e, upd_same] at hq
      cases hq
    have hpq : p ≠ q := ne_of_none hp3 hq
    have hdq : d ≠ q := ne_of_none (by rw [upd_ne hlD]; exact hd2) hq
    generalize hHL : upd (upd H2 l (.lst [])) q (.lst (rows.map V.str)) = HL
    have eq_q : HL q = some (.lst (rows.map V.str)) := by rw [← hHL, upd_same]
    have eq_l : HL l = some (.lst []) := by rw [← hHL, upd_ne hlq, upd_same]
    have eq_p : HL p = some (.lst (rows.map V.str)) := by rw [← hHL, upd_ne hpq]; exact hp3
    have eq_d : HL d = some (.dK (numKvs rows.length)) := by rw [← hHL, upd_ne hdq, upd_ne hlD]; exact hd2
    have sHL : Same H HL := by
      rw [← hHL]
      exact (s02.trans (same_new hl)).trans (same_new hq)
    have hl0 : H l = none := s02.free hl
    refine ⟨q, _, rfl, SqL.of eq_q, for_it (walk_enum (K := K) (a := q) (xs := rows.map V.str)) (fun i σ H' => ∃ (as : List Addr) (v4 v5 v6 v7 : Option V), σ = [some (.str z), some (.ref p), some (.ref d), some (.ref l), v4, v5, v6, v7] ∧
        But l HL H' ∧ H' l = some (.lst (as.map V.ref)) ∧ as.length = i ∧ ∀ (j : Nat) (a : Addr) (n : Nd), as[j]? = some a → ns[j]? = some n → NodeAt H' a n)
      ⟨[], none, none, none, none, rfl, But.refl _ _, eq_l, rfl, fun j a n h => by simp at h⟩ (fun i σ H' _ ⟨_, _, _, _, _, _, hb, _⟩ => SqL.of (hb _ _ hlq.symm eq_q)) ?_ ?_⟩
    · rintro i x σ H3 H4 hi ⟨as, v4, v5, v6, v7, rfl, hb, hla, hai, hna⟩ ⟨T1, x1, x2, rfl, hT1, rfl, hx1, hx2⟩
      rw [List.length_map] at hi
      obtain rfl : V.int (i : Nat) = x1 := Option.some.inj hx1
      have hri : rows[i]? = some rows[i] := List.getElem?_eq_getElem hi
      replace hx2 : (rows.map V.str)[i]? = some x2 := hx2
      rw [List.getElem?_map, hri] at hx2
      obtain rfl : V.str rows[i] = x2 := Option.some.inj hx2
      obtain ⟨n, hn1, hn2⟩ := hget i _ hri
      have hd4 : (upd H3 T1 (.tup [.int (i : Nat), .str rows[i]])) d = some (.dK (numKvs rows.length)) := same_new hT1 _ _ (hb _ _ hlD eq_d)
      refine ⟨T1, _, rfl, SqT.of upd_same, rfl, _, _, rfl, _, _, rfl, rfl, _, rfl, _, rfl, rows[i], d, rows.length, rfl, hd4, by omega, hrow _ (List.getElem_mem hi), hw _ (List.getElem_mem hi), fun e => ?_, fun n' en a H5 s5 hna5 => ?_⟩
      · rw [hn2] at e
        cases e
      · obtain rfl : n = n' := Option.some.inj (hn2.symm.trans en)
        have s35 := (same_new hT1).trans s5
        have hla5 := s35 _ _ hla
        refine ⟨_, rfl, rfl, _, rfl, iteF ⟨_, rfl, .inl ⟨rfl, _, SqL.of hla5⟩, _, rfl, l, _, _, rfl, rfl, hla5, ?_, ?_⟩⟩
        · rw [List.length_map, sizeLine_eq]
          omega
        · refine ⟨as ++ [a], _, _, _, _, rfl, (hb.then s35).put, by rw [upd_same, List.map_append]; rfl, by rw [List.length_append, hai]; rfl, fun j b m hj hm => ?_⟩
          have hbut : But l H5 (upd H5 l (.lst (as.map V.ref ++ [.ref a]))) := (But.refl l H5).put
          by_cases hj' : j < as.length
          · rw [List.getElem?_append_left hj'] at hj
            exact ((hna j b m hj hm).same s35).but hbut ⟨_, hla5⟩
          · have ej : j = as.length := by
              have := (List.getElem?_eq_some_iff.mp hj).1
              rw [List.length_append, List.length_singleton] at this
              omega
            subst ej
            rw [List.getElem?_append_right (Nat.le_refl _), Nat.sub_self] at hj
            obtain rfl : a = b := by simpa using hj
            rw [hai] at hm
            obtain rfl : n = m := Option.some.inj (hn1.symm.trans hm)
            exact hna5.but hbut ⟨_, hla5⟩
    · rintro σ H3 ⟨as, v4, v5, v6, v7, rfl, hb, hla, hai, hna⟩
      rw [List.length_map] at hai
      have hp5 := hb _ _ hlP eq_p
      refine ⟨_, rfl, p, _, rfl, .inl (SqL.of hp5), _, _, rfl, rfl, _, rfl, ?_⟩
      rw [List.length_map, decide_eq_false (p := (8 : Int) < ((rows.length : Nat) : Int)) (by omega)]
      refine iteF ⟨_, rfl, l, _, rfl, .inl ⟨SqL.of hla, fun t ht => ?_⟩⟩
      refine k t _ ((hb.same sHL hl0).trans (same_new ht)) ⟨as, upd_same, ?_⟩
      exact NodesIn.same ⟨by rw [hai, hlen], hna⟩ (same_new ht)
end
end Vf

set_option maxRecDepth 100000
set_option maxHeartbeats 8000000
namespace Vf
open PySem PySem.Spec PyProof.Rows L2
theorem pn_ne : ¬ (("nodes" : Str) = "_text") := by decide +kernel
def pflds (t : Addr) (z : Str) : List (Str × V) := [("nodes", V.ref t), ("_text", V.str z)]
theorem pflds_nodes (t : Addr) (z : Str) : (pflds t z).lookup ("nodes" : Str) = some (.ref t) := by
  unfold pflds
  rw [List.lookup_cons_self]
theorem pflds_text (t : Addr) (z : Str) : (pflds t z).lookup ("_text" : Str) = some (.str z) := by
  unfold pflds
  have e : (("_text" : Str) == ("nodes" : Str)) = false := by decide +kernel
  rw [List.lookup_cons, e]
  simp only [List.lookup_cons_self]
theorem pflds_put (t : Addr) (z : Str) : putF "_text" (.str z) (putF "nodes" (.ref t) []) = pflds t z := by
  show (if ("nodes" : Str) = "_text" then [(("nodes" : Str), V.str z)] else (("nodes" : Str), V.ref t) :: putF "_text" (.str z) []) = _
  rw [if_neg pn_ne]
  rfl
def ProgAt (C : Addr) (H : Hp) (p : Addr) (z : Str) (ns : List Nd) : Prop := ∃ dx t, H p = some (.ins C dx (pflds t z)) ∧ NodesAt H t ns
theorem ProgAt.same {C : Addr} {H H' : Hp} {p : Addr} {z : Str} {ns : List Nd} (h : ProgAt C H p z ns) (s : Same H H') : ProgAt C H' p z ns := by
  obtain ⟨dx, t, h1, h2⟩ := h
  exact ⟨dx, t, s _ _ h1, h2.same s⟩
structure TxtP (K : PySem.W.Frag) (mg : Str → Option Value) (C : Addr) : Prop where
  cl : Cls K C
  nN : NoAttr K C "nodes"
  nT : NoAttr K C "_text"
  mgC : mg "Program" = some (.ref C)
section
variable {P : Program} {w : World} {K : PySem.W.Frag} {mg : Str → Option Value} {base : Heap}
def sp_Program_init (C : Addr) : Sp := fun vs H Q _ => ∃ (p dx : Addr) (z : Str) (ns : List Nd), vs = [.ref p, .str z] ∧ H p = some (.ins C dx []) ∧ Fits z ∧ parseT z = some ns ∧
  ∀ t H', But p H H' → H' p = some (.ins C dx (pflds t z)) → NodesAt H' t ns → Q .non H'
theorem ok_Program_init {f C : Addr} {fd : FuncData} (F : Fun K "__init__" "Program.__init__" s_Program_init f fd) (T : TxtP K mg C) (GN : OkF P w K mg base CX0 "_nodes_of" p_nodes_of 3 sp_nodes_of) :
    FnOk P w K mg base CX0 4 f fd p_Program_init (sp_Program_init C) := by
  refine F.ok sc_Program_init (fun vs H Q E h => ?_) (fun cdv A outer s H vs Q E hr h => ?_)
  · obtain ⟨p, dx, z, ns, rfl, _⟩ := h
    rfl
  · obtain ⟨p, dx, z, ns, rfl, hp, hf, hps, k⟩ := h
    refine ⟨_, pss_cons (ps_fld (pv 0) (pe_fn GN hr rfl pass0 (pa_cons (pv 1) pa_nil)) rfl) (pss_one (ps_fld (pv 0) (pv 1) rfl)), ?_⟩
    refine ⟨_, rfl, z, ns, rfl, hf, hps, fun t H2 s2 hn => ?_⟩
    have hp2 := s2 _ _ hp
    refine ⟨_, rfl, p, C, dx, [], rfl, hp2, T.cl, T.nN, (by show 0 < 1000; decide), _, rfl, _, rfl, p, C, dx, _, rfl, upd_same, T.cl, T.nT, (by show 1 < 1000; decide), ?_⟩
    have hb : But p H2 (upd (upd H2 p (.ins C dx (putF "nodes" (.ref t) []))) p (.ins C dx (putF "_text" (.str z) (putF "nodes" (.ref t) [])))) := ((But.refl p H2).put).put
    refine k t _ ((Same.but s2).trans hb) (by rw [upd_same, pflds_put]) ?_
    obtain ⟨as, ht, hl, ha⟩ := hn
    refine ⟨as, hb _ _ (ne_of ht hp2 (by intro z; cases z)) ht, hl, fun i a n h1 h2 => ?_⟩
    obtain ⟨t', g1, g2⟩ := ha i a n h1 h2
    exact ⟨t', hb _ _ (ne_of g1 hp2 (by intro z; cases z)) g1, hb _ _ (ne_of g2 hp2 (by intro z; cases z)) g2⟩
def sp_parse (C : Addr) : Sp := fun vs H Q _ => ∃ (z : Str) (ns : List Nd), vs = [.str z] ∧ Fits z ∧ parseT z = some ns ∧ ∀ p H', Same H H' → H p = none → ProgAt C H' p z ns → Q (.ref p) H'
theorem ok_parse {f C fI : Addr} {fd fdI : FuncData} (F : Fun K "parse" "Program.parse" s_Program_parse f fd) (T : TxtP K mg C) (M : Mk K C fI) (GI : FnOk P w K mg base CX0 4 fI fdI p_Program_init (sp_Program_init C)) (bI : Binds K fdI p_Program_init []) :
    FnOk P w K mg base CX0 6 f fd p_Program_parse (sp_parse C) := by
  refine F.ok sc_Program_parse (fun vs H Q E h => ?_) (fun cdv A outer s H vs Q E hr h => ?_)
  · obtain ⟨z, ns, rfl, _⟩ := h
    rfl
  · obtain ⟨z, ns, rfl, hf, hps, k⟩ := h
    refine ⟨_, pss_one (ps_ret (pe_make M GI hr rfl T.mgC bI .nil pass0 (pa_cons (pv 0) pa_nil))), ?_⟩
    refine ⟨_, rfl, fun x dx hx hdx hne => ?_⟩
    have s0 : Same H (upd (upd H dx (.own x)) x (.ins C dx [])) := same_upd (same_new hdx) hx
    refine ⟨x, dx, z, ns, rfl, upd_same, hf, hps, fun t H' hb hp hn => ⟨rfl, ?_⟩⟩
    exact k x H' (hb.same s0 hx) hx ⟨dx, t, hp, hn⟩
end
end Vf

set_option maxRecDepth 100000
set_option maxHeartbeats 8000000
namespace Vf
open PySem PySem.Spec PyProof.Rows L2
structure TxtL (mg : Str → Option Value) : Prop where
  list : mg "list" = none
  max : mg "max" = none
  abs : mg "abs" = none
  int : mg "int" = none
/-- the draws at p -/
def FeedAt (H : Hp) (p : Addr) : Prop := ∃ d st : Int, H p = some (.lst [.int d, .int st]) ∧ 0 ≤ d ∧ 0 ≤ st
theorem FeedAt.same {H H' : Hp} {p : Addr} (h : FeedAt H p) (s : Same H H') : FeedAt H' p := by
  obtain ⟨d, st, h1, h2, h3⟩ := h
  exact ⟨d, st, s _ _ h1, h2, h3⟩
theorem cut_at {xs : List V} {k : Nat} : cutV xs (some (k : Int)) (some ((k : Int) + 1)) = (xs.drop k).take 1 := by
  unfold cutV
  have e : ((k : Int) + 1) = ((k + 1 : Nat) : Int) := rfl
  rw [e, HT.sIx_nat, HT.sIx_nat]
  by_cases h : k < xs.length
  · rw [Nat.min_eq_left (by omega), Nat.min_eq_left (by omega), Nat.add_sub_cancel_left]
  · rw [Nat.min_eq_right (by omega), Nat.min_eq_right (by omega), Nat.sub_self, List.take_zero, List.drop_of_length_le (by omega), List.take_nil]
section
variable {P : Program} {w : World} {K : PySem.W.Frag} {mg : Str → Option Value} {base : Heap}
def sp_law_feed (K : PySem.W.Frag) : Sp := fun vs H Q _ => ∃ (a : Addr) (ns : List Int) (k : Nat), vs = [.ref a, .int (k : Int)] ∧ SqL K H a (ns.map V.int) ∧ k ≤ 1000 ∧ ∀ p H', Same H H' → H p = none → FeedAt H' p → Q (.ref p) H'
theorem ok_law_feed {f : Addr} {fd : FuncData} (F : Fun K "_law_feed" "_law_feed" s_law_feed f fd) (T : TxtL mg) : FnOk P w K mg base CX0 1 f fd p_law_feed (sp_law_feed K) := by
  refine F.ok sc_law_feed (fun vs H Q E h => ?_) (fun cdv A outer s H vs Q E hr h => ?_)
  · obtain ⟨a, ns, k, rfl, _⟩ := h
    rfl
  · obtain ⟨a, ns, k, rfl, hS, hk, q⟩ := h
    refine ⟨_, pss_cons (ps_set (i := 2) sc_law_feed.nd rfl (Or.inl rfl) (pe_ix ix_list (pe_op op_cat (pe_callTy call_list_of (by rfl) T.list (by decide +kernel) (pa_cons (pe_slice sl_list (pv 0) (po_some (pv 1)) (po_some (pe_op op_add (pv 1) pe_int))) pa_nil))
          (pe_lst (pa_cons (pe_op op_add (pe_op op_mul pe_int (pv 1)) pe_int) pa_nil))) pe_int (fun _ _ => rfl)))
      (pss_cons (ps_set (i := 3) sc_law_feed.nd rfl (Or.inl rfl) (pe_callB (call_max2 rfl) (by rfl) T.max (by decide +kernel) (pa_cons pe_int (pa_cons (pe_op op_sub (pe_callB call_abs (by rfl) T.abs (by decide +kernel) (pa_cons (pv 2) pa_nil)) (pe_op op_pow pe_int pe_int)) pa_nil))))
      (pss_one (ps_ret (pe_lst (pa_cons (pv 3) (pa_cons (pe_op op_mod (pe_callTy call_int1 (by rfl) T.int (by decide +kernel) (pa_cons
          (pe_op op_add (pe_op op_add (pe_op op_mul (pe_op op_mod (pe_callTy call_int1 (by rfl) T.int (by decide +kernel) (pa_cons (pe_callB call_abs (by rfl) T.abs (by decide +kernel) (pa_cons (pv 2) pa_nil)) pa_nil)) pe_int) pe_int) (pe_op op_mul pe_int (pv 1))) pe_int) pa_nil)) pe_int) pa_nil)))))), ?_⟩
    refine ⟨_, rfl, _, rfl, k, rfl, _, rfl, k, 1, rfl, rfl, _, rfl, a, _, rfl, hS, fun p1 h1 => ?_⟩
    have s1 := same_new (o := .lst (cutV (ns.map V.int) (some (k : Int)) (some ((k : Int) + 1)))) h1
    refine ⟨p1, _, rfl, .inl (SqL.of upd_same), fun p2 h2 => ?_⟩
    have s2 := same_new (o := .lst (cutV (ns.map V.int) (some (k : Int)) (some ((k : Int) + 1)))) h2
    refine ⟨_, rfl, 71, k, rfl, rfl, .inl (by decide), _, _, rfl, rfl, (by show 1 ≤ sizeLine; decide), fun p3 h3 => ?_⟩
    have h23 : p2 ≠ p3 := fun e => by
      rw [← e, upd_same] at h3
      cases h3
    refine ⟨p2, p3, _, _, rfl, rfl, Eq.trans (upd_ne h23) upd_same, upd_same, ?_, fun p4 h4 => ?_⟩
    · rw [cut_at, List.length_take, sizeLine_eq]
      show min 1 _ + 1 ≤ _
      omega
    simp only [cut_at] at s1 s2 h3 h4 ⊢
    obtain ⟨sd, rest, hsd⟩ : ∃ (sd : Int) (rest : List V), (((ns.map V.int).drop k).take 1) ++ [V.int (71 * k + 23)] = V.int sd :: rest := by
      by_cases hkn : k < ns.length
      · refine ⟨ns[k], [V.int (71 * k + 23)], ?_⟩
        rw [List.drop_eq_getElem_cons (by rw [List.length_map]; exact hkn), List.getElem_map]
        rfl
      · refine ⟨71 * k + 23, [], ?_⟩
        rw [List.drop_of_length_le (by rw [List.length_map]; omega)]
        rfl
    refine ⟨p4, _, (0 : Int), .int sd, rfl, rfl, SqL.of upd_same, at_of (j := 0) rfl (by show (_ ++ _)[0]? = _; rw [hsd]; rfl), ?_⟩
    have pos64 : ∀ x : Int, -(2 ^ 64) < x % 1000003 ∧ x % 1000003 < 2 ^ 64 := fun x => by
      have h1 := Int.emod_nonneg x (by decide : (1000003 : Int) ≠ 0)
      have h2 := Int.emod_lt_of_pos x (by decide : (0 : Int) < 1000003)
      omega
    have z18 : (0 : Int) ≤ 18 ∧ (18 : Int) ≤ 1000000 ∧ (10 : Int).natAbs < 2 ^ 64 := by decide
    refine ⟨_, rfl, sd, rfl, 10, 18, rfl, rfl, z18, _, _, rfl, rfl, _, _, rfl, ?_⟩
    refine ⟨_, rfl, _, rfl, sd, rfl, .inl ⟨_, rfl, _, _, rfl, rfl, (by show (0 : Int) < 1000003; decide), _, _, rfl, rfl, .inl (pos64 _), _, rfl, 31, k, rfl, rfl, .inl (by decide), _, _, rfl, rfl, _, _, rfl, rfl,
      .inl ⟨_, rfl, _, _, rfl, rfl, (by show (0 : Int) < 1000033; decide), (by show 2 ≤ sizeLine; decide), fun p hp => ?_⟩⟩⟩
    refine q p _ ((((s1.trans s2).trans (same_new h3)).trans (same_new h4)).trans (same_new hp)) (Same.free (((s1.trans s2).trans (same_new h3)).trans (same_new h4)) hp) ⟨_, _, upd_same, ?_, Int.emod_nonneg _ (by decide)⟩
    split <;> omega
def sp_law_take : Sp := fun vs H Q _ => ∃ (p : Addr) (n : Nat), vs = [.ref p, .int (n : Int)] ∧ FeedAt H p ∧ 1 ≤ n ∧ n ≤ 1000000 ∧ ∀ (r : Nat) H', r < n → But p H H' → FeedAt H' p → Q (.int (r : Int)) H'
theorem ok_law_take {f : Addr} {fd : FuncData} (F : Fun K "_law_take" "_law_take" s_law_take f fd) (T : TxtL mg) : FnOk P w K mg base CX0 1 f fd p_law_take sp_law_take := by
  refine F.ok sc_law_take (fun vs H Q E h => ?_) (fun cdv A outer s H vs Q E hr h => ?_)
  · obtain ⟨p, n, rfl, _⟩ := h
    rfl
  · obtain ⟨p, n, rfl, ⟨d, st, hp, hd, hst⟩, h1, h2, k⟩ := h
    refine ⟨_, pss_cons (ps_if (pt_cmpR op_gt (pe_ix ix_list (pv 0) pe_int (fun _ _ => rfl)) pe_int (nomark _))
        (pss_cons (ps_set (i := 2) sc_law_take.nd rfl (Or.inl rfl) (pe_op op_mod (pe_callTy call_int1 (by rfl) T.int (by decide +kernel) (pa_cons (pe_ix ix_list (pv 0) pe_int (fun _ _ => rfl)) pa_nil)) (pv 1)))
        (pss_cons (ps_asg (pe_op op_fdivN (pe_ix ix_list (pv 0) pe_int (fun _ _ => rfl)) (pv 1)) (pg_sub (pv 0) pe_int set_list))
        (pss_one (ps_ret (pv 2))))) pss_nil)
      (pss_cons (ps_asg (pe_op op_mod (pe_callTy call_int1 (by rfl) T.int (by decide +kernel) (pa_cons (pe_op op_add (pe_op op_mul (pe_ix ix_list (pv 0) pe_int (fun _ _ => rfl)) pe_int) pe_int) pa_nil)) pe_int) (pg_sub (pv 0) pe_int set_list))
      (pss_one (ps_ret (pe_op op_mod (pe_callTy call_int1 (by rfl) T.int (by decide +kernel) (pa_cons (pe_op op_fdivN (pe_ix ix_list (pv 0) pe_int (fun _ _ => rfl)) pe_int) pa_nil)) (pv 1))))), ?_⟩
    refine ⟨_, rfl, p, _, (0 : Int), .int d, rfl, rfl, SqL.of hp, at_of (j := 0) rfl rfl, _, _, rfl, rfl, _, rfl, ?_⟩
    by_cases hd0 : 0 < d
    · rw [decide_eq_true hd0]
      refine iteT ⟨_, rfl, p, _, (0 : Int), .int d, rfl, rfl, SqL.of hp, at_of (j := 0) rfl rfl, .inl ⟨d, rfl, _, rfl, d, n, rfl, rfl, (by omega), ?_⟩⟩
      refine ⟨_, rfl, p, _, (0 : Int), .int d, rfl, rfl, SqL.of hp, at_of (j := 0) rfl rfl, _, rfl, d, n, rfl, rfl, ⟨by omega, by omega⟩, _, rfl, ?_⟩
      refine ⟨p, _, (0 : Int), 0, rfl, rfl, hp, rfl, ?_⟩
      refine ⟨_, rfl, ?_⟩
      have hm1 := Int.emod_nonneg d (b := (n : Int)) (by omega)
      have hm2 := Int.emod_lt_of_pos d (b := (n : Int)) (by omega)
      obtain ⟨r, hr⟩ : ∃ r : Nat, d % (n : Int) = (r : Int) := ⟨(d % (n : Int)).toNat, by omega⟩
      show Q (.int (d % (n : Int))) _
      rw [hr]
      refine k r _ (by omega) (But.refl p H).put ⟨d.fdiv n, st, upd_same, ?_, hst⟩
      exact Int.fdiv_nonneg hd (by omega)
    · rw [decide_eq_false hd0]
      refine iteF ⟨_, rfl, p, _, (1 : Int), .int st, rfl, rfl, SqL.of hp, at_of (j := 1) rfl rfl, _, _, rfl, rfl, .inr (by decide), _, _, rfl, rfl,
        .inl ⟨_, rfl, _, _, rfl, rfl, (by show (0 : Int) < 4294967311; decide), _, rfl, p, _, (1 : Int), 1, rfl, rfl, hp, rfl, ?_⟩⟩
      have hp2 : (upd H p (.lst ([V.int d, V.int st].set 1 (.int ((st * 69069 + 12345) % 4294967311))))) p = some (.lst [.int d, .int ((st * 69069 + 12345) % 4294967311)]) := upd_same
      have hst2 := Int.emod_nonneg (st * 69069 + 12345) (by decide : (4294967311 : Int) ≠ 0)
      refine ⟨_, rfl, p, _, (1 : Int), .int ((st * 69069 + 12345) % 4294967311), rfl, rfl, SqL.of hp2, at_of (j := 1) rfl rfl, ((st * 69069 + 12345) % 4294967311), 65536, rfl, rfl, ⟨by decide, by decide⟩, .inl ⟨_, rfl, _, rfl, _, (n : Int), rfl, rfl, by omega, ?_⟩⟩
      have hm1 := Int.emod_nonneg (((st * 69069 + 12345) % 4294967311).fdiv 65536) (b := (n : Int)) (by omega)
      have hm2 := Int.emod_lt_of_pos (((st * 69069 + 12345) % 4294967311).fdiv 65536) (b := (n : Int)) (by omega)
      obtain ⟨r, hr⟩ : ∃ r : Nat, (((st * 69069 + 12345) % 4294967311).fdiv 65536) % (n : Int) = (r : Int) := ⟨((((st * 69069 + 12345) % 4294967311).fdiv 65536) % (n : Int)).toNat, by omega⟩
      show Q (.int ((((st * 69069 + 12345) % 4294967311).fdiv 65536) % (n : Int))) _
      rw [hr]
      exact k r _ (by omega) (But.refl p H).put ⟨d, ((st * 69069 + 12345) % 4294967311), hp2, hd, hst2⟩
def sp_law_pick (K : PySem.W.Frag) : Sp := fun vs H Q _ => ∃ (p c : Addr) (xs : List V), vs = [.ref p, .ref c] ∧ FeedAt H p ∧ p ≠ c ∧ SqL K H c xs ∧ 1 ≤ xs.length ∧ xs.length ≤ 1000000 ∧
  ∀ (r : Nat) (v : V) H', xs[r]? = some v → But p H H' → FeedAt H' p → Q v H'
theorem SqL.but {K : PySem.W.Frag} {H H' : Hp} {a p : Addr} {xs : List V} (h : SqL K H a xs) (s : But p H H') (hn : a ≠ p) : SqL K H' a xs := by
  rcases h with (h | ⟨o, h⟩) | h
  · exact .inl (.inl (s _ _ hn h))
  · exact .inl (.inr ⟨o, s _ _ hn h⟩)
  · exact .inr h
theorem ok_law_pick {f : Addr} {fd : FuncData} (F : Fun K "_law_pick" "_law_pick" s_law_pick f fd) (T0 : Txt0 K mg) (GT : OkF P w K mg base CX0 "_law_take" p_law_take 1 sp_law_take) : FnOk P w K mg base CX0 2 f fd p_law_pick (sp_law_pick K) := by
  refine F.ok sc_law_pick (fun vs H Q E h => ?_) (fun cdv A outer s H vs Q E hr h => ?_)
  · obtain ⟨p, c, xs, rfl, _⟩ := h
    rfl
  · obtain ⟨p, c, xs, rfl, hp, hpc, hS, h1, h2, k⟩ := h
    refine ⟨_, pss_one (ps_ret (pe_ix ix_list (pv 1) (pe_fn GT hr rfl pass0 (pa_cons (pv 0) (pa_cons (pe_callB call_len_seq (by rfl) T0.len PySem.boot_len (pa_cons (pv 1) pa_nil)) pa_nil))) (fun _ _ => rfl))), ?_⟩
    refine ⟨_, rfl, _, rfl, _, rfl, c, xs, rfl, .inl hS, p, xs.length, rfl, hp, h1, h2, fun r H2 hr2 hb hp2 => ?_⟩
    exact ⟨c, xs, (r : Int), xs[r], rfl, rfl, Vf.SqL.but hS hb hpc.symm, at_of rfl (List.getElem?_eq_getElem hr2), k r _ H2 (List.getElem?_eq_getElem hr2) hb hp2⟩
end
end Vf

set_option maxRecDepth 100000
set_option maxHeartbeats 8000000
namespace Vf
open PySem PySem.Spec PyProof.Rows L2
theorem But.new {p l : Addr} {H H' : Hp} {o : HO} (b : But p H H') (h : H l = none) : But p H (upd H' l o) := fun c u hc e => by
  rw [upd_ne (ne_of_none e h)]
  exact b c u hc e
theorem FeedAt.put {H : Hp} {p l : Addr} {o : HO} (h : FeedAt H p) (hn : p ≠ l) : FeedAt (upd H l o) p := by
  obtain ⟨d, st, h1, h2, h3⟩ := h
  exact ⟨d, st, by rw [upd_ne hn]; exact h1, h2, h3⟩
theorem FeedAt.ne {H : Hp} {p l : Addr} (h : FeedAt H p) (hl : H l = none) : p ≠ l := by
  obtain ⟨d, st, h1, _⟩ := h
  exact ne_of_none h1 hl
def low (z : Str) : Prop := ∀ c ∈ z.cps.toList, 97 ≤ c ∧ c ≤ 122
theorem name_of_low {z : Str} (h : low z) (h1 : 1 ≤ z.length) (h2 : z.length ≤ 8) : isNameT z = true := by
  unfold isNameT
  rw [decide_eq_true h1, decide_eq_true h2, Bool.true_and, Bool.true_and, List.all_eq_true]
  intro c hc
  have := h c hc
  simpa using this
def sAbc : Str := "abcdefghijklmnopqrstuvwxyz"
theorem abc_low : low sAbc := fun c hc => by
  have q : (sAbc.cps.toList.all fun c => decide (97 ≤ c) && decide (c ≤ 122)) = true := by decide +kernel
  have := List.all_eq_true.mp q c hc
  simpa using this
section
variable {P : Program} {w : World} {K : PySem.W.Frag} {mg : Str → Option Value} {base : Heap}
def sp_law_names : Sp := fun vs H Q _ => ∃ p : Addr, vs = [.ref p] ∧ FeedAt H p ∧ ∀ (l : Addr) (nm : List Str) H', But p H H' → FeedAt H' p → H l = none → p ≠ l → H' l = some (.lst (nm.map V.str)) → nm ≠ [] → nm.length ≤ 8 → (∀ z ∈ nm, isNameT z = true) → Q (.ref l) H'
theorem ok_law_names {f : Addr} {fd : FuncData} (F : Fun K "_law_names" "_law_names" s_law_names f fd) (T0 : Txt0 K mg) (T : TxtL mg) (GT : OkF P w K mg base CX0 "_law_take" p_law_take 1 sp_law_take) (GP : OkF P w K mg base CX0 "_law_pick" p_law_pick 2 (sp_law_pick K)) :
    FnOk P w K mg base CX0 3 f fd p_law_names sp_law_names := by
  refine F.ok sc_law_names (fun vs H Q E h => ?_) (fun cdv A outer s H vs Q E hr h => ?_)
  · obtain ⟨p, rfl, _⟩ := h
    rfl
  · obtain ⟨p, rfl, hp, k⟩ := h
    have hr1 : Room 1 _ := hr.mono (by decide)
    refine ⟨_, pss_cons (ps_par (i := 1) (j := 2) rfl sc_law_names.nd rfl rfl (by decide) rfl rfl (pa_cons (pe_callTy (cr_listS rfl) (by rfl) T.list (by decide +kernel) (pa_cons pe_str pa_nil)) (pa_cons (pe_lst (pa_cons pe_str (pa_cons pe_str (pa_cons pe_str (pa_cons pe_str (pa_cons pe_str pa_nil)))))) pa_nil)) (by rfl))
      (pss_cons (ps_for PassesOwn.never rfl (pi_range1 (by rfl) T0.range (pa_cons pe_int pa_nil)) (pg_name (i := 3) sc_law_names.nd rfl (Or.inl rfl))
        (pss_cons (ps_set (i := 4) sc_law_names.nd rfl (Or.inl rfl) pe_str)
        (pss_cons (ps_for PassesOwn.never rfl (pi_range1 (by rfl) T0.range (pa_cons (pe_op op_add pe_int (pe_fn GT hr1 rfl pass0 (pa_cons (pv 0) (pa_cons pe_int pa_nil)))) pa_nil)) (pg_name (i := 5) sc_law_names.nd rfl (Or.inl rfl))
          (pss_one (ps_set (i := 4) sc_law_names.nd rfl (Or.inl rfl) (pe_op op_add_str (pv 4) (pe_fn GP hr rfl pass0 (pa_cons (pv 0) (pa_cons (pv 1) pa_nil)))))))
        (pss_one (ps_expr (pe_bm PySem.F.plainAttrs_list PySem.F.slot_list_append PySem.F.type_list_append mt_append (pv 2) (pa_cons (pv 4) pa_nil)))))))
      (pss_one (ps_ret (pe_slice sl_list (pv 2) (po_some (pe_fn GT hr1 rfl pass0 (pa_cons (pv 0) (pa_cons pe_int pa_nil)))) po_none)))), ?_⟩
    refine ⟨sAbc, rfl, (by decide +kernel), fun q hq => ⟨(by show 5 ≤ sizeLine; decide), fun l hl => ⟨_, _, rfl, ?_⟩⟩⟩
    have hpq : p ≠ q := hp.ne hq
    have hql : q ≠ l := fun e => by
      rw [← e, upd_same] at hl
      cases hl
    have hl0 : H l = none := by rw [upd_ne hql.symm] at hl; exact hl
    have hpl : p ≠ l := hp.ne hl0
    let nm0 : List Str := ["end", "read", "write", "x", "abcdefgh"]
    have hnm0 : ∀ z ∈ nm0, isNameT z = true := List.all_eq_true.mp (show nm0.all isNameT = true by decide +kernel)
    have hstart : ∃ H1, H1 = (upd (upd H q (HO.lst (sAbc.cps.toList.map fun c => V.str ⟨#[c]⟩))) l (.lst (nm0.map V.str))) := ⟨_, rfl⟩
    obtain ⟨H1, eH1⟩ := hstart
    have b1 : But p H H1 := by rw [eH1]; exact ((But.refl p H).new hq).new hl0
    have f1 : FeedAt H1 p := by rw [eH1]; exact (hp.put hpq).put hpl
    have q1 : H1 q = some (.lst (sAbc.cps.toList.map fun c => V.str ⟨#[c]⟩)) := by rw [eH1, upd_ne hql, upd_same]
    have l1 : H1 l = some (.lst (nm0.map V.str)) := by rw [eH1, upd_same]
    refine ⟨3, rfl, by decide, by decide, for_it (walk_range (lo := 0) (n := 3)) (fun i σ H' => ∃ (nm : List Str) (v3 v4 v5 : Option V), σ = [some (.ref p), some (.ref q), some (.ref l), v3, v4, v5] ∧ But p H H' ∧ FeedAt H' p ∧
        H' q = some (.lst (sAbc.cps.toList.map fun c => V.str ⟨#[c]⟩)) ∧ H' l = some (.lst (nm.map V.str)) ∧ nm.length = 5 + i ∧ ∀ z ∈ nm, isNameT z = true)
      ⟨nm0, none, none, none, rfl, eH1 ▸ b1, eH1 ▸ f1, eH1 ▸ q1, eH1 ▸ l1, rfl, hnm0⟩ (fun _ _ _ _ _ => trivial) ?_ ?_⟩
    · rintro i x σ H2 H3 hi ⟨nm, v3, v4, v5, rfl, b2, f2, q2, l2, hlen, hnm⟩ ⟨rfl, rfl⟩
      refine ⟨_, rfl, p, 8, rfl, f2, by decide, by decide, fun m H4 hm b4 f4 => ?_⟩
      refine ⟨1, m, rfl, rfl, _, rfl, by omega, by omega, ?_⟩
      have q4 := b4 _ _ hpq.symm q2
      have l4 := b4 _ _ hpl.symm l2
      have em : (1 + (m : Int)).toNat = m + 1 := by omega
      rw [em]
      refine for_it (walk_range (lo := 0) (n := m + 1)) (fun j σ H' => ∃ (v5 : Option V) (z : Str), σ = [some (.ref p), some (.ref q), some (.ref l), some (.int (0 + (i : Int))), some (.str z), v5] ∧ But p H4 H' ∧ FeedAt H' p ∧
          z.length = j ∧ low z) ⟨_, Str.ofString "", rfl, But.refl _ _, f4, rfl, fun c hc => by cases hc⟩ (fun _ _ _ _ _ => trivial) ?_ ?_
      · rintro j x σ H5 H6 hj ⟨v5, z, rfl, b5, f5, hz, hlow⟩ ⟨rfl, rfl⟩
        have q5 := b5 _ _ hpq.symm q4
        refine ⟨_, rfl, _, rfl, _, rfl, p, q, _, rfl, f5, hpq, SqL.of q5, ?_, ?_, fun r v H7 hv b7 f7 => ?_⟩
        · rw [List.length_map]
          decide +kernel
        · rw [List.length_map]
          decide +kernel
        · rw [List.getElem?_map] at hv
          cases hc : sAbc.cps.toList[r]? with
          | none => rw [hc] at hv; cases hv
          | some c =>
            rw [hc] at hv
            obtain rfl : V.str ⟨#[c]⟩ = v := Option.some.inj hv
            refine ⟨z, ⟨#[c]⟩, rfl, rfl, ?_, _, z ++ ⟨#[c]⟩, rfl, b5.trans b7, f7, ?_, ?_⟩
            · rw [hz, sizeLine_eq]
              show j + 1 ≤ _
              omega
            · rw [Str.length_append, hz]
              rfl
            · intro d hd
              have hd' : d ∈ z.cps.toList ++ [c] := by
                have e : (z ++ (⟨#[c]⟩ : Str)).cps.toList = z.cps.toList ++ [c] := by
                  show (z.cps ++ #[c]).toList = _
                  simp
                rw [← e]
                exact hd
              rcases List.mem_append.mp hd' with h | h
              · exact hlow d h
              · rw [List.mem_singleton.mp h]
                exact abc_low c (List.mem_of_getElem? hc)
      · rintro σ H5 ⟨v5, z, rfl, b5, f5, hz, hlow⟩
        have l5 := b5 _ _ hpl.symm l4
        have q5 := b5 _ _ hpq.symm q4
        refine ⟨_, rfl, .inl ⟨rfl, _, SqL.of l5⟩, _, rfl, l, _, _, rfl, rfl, l5, ?_, ?_⟩
        · rw [List.length_map, hlen, sizeLine_eq]
          omega
        · refine ⟨nm ++ [z], _, _, _, rfl, ((b2.trans b4).trans b5).new hl0, f5.put hpl, by rw [upd_ne hql]; exact q5, by rw [upd_same, List.map_append]; rfl, by rw [List.length_append, hlen]; rfl, fun y hy => ?_⟩
          rcases List.mem_append.mp hy with h | h
          · exact hnm y h
          · rw [List.mem_singleton.mp h]
            exact name_of_low hlow (by omega) (by omega)
    · rintro σ H2 ⟨nm, v3, v4, v5, rfl, b2, f2, q2, l2, hlen, hnm⟩
      refine ⟨_, rfl, _, rfl, p, 5, rfl, f2, by decide, by decide, fun r H3 hr3 b3 f3 => ?_⟩
      have l3 := b3 _ _ hpl.symm l2
      refine ⟨r, rfl, l, _, rfl, SqL.of l3, fun o ho => ?_⟩
      have ecut : cutV (nm.map V.str) (some (r : Int)) none = (nm.drop r).map V.str := by
        unfold cutV
        rw [HT.sIx_none, HT.sIx_nat, List.length_map, Nat.min_eq_left (by omega), ← List.map_drop, List.take_of_length_le]
        rw [List.length_map, List.length_drop]
        exact Nat.le_refl _
      have ho0 : H o = none := by
        cases e : H o with
        | none => rfl
        | some u =>
          by_cases hop : o = p
          · rw [hop] at ho
            obtain ⟨d, st, g, _⟩ := f3
            rw [g] at ho
            cases ho
          · rw [(b2.trans b3) _ _ hop e] at ho
            cases ho
      refine k o (nm.drop r) _ ((b2.trans b3).new ho0) (f3.put (hp.ne ho0)) ho0 (hp.ne ho0) (by rw [upd_same, ecut]) (fun e => ?_) (by rw [List.length_drop]; omega) fun z hz => hnm z (List.mem_of_mem_drop hz)
      have := List.drop_eq_nil_iff.mp e
      omega
end
end Vf

set_option maxRecDepth 100000
set_option maxHeartbeats 8000000
namespace Vf
open PySem PySem.Spec PyProof.Rows L2
def tgD : Option Nat → PyData
  | none => .none
  | some k => .int (k : Int)
theorem plain_tg : ∀ tg : List (Option Nat), plainAll (tg.map tgD) = true
  | [] => rfl
  | none :: r => by simp only [List.map_cons, tgD, plainAll, plainD, Bool.true_and, plain_tg r]
  | some _ :: r => by simp only [List.map_cons, tgD, plainAll, plainD, Bool.true_and, plain_tg r]
theorem depth_tg : ∀ tg : List (Option Nat), PyData.depthAll (tg.map tgD) = 0
  | [] => rfl
  | none :: r => by simp only [List.map_cons, tgD, PyData.depthAll, PyData.depth, depth_tg r, Nat.max_self]
  | some _ :: r => by simp only [List.map_cons, tgD, PyData.depthAll, PyData.depth, depth_tg r, Nat.max_self]
theorem dp_tg {K : PySem.W.Frag} {H : Hp} : ∀ tg : List (Option Nat), DpAll K H (tg.map tgV) (tg.map tgD)
  | [] => .nil
  | none :: r => .cons .non (dp_tg r)
  | some k :: r => .cons (.int k) (dp_tg r)
theorem tgD_inj : ∀ {a b : Option Nat}, tgD a = tgD b → a = b
  | none, none, _ => rfl
  | none, some _, h => by cases h
  | some _, none, h => by cases h
  | some a, some b, h => by
    have h' : (a : Int) = (b : Int) := PyData.int.inj h
    rw [Int.ofNat_inj.mp h']
theorem map_tgD_inj : ∀ {a b : List (Option Nat)}, a.map tgD = b.map tgD → a = b
  | [], [], _ => rfl
  | [], _ :: _, h => by cases h
  | _ :: _, [], h => by cases h
  | x :: a, y :: b, h => by
    rw [List.map_cons, List.map_cons] at h
    injection h with h1 h2
    rw [tgD_inj h1, map_tgD_inj h2]
theorem eqv_tg (a b : List (Option Nat)) : PyData.eqv (.tuple (a.map tgD)) (.tuple (b.map tgD)) = decide (a = b) :=
  eqv_dec (by simp only [plainD, plain_tg]) (by simp only [plainD, plain_tg]) ⟨fun h => map_tgD_inj (PyData.tuple.inj h), fun h => by rw [h]⟩
theorem shaped_tg (tg : List (Option Nat)) : SeqAt.shaped (.tuple (tg.map tgD)) = true :=
  shaped_of (by simp only [plainD, plain_tg]) (by simp only [PyData.depth, depth_tg]; decide)
theorem sum_le {l : List Str} {b : Nat} (h : ∀ z ∈ l, z.length ≤ b) : (l.map (·.length)).sum ≤ l.length * b := by
  induction l with
  | nil => exact Nat.zero_le _
  | cons a l ih =>
    have h1 := h a List.mem_cons_self
    have h2 := ih fun z hz => h z (List.mem_cons_of_mem _ hz)
    rw [List.map_cons, List.sum_cons, List.length_cons, Nat.succ_mul]
    omega
theorem join_le {y : Str} {l : List Str} {b : Nat} (h : ∀ z ∈ l, z.length ≤ b) : (Txt.join y l).length ≤ l.length * b + l.length * y.length := by
  rw [TL.join_eq]
  exact Nat.le_trans (StrLaws.join_length_le y l) (Nat.add_le_add_right (sum_le h) _)
theorem rises_le {many : Nat} : ∀ {ks : List Nat}, rises ks = true → (∀ k ∈ ks, k < many) → ks.length ≤ many := fun {ks} h hk => by
  have nd : ks.Nodup := ((rises_iff ks).mp h).imp fun q => Nat.ne_of_lt q
  have := nodup_len (m := List.range many) nd fun k h => List.mem_range.mpr (hk k h)
  rwa [List.length_range] at this
theorem GoodTg.len {many : Nat} {tg : List (Option Nat)} (g : GoodTg many tg) : tg.length ≤ many + 1 := by
  obtain ⟨_, ks, e, rfl, hr, hk⟩ := g
  have := rises_le hr hk
  rw [List.length_append, List.length_map]
  cases e
  · show ks.length + 0 ≤ _
    omega
  · show ks.length + 1 ≤ _
    omega
theorem GoodTg.lt {many : Nat} {tg : List (Option Nat)} (g : GoodTg many tg) {k : Nat} (h : some k ∈ tg) : k < many := by
  obtain ⟨_, ks, e, rfl, _, hk⟩ := g
  rcases List.mem_append.mp h with h | h
  · obtain ⟨j, hj, e⟩ := List.mem_map.mp h
    rw [← Option.some.inj e]
    exact hk j hj
  · cases e <;> simp at h
theorem natS_len {k : Nat} (h : k < 100) : (natS k).length ≤ 2 := by
  rw [TL.len_tl, tl_natS]
  exact TL.numL_len (by decide) (by simpa using h)
theorem part_le {many : Nat} {n : Nd} (g : GoodNd many n) (hm : many ≤ 60) (f : Bool) : ∀ z ∈ rowW f n, z.length ≤ 8 := fun z hz => by
  have hw : n.word.length ≤ 8 := by rcases g.word with e | e <;> rw [e] <;> decide +kernel
  have hc := (name_len g.cell).2
  unfold rowW at hz
  split at hz
  · rcases List.mem_cons.mp hz with rfl | hz
    · exact hw
    · rw [List.mem_singleton.mp hz]
      exact hc
  · rcases List.mem_cons.mp hz with rfl | hz
    · exact hw
    rcases List.mem_cons.mp hz with rfl | hz
    · exact hc
    rcases List.mem_cons.mp hz with rfl | hz
    · decide +kernel
    · obtain ⟨t, ht, rfl⟩ := List.mem_map.mp hz
      cases t with
      | none => show sEnd.length ≤ 8; decide +kernel
      | some k =>
        have := natS_len (k := k) (by have := g.tg.lt ht; omega)
        show (natS k).length ≤ 8
        omega
theorem rowW_len {many : Nat} {n : Nd} (g : GoodNd many n) (f : Bool) : (rowW f n).length ≤ many + 4 := by
  have := g.tg.len
  unfold rowW
  split
  · show 2 ≤ many + 4
    omega
  · rw [List.length_cons, List.length_cons, List.length_cons, List.length_map]
    omega
theorem rowS_le {many : Nat} {n : Nd} (g : GoodNd many n) (hm : many ≤ 60) (f : Bool) : (rowS f n).length ≤ 600 := by
  have h1 := join_le (y := sSp) (part_le g hm f)
  have h2 := rowW_len g f
  have h3 : sSp.length = 1 := by decide +kernel
  rw [h3] at h1
  have h4 : (rowW f n).length * 8 + (rowW f n).length * 1 ≤ 600 := by omega
  exact Nat.le_trans h1 h4
def sArr2 : Str := " -> "
theorem tl_inj {a b : Str} (h : TL.tl a = TL.tl b) : a = b := by
  cases a
  cases b
  simp only [TL.tl, Str.mk.injEq] at h ⊢
  exact Array.toList_inj.mp h
theorem row_bare {n : Nd} (h : n.tg = [none]) : n.word ++ sSp ++ n.cell = rowS false n := by
  refine tl_inj ?_
  unfold rowS rowW
  rw [if_pos ⟨rfl, h⟩, TL.join_eq, TL.tl_join, TL.tl_append, TL.tl_append]
  show _ = TL.tl n.word ++ (TL.tl sSp ++ TL.tl n.cell)
  rw [List.append_assoc]
theorem row_full {f : Bool} {n : Nd} (h : f = true ∨ n.tg ≠ [none]) (hne : n.tg ≠ []) : n.word ++ sSp ++ n.cell ++ sArr2 ++ Txt.join sSp (n.tg.map tgS) = rowS f n := by
  refine tl_inj ?_
  unfold rowS rowW
  rw [if_neg (by rintro ⟨h1, h2⟩; rcases h with h | h; rw [h1] at h; cases h; exact h h2), TL.join_eq, TL.join_eq, TL.tl_join, TL.tl_append, TL.tl_append, TL.tl_append, TL.tl_append, TL.tl_join]
  obtain ⟨t, r, e⟩ := List.exists_cons_of_ne_nil hne
  rw [e]
  show _ = TL.tl n.word ++ (TL.tl sSp ++ (TL.tl n.cell ++ (TL.tl sSp ++ (TL.tl sArrow ++ (TL.tl sSp ++ TL.joinL (TL.tl sSp) (((t :: r).map tgS).map TL.tl))))))
  have e2 : TL.tl sArr2 = TL.tl sSp ++ (TL.tl sArrow ++ TL.tl sSp) := by decide +kernel
  rw [e2]
  simp only [List.append_assoc]
theorem rows_of (f : Bool) : ∀ ns : List Nd, Rows (ns.map (rowS f)) ns
  | [] => .nil
  | _ :: ns => .cons f (rows_of f ns)
end Vf

set_option maxRecDepth 100000
set_option maxHeartbeats 8000000
namespace Vf
open PySem PySem.Spec PyProof.Rows L2
theorem tgS_text (k : Nat) : natS k = Str.ofString (toString (k : Int)) := rfl
theorem log2_small {k : Nat} (h : k < 1000) : (k : Int).natAbs.log2 < 1920 := by
  show k.log2 < 1920
  exact Nat.lt_of_le_of_lt (Nat.log2_le_self k) (by omega)
structure Good (ns : List Nd) : Prop where
  few : ns.length ≤ 8
  some : ns ≠ []
  all : ∀ n ∈ ns, GoodNd ns.length n
section
variable {P : Program} {w : World} {K : PySem.W.Frag} {mg : Str → Option Value} {base : Heap}
def sp_law_text : Sp := fun vs H Q _ => ∃ (t : Addr) (ns : List Nd), vs = [.ref t] ∧ NodesAt H t ns ∧ Good ns ∧ ∀ H', Same H H' → Q (.str (Txt.join sNl (ns.map (rowS false)))) H'
theorem ok_law_text {f : Addr} {fd : FuncData} (F : Fun K "_law_text" "_law_text" s_law_text f fd) (T0 : Txt0 K mg) : FnOk P w K mg base CX0 1 f fd p_law_text sp_law_text := by
  refine F.ok sc_law_text (fun vs H Q E h => ?_) (fun cdv A outer s H vs Q E hr h => ?_)
  · obtain ⟨t, ns, rfl, _⟩ := h
    rfl
  · obtain ⟨t, ns, rfl, ⟨as, ht, hin⟩, g, k⟩ := h
    refine ⟨_, pss_cons (ps_set (i := 1) sc_law_text.nd rfl (Or.inl rfl) (pe_lst pa_nil))
      (pss_cons (ps_for PassesOwn.never rfl (pi_tup (pv 0)) (pg_tup (by rfl) (pgs_cons (pg_name (i := 2) sc_law_text.nd rfl (Or.inl rfl)) (pgs_cons (pg_name (i := 3) sc_law_text.nd rfl (Or.inl rfl)) (pgs_cons (pg_name (i := 4) sc_law_text.nd rfl (Or.inl rfl)) pgs_nil))))
        (pss_cons (ps_set (i := 5) sc_law_text.nd rfl (Or.inl rfl) (pe_op op_add_str (pe_op op_add_str (pv 2) pe_str) (pv 3)))
        (C8.pss_cut (ps_if (pt_cmpR (op_neD hr.units) (pv 4) (pe_tup (pa_cons pe_non pa_nil)) (nomark _))
          (pss_one (ps_set (i := 5) sc_law_text.nd rfl (Or.inl rfl) (pe_op op_add_str (pe_op op_add_str (pv 5) pe_str)
            (pe_join pe_str (pe_lc (own := [("one", 6)]) (g := gName 6) (tt := tYes) rfl sc_law_text.nd (pi_tup (pv 4)) (blkOk_by (N := n_law_text) (sc := defScope s_law_text) (by decide +kernel))
              (fun _ _ _ _ _ => pg_name (i := 6) sc_law_text.nd rfl (Or.inl rfl)) (fun _ _ _ _ _ => pts_nil)
              (fun _ _ _ _ _ => pe_ifExp (pt_cmpR op_isN (pv 6) pe_non (nomark _)) pe_str (pe_callTy call_str_int (by rfl) T0.str boot_str (pa_cons (pv 6) pa_nil)))))))) pss_nil)
        (pss_one (ps_expr (pe_bm PySem.F.plainAttrs_list PySem.F.slot_list_append PySem.F.type_list_append mt_append (pv 1) (pa_cons (pv 5) pa_nil)))))))
      (pss_one (ps_ret (pe_join pe_str (pv 1))))), ?_⟩
    refine ⟨Nat.zero_le _, fun l hl => ?_⟩
    have hlt : t ≠ l := ne_of_none ht hl
    refine ⟨_, rfl, t, rfl, ⟨_, SqT.of (by rw [upd_ne hlt]; exact ht)⟩, for_it (walk_tup (K := K) (a := t) (xs := as.map V.ref)) (fun i σ H' => ∃ (v2 v3 v4 v5 v6 : Option V), σ = [some (.ref t), some (.ref l), v2, v3, v4, v5, v6] ∧ Same H H' ∧
        H' l = some (.lst (((ns.take i).map (rowS false)).map V.str))) ⟨none, none, none, none, none, rfl, same_new hl, upd_same⟩ (fun i σ H' _ ⟨_, _, _, _, _, _, s, _⟩ => SqT.of (s _ _ ht)) ?_ ?_⟩
    · rintro i x σ H2 H3 hi ⟨v2, v3, v4, v5, v6, rfl, s2, hl2⟩ ⟨rfl, hx⟩
      rw [List.length_map, hin.1] at hi
      have hni : ns[i]? = some ns[i] := List.getElem?_eq_getElem hi
      have hai : i < as.length := by rw [hin.1]; exact hi
      have hasi : as[i]? = some as[i] := List.getElem?_eq_getElem hai
      rw [List.getElem?_map, hasi] at hx
      obtain rfl : V.ref as[i] = x := Option.some.inj hx
      have gn := g.all _ (List.getElem_mem hi)
      have hn8 := g.few
      obtain ⟨t', g1, g2⟩ := (hin.2 i _ _ hasi hni).same s2
      generalize hn : ns[i] = n at *
      have hw8 : n.word.length ≤ 8 := part_le gn (by omega) true n.word (by unfold rowW; rw [if_neg (by rintro ⟨h, _⟩; cases h)]; simp)
      have hc8 := (name_len gn.cell).2
      have hsp : sSp.length = 1 := by decide +kernel
      refine ⟨as[i], _, rfl, SqT.of g1, rfl, _, _, rfl, _, _, rfl, _, _, rfl, rfl, _, rfl, n.word, sSp, rfl, rfl, (by rw [hsp, sizeLine_eq]; omega), _, rfl, n.word ++ sSp, n.cell, rfl, rfl, (by rw [Str.length_append, hsp, sizeLine_eq]; omega), ?_⟩
      refine ⟨fun σ H' => ∃ v6, σ = [some (.ref t), some (.ref l), some (.str n.word), some (.str n.cell), some (.ref t'), some (.str (rowS false n)), v6] ∧ Same H3 H', ?_, ?_⟩
      · refine ⟨_, rfl, (by show 1 ≤ sizeLine; decide), fun q hq => ⟨.tuple (n.tg.map tgD), .tuple ([none].map tgD), .tup (SqT.of (by rw [upd_ne (ne_of_none g2 hq)]; exact g2)) (dp_tg _), .tup (SqT.of upd_same) (dp_tg [none]), shaped_tg _, shaped_tg _, _, rfl, ?_⟩⟩
        rw [eqv_tg]
        by_cases ht0 : n.tg = [none]
        · rw [decide_eq_true ht0]
          exact iteF ⟨v6, by rw [← row_bare ht0]; rfl, same_new hq⟩
        · rw [decide_eq_false ht0]
          have g2' : (upd H3 q (.tup [.non])) t' = some (.tup (n.tg.map tgV)) := by rw [upd_ne (ne_of_none g2 hq)]; exact g2
          refine iteT ⟨_, rfl, n.word ++ sSp ++ n.cell, sArr2, rfl, rfl, ?_, ⟨_, rfl⟩, _, rfl, t', rfl, ⟨_, SqT.of g2'⟩, fun D hD => lc_mp n.tg (walk_tup (K := K) (a := t') (xs := n.tg.map tgV) |> fun z => by rw [List.length_map] at z; exact z) hD
            (fun o => .str (tgS o)) ?_ (fun H5 s5 => SqT.of (s5 _ _ g2')) ?_ ?_⟩
          · have e2 : sArr2.length = 4 := by decide +kernel
            rw [Str.length_append, Str.length_append, hsp, e2, sizeLine_eq]
            omega
          · have := gn.tg.len
            omega
          · rintro j o x H5 H6 ho s5 ⟨rfl, hx⟩ R hR
            rw [List.getElem?_map, ho] at hx
            obtain rfl : tgV o = x := Option.some.inj hx
            refine ⟨rfl, ?_⟩
            cases o with
            | none => exact ⟨_, rfl, rfl, _, rfl, iteT (hR _ (Same.refl _))⟩
            | some j =>
              have hj := gn.tg.lt (List.mem_of_getElem? ho)
              exact ⟨_, rfl, rfl, _, rfl, iteF ⟨_, rfl, (j : Int), rfl, log2_small (by omega), hR _ (Same.refl _)⟩⟩
          · intro H5 s5 hL
            have htl := gn.tg.len
            have hz : ∀ z ∈ n.tg.map tgS, z.length ≤ 8 := fun z hz => part_le gn (by omega) true z (by
              unfold rowW
              rw [if_neg (by rintro ⟨h, _⟩; cases h)]
              exact List.mem_cons_of_mem _ (List.mem_cons_of_mem _ (List.mem_cons_of_mem _ hz)))
            have hsum := sum_le hz
            rw [List.length_map] at hsum
            refine ⟨sSp, D, n.tg.map tgS, rfl, rfl, .inl (SqL.of (by rw [hL, List.map_map]; rfl)), ?_, n.word ++ sSp ++ n.cell ++ sArr2, Txt.join sSp (n.tg.map tgS), rfl, rfl, ?_, v6, ?_, (same_new hq).trans s5⟩
            · rw [hsp, List.length_map]
              omega
            · have h1 := join_le (y := sSp) hz
              have e2 : sArr2.length = 4 := by decide +kernel
              rw [List.length_map, hsp] at h1
              rw [Str.length_append, Str.length_append, Str.length_append, hsp, e2, sizeLine_eq]
              omega
            · rw [row_full (f := false) (.inr ht0) gn.tg.ne]
              rfl
      · rintro σ H4 ⟨v6', rfl, s4⟩
        have hl4 := s4 _ _ hl2
        refine ⟨_, rfl, .inl ⟨rfl, _, SqL.of hl4⟩, _, rfl, l, _, _, rfl, rfl, hl4, ?_, ?_⟩
        · rw [List.length_map, List.length_map, List.length_take, sizeLine_eq]
          omega
        · refine ⟨_, _, _, _, _, rfl, same_upd (s2.trans s4) hl, ?_⟩
          rw [upd_same, List.take_add_one, hni, List.map_append, List.map_append]
          rfl
    · rintro σ H2 ⟨v2, v3, v4, v5, v6, rfl, s2, hl2⟩
      rw [List.length_map, hin.1, List.take_length] at hl2
      have hz : ∀ z ∈ ns.map (rowS false), z.length ≤ 600 := fun z hz => by
        obtain ⟨n, hn, rfl⟩ := List.mem_map.mp hz
        exact rowS_le (g.all n hn) (by have := g.few; omega) false
      have hsum := sum_le hz
      have h8 := g.few
      rw [List.length_map] at hsum
      refine ⟨⟨_, rfl⟩, _, rfl, sNl, l, ns.map (rowS false), rfl, rfl, .inl (SqL.of hl2), ?_, k H2 s2⟩
      have e1 : sNl.length = 1 := by decide +kernel
      rw [e1, List.length_map]
      omega
end
end Vf

set_option maxRecDepth 100000
set_option maxHeartbeats 8000000
namespace Vf
open PySem PySem.Spec PyProof.Rows L2
def natV (ks : List Nat) : List V := ks.map fun (k : Nat) => V.int (k : Int)
theorem natV_int (ks : List Nat) : natV ks = (ks.map Int.ofNat).map V.int := by
  unfold natV
  rw [List.map_map]
  rfl
theorem natV_tg (ks : List Nat) : natV ks = (ks.map some).map tgV := by
  unfold natV
  rw [List.map_map]
  rfl
theorem inV_nat {k : Nat} {ks : List Nat} : inV (.int (k : Int)) (natV ks) = decide (k ∈ ks) := by
  unfold natV inV
  rw [List.any_map]
  induction ks with
  | nil => rfl
  | cons a r ih =>
    rw [List.any_cons, ih]
    by_cases h : a = k
    · subst h
      rw [decide_eq_true (p := a ∈ a :: r) List.mem_cons_self]
      have e : ((fun y => eqV y (.int (a : Int))) ∘ fun k : Nat => V.int (k : Int)) a = true := decide_eq_true rfl
      rw [e]
      rfl
    · have e : ((fun y => eqV y (.int (k : Int))) ∘ fun k : Nat => V.int (k : Int)) a = false := by
        show eqV (.int (a : Int)) (.int (k : Int)) = false
        exact decide_eq_false fun q => h (Int.ofNat_inj.mp q)
      rw [e, Bool.false_or]
      exact decide_eq_decide.mpr ⟨fun q => List.mem_cons_of_mem _ q, fun q => (List.mem_cons.mp q).resolve_left fun z => h z.symm⟩
theorem rises_ins {ks : List Nat} {k many : Nat} {ns : List Int} (h : rises ks = true) (hk : k ∉ ks) (hlt : ∀ j ∈ ks, j < many) (hkm : k < many) (hp : ns.Perm (ks.map Int.ofNat ++ [(k : Int)])) (hs : ns.Pairwise (· ≤ ·)) :
    ∃ ks' : List Nat, ns = ks'.map Int.ofNat ∧ rises ks' = true ∧ ∀ j ∈ ks', j < many := by
  have mem : ∀ x ∈ ns, ∃ j : Nat, x = (j : Int) ∧ (j ∈ ks ∨ j = k) := fun x hx => by
    rcases List.mem_append.mp (hp.mem_iff.mp hx) with q | q
    · obtain ⟨j, hj, rfl⟩ := List.mem_map.mp q
      exact ⟨j, rfl, .inl hj⟩
    · exact ⟨k, List.mem_singleton.mp q, .inr rfl⟩
  have e : ns = (ns.map Int.toNat).map Int.ofNat := by
    rw [List.map_map]
    conv => lhs; rw [← List.map_id ns]
    refine List.map_congr_left fun x hx => ?_
    obtain ⟨j, rfl, _⟩ := mem x hx
    rfl
  have nd : ns.Nodup := by
    refine hp.nodup_iff.mpr ?_
    have e2 : ks.map Int.ofNat ++ [(k : Int)] = (ks ++ [k]).map Int.ofNat := by rw [List.map_append]; rfl
    rw [e2]
    refine List.Pairwise.map _ (fun a b (q : a ≠ b) z => q (Int.ofNat_inj.mp z)) ?_
    refine List.nodup_append.mpr ⟨((rises_iff ks).mp h).imp fun q => Nat.ne_of_lt q, List.nodup_cons.mpr ⟨by simp, List.nodup_nil⟩, fun a ha b hb z => ?_⟩
    rw [List.mem_singleton.mp hb] at z
    exact hk (z ▸ ha)
  refine ⟨ns.map Int.toNat, e, ?_, fun j hj => ?_⟩
  · rw [rises_iff, List.pairwise_map]
    refine (hs.and nd).imp_of_mem fun {a b} ha hb q => ?_
    obtain ⟨i, rfl, _⟩ := mem a ha
    obtain ⟨j, rfl, _⟩ := mem b hb
    have q1 : (i : Int) ≤ j := q.1
    have q2 : (i : Int) ≠ j := q.2
    show i < j
    omega
  · obtain ⟨x, hx, rfl⟩ := List.mem_map.mp hj
    obtain ⟨i, rfl, hi⟩ := mem x hx
    rcases hi with hi | rfl
    · exact hlt i hi
    · exact hkm
theorem eqv_list_tg (a b : List (Option Nat)) : PyData.eqv (.list (a.map tgD)) (.list (b.map tgD)) = decide (a = b) :=
  eqv_dec (by simp only [plainD, plain_tg]) (by simp only [plainD, plain_tg]) ⟨fun h => map_tgD_inj (PyData.list.inj h), fun h => by rw [h]⟩
theorem shaped_list_tg (tg : List (Option Nat)) : SeqAt.shaped (.list (tg.map tgD)) = true :=
  shaped_of (by simp only [plainD, plain_tg]) (by simp only [PyData.depth, depth_tg]; decide)
/-- behind H, while only the draws at p have changed: the list at l holds the nodes ns, as told by as -/
structure Mid3 (H : Hp) (p l : Addr) (as : List Addr) (ns : List Nd) (H' : Hp) : Prop where
  b : But p H H'
  f : FeedAt H' p
  l : H' l = some (.lst (as.map V.ref))
  n : NodesIn H' as ns
theorem Mid3.but {H : Hp} {p l : Addr} {as : List Addr} {ns : List Nd} {H2 H3 : Hp} (m : Mid3 H p l as ns H2) (b : But p H2 H3) (f : FeedAt H3 p) (hpl : p ≠ l) : Mid3 H p l as ns H3 :=
  ⟨m.b.trans b, f, b _ _ hpl.symm m.l, m.n.1, fun i a n h1 h2 => (m.n.2 i a n h1 h2).but b (let ⟨_, _, e, _⟩ := m.f; ⟨_, e⟩)⟩
theorem Mid3.same {H : Hp} {p l : Addr} {as : List Addr} {ns : List Nd} {H2 H3 : Hp} (m : Mid3 H p l as ns H2) (s : Same H2 H3) (hpl : p ≠ l) : Mid3 H p l as ns H3 := m.but (Same.but s) (m.f.same s) hpl
/-- new behind what the draws alone have changed: new before -/
theorem But.free {p o : Addr} {H H' : Hp} (b : But p H H') (f : FeedAt H' p) (h : H' o = none) : H o = none := by
  cases e : H o with
  | none => rfl
  | some u =>
    by_cases hop : o = p
    · rw [hop] at h
      obtain ⟨d, st, g, _⟩ := f
      rw [g] at h
      cases h
    · rw [b _ _ hop e] at h
      cases h
section
variable {P : Program} {w : World} {K : PySem.W.Frag} {mg : Str → Option Value} {base : Heap}
def sp_law_nodes (K : PySem.W.Frag) : Sp := fun vs H Q _ => ∃ (p c : Addr) (nm : List Str) (most : Nat), vs = [.ref p, .ref c, .int (most : Int)] ∧ FeedAt H p ∧ p ≠ c ∧ SqL K H c (nm.map V.str) ∧ nm ≠ [] ∧ nm.length ≤ 8 ∧ (∀ z ∈ nm, isNameT z = true) ∧ 1 ≤ most ∧ most ≤ 8 ∧
  ∀ (t : Addr) (ns : List Nd) H', But p H H' → FeedAt H' p → H t = none → NodesAt H' t ns → Good ns → Q (.ref t) H'
theorem ok_law_nodes {f : Addr} {fd : FuncData} (F : Fun K "_law_nodes" "_law_nodes" s_law_nodes f fd) (T0 : Txt0 K mg) (T : TxtL mg) (GT : OkF P w K mg base CX0 "_law_take" p_law_take 1 sp_law_take) (GP : OkF P w K mg base CX0 "_law_pick" p_law_pick 2 (sp_law_pick K)) :
    FnOk P w K mg base CX0 3 f fd p_law_nodes (sp_law_nodes K) := by
  refine F.ok sc_law_nodes (fun vs H Q E h => ?_) (fun cdv A outer s H vs Q E hr h => ?_)
  · obtain ⟨p, c, nm, most, rfl, _⟩ := h
    rfl
  · obtain ⟨p, c, nm, most, rfl, hp, hpc, hS, hnm, hnm8, hnames, hm1, hm8, k⟩ := h
    have hr1 : Room 1 _ := hr.mono (by decide)
    refine ⟨_, pss_cons (ps_par (i := 3) (j := 4) rfl sc_law_nodes.nd rfl rfl (by decide) rfl rfl (pa_cons (pe_op op_add pe_int (pe_fn GT hr1 rfl pass0 (pa_cons (pv 0) (pa_cons (pv 2) pa_nil)))) (pa_cons (pe_lst pa_nil) pa_nil)) (by rfl))
      (pss_cons (ps_for PassesOwn.never rfl (pi_range1 (by rfl) T0.range (pa_cons (pv 3) pa_nil)) (pg_name (i := 5) sc_law_nodes.nd rfl (Or.inl rfl))
        (C8.pss_cut (ps_setLc (i := 6) (own := [("one", 8)]) (g := gName 8) rfl sc_law_nodes.nd rfl rfl (sw_true rfl rfl rfl (by decide +kernel)) (pi_range1 (by rfl) T0.range (pa_cons (pv 3) pa_nil)) (blkOk_by (N := n_law_nodes) (sc := defScope s_law_nodes) (by decide +kernel))
              (fun _ _ _ _ _ => pg_name (i := 8) sc_law_nodes.nd rfl (Or.inl rfl)) (fun _ _ _ _ _ => pts_one (pt_cmpR op_eq (pe_fn GT hr1 rfl pass0 (pa_cons (pv 0) (pa_cons pe_int pa_nil))) pe_int (nomark _)))
              (fun _ _ _ _ _ => pv 8))
        (C8.pss_cut (ps_if (PW.pt (pw_and (pt_cmpR op_eq (pe_fn GT hr1 rfl pass0 (pa_cons (pv 0) (pa_cons pe_int pa_nil))) pe_int (nomark _))
              (pw_and (pt_cmpR op_lt (pe_op op_add (pv 5) pe_int) (pv 3) (nomark _)) (pw_and1 (pt_cmpR op_notIn_seq (pe_op op_add (pv 5) pe_int) (pv 6) rfl)))))
            (pss_one (ps_set (i := 6) sc_law_nodes.nd rfl (Or.inl rfl) (pe_callB cr_sorted (by rfl) T0.sorted (by decide +kernel) (pa_cons (pe_op op_cat (pv 6) (pe_lst (pa_cons (pe_op op_add (pv 5) pe_int) pa_nil))) pa_nil)))) pss_nil)
        (C8.pss_cut (ps_if (PW.pt (pw_or (pt_cmpR (op_eqD hr.units) (pv 6) (pe_lst pa_nil) (nomark _)) (pw_or1 (pt_cmpR op_eq (pe_fn GT hr1 rfl pass0 (pa_cons (pv 0) (pa_cons pe_int pa_nil))) pe_int (nomark _)))))
            (pss_one (ps_set (i := 6) sc_law_nodes.nd rfl (Or.inl rfl) (pe_op op_cat (pv 6) (pe_lst (pa_cons pe_non pa_nil))))) pss_nil)
        (pss_cons (ps_set (i := 7) sc_law_nodes.nd rfl (Or.inl rfl) (pe_fn GP hr rfl pass0 (pa_cons (pv 0) (pa_cons (pe_lst (pa_cons pe_str (pa_cons pe_str (pa_cons pe_str pa_nil)))) pa_nil))))
        (pss_one (ps_expr (pe_bm PySem.F.plainAttrs_list PySem.F.slot_list_append PySem.F.type_list_append mt_append (pv 4) (pa_cons
          (pe_tup (pa_cons (pv 7) (pa_cons (pe_fn GP hr rfl pass0 (pa_cons (pv 0) (pa_cons (pe_callTy call_list_of (by rfl) T.list (by decide +kernel) (pa_cons (pv 1) pa_nil)) pa_nil))) (pa_cons (pe_callTy call_tuple_of (by rfl) T0.tuple (by decide +kernel) (pa_cons (pv 6) pa_nil)) pa_nil)))) pa_nil)))))))))
      (pss_one (ps_ret (pe_callTy call_tuple_of (by rfl) T0.tuple (by decide +kernel) (pa_cons (pv 4) pa_nil))))), ?_⟩
    refine ⟨_, rfl, _, rfl, p, most, rfl, hp, hm1, by omega, fun m H1 hm b1 f1 => ⟨1, m, rfl, rfl, Nat.zero_le _, fun l hl => ⟨_, _, rfl, ?_⟩⟩⟩
    have hl0 := b1.free f1 hl
    have hpl : p ≠ l := hp.ne hl0
    have em : (1 + (m : Int)).toNat = 1 + m := by omega
    refine ⟨_, rfl, _, rfl, by omega, by omega, ?_⟩
    rw [em]
    refine for_it (walk_range (lo := 0) (n := 1 + m)) (fun i σ H' => ∃ (as : List Addr) (ns : List Nd) (v5 v6 v7 v8 : Option V), σ = [some (.ref p), some (.ref c), some (.int (most : Int)), some (.int (1 + (m : Int))), some (.ref l), v5, v6, v7, v8] ∧
        Mid3 H p l as ns H' ∧ ns.length = i ∧ ∀ n ∈ ns, GoodNd (1 + m) n)
      ⟨[], [], none, none, none, none, rfl, ⟨b1.new hl0, f1.put hpl, upd_same, rfl, fun i a n h => by simp at h⟩, rfl, fun n h => by cases h⟩ (fun _ _ _ _ _ => trivial) ?_ ?_
    · rintro i x σ H2 H3 hi ⟨as, ns, v5, v6, v7, v8, rfl, md, hns, hgood⟩ ⟨rfl, rfl⟩
      refine ⟨fun σ H' => ∃ (q : Addr) (ks : List Nat) (v7 v8 : Option V), σ = [some (.ref p), some (.ref c), some (.int (most : Int)), some (.int (1 + (m : Int))), some (.ref l), some (.int (0 + (i : Int))), some (.ref q), v7, v8] ∧
        Mid3 H p l as ns H' ∧ H' q = some (.lst (natV ks)) ∧ p ≠ q ∧ l ≠ q ∧ rises ks = true ∧ ∀ k ∈ ks, k < 1 + m, ?_, ?_⟩
      · refine ⟨_, rfl, _, rfl, by omega, by omega, fun D hD => ?_⟩
        rw [em]
        have hpD : p ≠ D := md.f.ne hD
        have hlD : l ≠ D := ne_of_none md.l hD
        refine lc_it (walk_range (lo := 0) (n := 1 + m)) (fun j H' => But p H3 H' ∧ FeedAt H' p ∧ ∃ ks : List Nat, H' D = some (.lst (natV ks)) ∧ rises ks = true ∧ ks.length ≤ j ∧ ∀ k ∈ ks, k < j)
          ⟨(But.refl p H3).new hD, md.f.put hpD, [], upd_same, rfl, Nat.le_refl _, fun k h => by cases h⟩ (fun _ _ _ _ => trivial) ?_ ?_
        · rintro j x H4 H5 hj ⟨b4, f4, ks, hks, hri, hlen, hlt⟩ ⟨rfl, rfl⟩
          refine ⟨rfl, _, rfl, p, 4, rfl, f4, by decide, by decide, fun r H6 hr6 b6 f6 => ⟨rfl, _, rfl, ?_⟩⟩
          have hks6 := b6 _ _ hpD.symm hks
          by_cases hr0 : r = 0
          · subst hr0
            refine iteT ⟨_, rfl, natV ks, hks6, ?_, (b4.trans b6).new hD, f6.put hpD, ks ++ [j], ?_, ?_, ?_, ?_⟩
            · unfold natV
              rw [List.length_map, sizeLine_eq]
              omega
            · rw [upd_same]
              show some (HO.lst (natV ks ++ [.int (0 + (j : Int))])) = _
              rw [Int.zero_add]
              unfold natV
              rw [List.map_append]
              rfl
            · rw [rises_iff] at hri ⊢
              refine List.pairwise_append.mpr ⟨hri, List.pairwise_singleton _ _, fun a ha b hb => ?_⟩
              rw [List.mem_singleton.mp hb]
              exact hlt a ha
            · rw [List.length_append, List.length_singleton]
              omega
            · intro a ha
              rcases List.mem_append.mp ha with ha | ha
              · have := hlt a ha
                omega
              · rw [List.mem_singleton.mp ha]
                omega
          · rw [decide_eq_false (p := V.int (r : Int) = V.int 0) (fun e => hr0 (by have := V.int.inj e; omega))]
            exact iteF ⟨b4.trans b6, f6, ks, hks6, hri, by omega, fun a ha => by have := hlt a ha; omega⟩
        · rintro H4 ⟨b4, f4, ks, hks, hri, hlen, hlt⟩
          exact ⟨D, ks, v7, v8, rfl, md.but b4 f4 hpl, hks, hpD, hlD, hri, hlt⟩
      rintro σ H4 ⟨q, ks, v7', v8', rfl, md4, hq, hpq, hlq, hri, hlt⟩
      have hkl : ks.length ≤ 8 := by
        have := rises_le hri hlt
        omega
      refine ⟨fun σ H' => ∃ (q : Addr) (ks : List Nat) (v7 v8 : Option V), σ = [some (.ref p), some (.ref c), some (.int (most : Int)), some (.int (1 + (m : Int))), some (.ref l), some (.int (0 + (i : Int))), some (.ref q), v7, v8] ∧
        Mid3 H p l as ns H' ∧ H' q = some (.lst (natV ks)) ∧ p ≠ q ∧ l ≠ q ∧ rises ks = true ∧ ∀ k ∈ ks, k < 1 + m, ?_, ?_⟩
      · refine ⟨_, rfl, p, 2, rfl, md4.f, by decide, by decide, fun r H5 hr5 b5 f5 => ⟨rfl, _, rfl, ?_⟩⟩
        have md5 := md4.but b5 f5 hpl
        have hq5 := b5 _ _ hpq.symm hq
        by_cases hr0 : r = 0
        case neg =>
          rw [decide_eq_false (p := V.int (r : Int) = V.int 0) (fun e => hr0 (by have := V.int.inj e; omega))]
          exact iteF (iteF ⟨q, ks, v7', v8', rfl, md5, hq5, hpq, hlq, hri, hlt⟩)
        subst hr0
        refine iteT ⟨_, rfl, _, _, rfl, rfl, _, rfl, _, _, rfl, rfl, _, rfl, ?_⟩
        by_cases hi1 : 0 + (i : Int) + 1 < 1 + (m : Int)
        case neg =>
          rw [decide_eq_false hi1]
          exact iteF (iteF ⟨q, ks, v7', v8', rfl, md5, hq5, hpq, hlq, hri, hlt⟩)
        rw [decide_eq_true hi1]
        refine iteT ⟨_, rfl, _, _, rfl, rfl, _, rfl, q, _, rfl, .inl (SqL.of hq5), rfl, ?_, _, rfl, ?_⟩
        · unfold natV
          rw [List.all_map, List.all_eq_true]
          intro _ _
          rfl
        have ei : (0 + (i : Int) + 1) = ((i + 1 : Nat) : Int) := by omega
        show if (if true = true then !inV (.int (0 + (i : Int) + 1)) (natV ks) else _) = true then _ else _
        rw [if_pos rfl, ei, inV_nat]
        by_cases hmem : i + 1 ∈ ks
        · rw [decide_eq_true hmem]
          exact iteF (⟨q, ks, v7', v8', rfl, md5, hq5, hpq, hlq, hri, hlt⟩)
        rw [decide_eq_false hmem]
        refine iteT ⟨_, rfl, _, rfl, _, _, rfl, rfl, (by show 1 ≤ sizeLine; decide), fun o1 ho1 => ?_⟩
        have hqo : q ≠ o1 := ne_of_none hq5 ho1
        refine ⟨q, o1, natV ks, [.int (0 + (i : Int) + 1)], rfl, rfl, by rw [upd_ne hqo]; exact hq5, upd_same, ?_, fun o2 ho2 => ?_⟩
        · unfold natV
          rw [List.length_map, sizeLine_eq]
          show ks.length + 1 ≤ _
          omega
        refine ⟨o2, ks.map Int.ofNat ++ [((i + 1 : Nat) : Int)], rfl, SqL.of ?_, ?_, fun ns' o3 hperm hsort ho3 => ?_⟩
        · rw [upd_same, List.map_append, ← natV_int, ← ei]
          rfl
        · rw [List.length_append, List.length_map]
          show ks.length + 1 < 64
          omega
        obtain ⟨ks', rfl, hri', hlt'⟩ := rises_ins hri hmem hlt (by omega) hperm hsort
        have s53 := ((same_new (o := .lst [.int (0 + (i : Int) + 1)]) ho1).trans (same_new (o := .lst (natV ks ++ [.int (0 + (i : Int) + 1)])) ho2)).trans (same_new (o := .lst ((ks'.map Int.ofNat).map V.int)) ho3)
        have ho35 := Same.free ((same_new (o := .lst [.int (0 + (i : Int) + 1)]) ho1).trans (same_new (o := .lst (natV ks ++ [.int (0 + (i : Int) + 1)])) ho2)) ho3
        exact ⟨o3, ks', v7', v8', rfl, md5.same s53 hpl, by rw [upd_same, natV_int], md5.f.ne ho35, ne_of_none md5.l ho35, hri', hlt'⟩
      rintro σ H5 ⟨q5, ks5, v75, v85, rfl, md5, hq5, hpq5, hlq5, hri5, hlt5⟩
      have hkl5 : ks5.length ≤ 8 := by
        have := rises_le hri5 hlt5
        omega
      refine ⟨fun σ H' => ∃ (q : Addr) (tg : List (Option Nat)) (v7 v8 : Option V), σ = [some (.ref p), some (.ref c), some (.int (most : Int)), some (.int (1 + (m : Int))), some (.ref l), some (.int (0 + (i : Int))), some (.ref q), v7, v8] ∧
        Mid3 H p l as ns H' ∧ H' q = some (.lst (tg.map tgV)) ∧ p ≠ q ∧ l ≠ q ∧ GoodTg (1 + m) tg, ?_, ?_⟩
      · refine ⟨_, rfl, Nat.zero_le _, fun o1 ho1 => ?_⟩
        have s6 := same_new (o := .lst []) ho1
        have md6 := md5.same s6 hpl
        have hq6 := s6 _ _ hq5
        refine ⟨.list ((ks5.map some).map tgD), .list (([] : List (Option Nat)).map tgD), .lst (SqL.of (by rw [hq6, natV_tg])) (dp_tg _), .lst (SqL.of upd_same) (dp_tg []), shaped_list_tg _, shaped_list_tg _, _, rfl, ?_⟩
        rw [eqv_list_tg]
        have addNone : ∀ H7, Mid3 H p l as ns H7 → H7 q5 = some (.lst (natV ks5)) → ∀ o1 o2, H7 o1 = none → (upd H7 o1 (.lst [.non])) o2 = none → Mid3 H p l as ns (upd (upd H7 o1 (.lst [.non])) o2 (.lst (natV ks5 ++ [.non]))) ∧
            (upd (upd H7 o1 (.lst [.non])) o2 (.lst (natV ks5 ++ [.non]))) o2 = some (.lst ((ks5.map some ++ [none]).map tgV)) ∧ p ≠ o2 ∧ l ≠ o2 ∧ GoodTg (1 + m) (ks5.map some ++ [none]) := by
          intro H7 md7 hq7 o1 o2 ho1 ho2
          have ho27 := Same.free (same_new (o := .lst [.non]) ho1) ho2
          refine ⟨md7.same ((same_new ho1).trans (same_new ho2)) hpl, by rw [upd_same, List.map_append, natV_tg]; rfl, md7.f.ne ho27, ne_of_none md7.l ho27, by simp, ks5, true, rfl, hri5, hlt5⟩
        by_cases hk0 : ks5.map some = []
        · rw [decide_eq_true hk0]
          refine iteT (iteT ⟨_, rfl, (by show 1 ≤ sizeLine; decide), fun o2 ho2 => ⟨q5, o2, natV ks5, [.non], rfl, rfl, by rw [upd_ne (ne_of_none hq6 ho2)]; exact hq6, upd_same, ?_, fun o3 ho3 => ?_⟩⟩)
          · unfold natV
            rw [List.length_map, sizeLine_eq]
            show ks5.length + 1 ≤ _
            omega
          · obtain ⟨m1, m2, m3, m4, m5⟩ := addNone _ md6 hq6 o2 o3 ho2 ho3
            exact ⟨o3, ks5.map some ++ [none], v75, v85, rfl, m1, m2, m3, m4, m5⟩
        · rw [decide_eq_false hk0]
          refine iteF ⟨_, rfl, p, 4, rfl, md6.f, by decide, by decide, fun r H7 hr7 b7 f7 => ⟨rfl, _, rfl, ?_⟩⟩
          have md7 := md6.but b7 f7 hpl
          have hq7 := b7 _ _ hpq5.symm hq6
          by_cases hr0 : r = 0
          · subst hr0
            refine iteT ⟨_, rfl, (by show 1 ≤ sizeLine; decide), fun o2 ho2 => ⟨q5, o2, natV ks5, [.non], rfl, rfl, by rw [upd_ne (ne_of_none hq7 ho2)]; exact hq7, upd_same, ?_, fun o3 ho3 => ?_⟩⟩
            · unfold natV
              rw [List.length_map, sizeLine_eq]
              show ks5.length + 1 ≤ _
              omega
            · obtain ⟨m1, m2, m3, m4, m5⟩ := addNone _ md7 hq7 o2 o3 ho2 ho3
              exact ⟨o3, ks5.map some ++ [none], v75, v85, rfl, m1, m2, m3, m4, m5⟩
          · rw [decide_eq_false (p := V.int (r : Int) = V.int 0) (fun e => hr0 (by have := V.int.inj e; omega))]
            exact iteF (⟨q5, ks5.map some, v75, v85, rfl, md7, by rw [hq7, natV_tg], hpq5, hlq5, hk0, ks5, false, by simp, hri5, hlt5⟩)
      rintro σ H6 ⟨q6, tg, v76, v86, rfl, md6, hq6, hpq6, hlq6, hgt⟩
      refine ⟨_, rfl, (by show 3 ≤ sizeLine; decide), fun o1 ho1 => ?_⟩
      have s7 := same_new (o := .lst [.str "read", .str "write", .str "write"]) ho1
      refine ⟨p, o1, _, rfl, md6.f.same s7, md6.f.ne ho1, SqL.of upd_same, by decide, by decide, fun r v H8 hv b8 f8 => ?_⟩
      have md8 := (md6.same s7 hpl).but b8 f8 hpl
      have hq8 := b8 _ _ hpq6.symm (s7 _ _ hq6)
      obtain ⟨wd, rfl, hwd⟩ : ∃ wd : Str, v = .str wd ∧ (wd = sRead ∨ wd = sWrite) := by
        match r, hv with
        | 0, e => exact ⟨sRead, (Option.some.inj e).symm, .inl rfl⟩
        | 1, e => exact ⟨sWrite, (Option.some.inj e).symm, .inr rfl⟩
        | 2, e => exact ⟨sWrite, (Option.some.inj e).symm, .inr rfl⟩
        | _ + 3, e => cases e
      refine ⟨_, rfl, .inl ⟨rfl, _, SqL.of md8.l⟩, _, rfl, _, rfl, _, rfl, c, _, rfl, .inl (Vf.SqL.but hS md8.b hpc.symm), fun o2 ho2 => ?_⟩
      have s9 := same_new (o := .lst (nm.map V.str)) ho2
      refine ⟨p, o2, _, rfl, md8.f.same s9, md8.f.ne ho2, SqL.of upd_same, ?_, ?_, fun r2 v2 H9 hv2 b9 f9 => ?_⟩
      · rw [List.length_map]
        exact List.length_pos_iff.mpr hnm
      · rw [List.length_map]
        omega
      have md9 := (md8.same s9 hpl).but b9 f9 hpl
      have hq9 := b9 _ _ hpq6.symm (s9 _ _ hq8)
      obtain ⟨z, rfl, hz⟩ : ∃ z : Str, v2 = .str z ∧ z ∈ nm := by
        rw [List.getElem?_map] at hv2
        cases e : nm[r2]? with
        | none => rw [e] at hv2; cases hv2
        | some z =>
          rw [e] at hv2
          exact ⟨z, (Option.some.inj hv2).symm, List.mem_of_getElem? e⟩
      refine ⟨_, rfl, q6, _, rfl, .inl ⟨SqL.of hq9, fun t1 ht1 => ⟨(by show 3 ≤ sizeLine; decide), fun a ha => ?_⟩⟩⟩
      have s10 := (same_new (o := .tup (tg.map tgV)) ht1).trans (same_new (o := .tup [.str wd, .str z, .ref t1]) ha)
      have md10 := md9.same s10 hpl
      have hta : t1 ≠ a := fun e => by
        rw [← e, upd_same] at ha
        cases ha
      have hna : NodeAt (upd (upd H9 t1 (.tup (tg.map tgV))) a (.tup [.str wd, .str z, .ref t1])) a ⟨wd, z, tg⟩ := ⟨t1, upd_same, by rw [upd_ne hta, upd_same]⟩
      refine ⟨l, _, _, rfl, rfl, md10.l, ?_, ?_⟩
      · rw [List.length_map, md10.n.1, hns, sizeLine_eq]
        omega
      · refine ⟨as ++ [a], ns ++ [⟨wd, z, tg⟩], _, _, _, _, rfl, ⟨md10.b.new hl0, md10.f.put hpl, by rw [upd_same, List.map_append]; rfl, by rw [List.length_append, List.length_append, md10.n.1]; rfl, fun j b' n' hj hm' => ?_⟩, by rw [List.length_append, hns]; rfl, fun n' hn' => ?_⟩
        · have hbut : But l (upd (upd H9 t1 (.tup (tg.map tgV))) a (.tup [.str wd, .str z, .ref t1])) (upd (upd (upd H9 t1 (.tup (tg.map tgV))) a (.tup [.str wd, .str z, .ref t1])) l (.lst (as.map V.ref ++ [.ref a]))) := (But.refl _ _).put
          by_cases hj' : j < as.length
          · rw [List.getElem?_append_left hj'] at hj
            rw [List.getElem?_append_left (by rw [← md10.n.1]; exact hj')] at hm'
            exact (md10.n.2 j b' n' hj hm').but hbut ⟨_, md10.l⟩
          · have ej : j = as.length := by
              have := (List.getElem?_eq_some_iff.mp hj).1
              rw [List.length_append, List.length_singleton] at this
              omega
            subst ej
            rw [List.getElem?_append_right (Nat.le_refl _), Nat.sub_self] at hj
            rw [md10.n.1, List.getElem?_append_right (Nat.le_refl _), Nat.sub_self] at hm'
            obtain rfl : a = b' := by simpa using hj
            obtain rfl : (⟨wd, z, tg⟩ : Nd) = n' := by simpa using hm'
            exact hna.but hbut ⟨_, md10.l⟩
        · rcases List.mem_append.mp hn' with h | h
          · exact hgood n' h
          · rw [List.mem_singleton.mp h]
            exact ⟨hwd, hnames z hz, hgt⟩
    · rintro σ H2 ⟨as, ns, v5, v6, v7, v8, rfl, md, hns, hgood⟩
      refine ⟨_, rfl, l, _, rfl, .inl ⟨SqL.of md.l, fun t ht => ?_⟩⟩
      have ht0 := md.b.free md.f ht
      refine k t ns _ (md.b.new ht0) (md.f.put (hp.ne ht0)) ht0 ⟨as, upd_same, md.n.same (same_new ht)⟩ ⟨by omega, fun e => ?_, ?_⟩
      · rw [e] at hns
        have : 0 = 1 + m := hns
        omega
      · rw [hns]
        exact hgood
end
end Vf

set_option maxRecDepth 100000
set_option maxHeartbeats 8000000
namespace Vf
open PySem PySem.Spec PyProof.Rows L2
def signsV (l : List Nat) : List V := l.map fun c => V.str ⟨#[c]⟩
def signsD (l : List Nat) : List PyData := l.map fun c => PyData.str ⟨#[c]⟩
theorem plain_signs : ∀ {l : List Nat}, (∀ c ∈ l, c < 1114112) → plainAll (signsD l) = true
  | [], _ => rfl
  | c :: r, h => by
    have hc := h c List.mem_cons_self
    have ih := plain_signs (l := r) fun d hd => h d (List.mem_cons_of_mem _ hd)
    show (plainD (PyData.str ⟨#[c]⟩) && plainAll (signsD r)) = true
    rw [ih, Bool.and_true]
    show PyData.strOk ⟨#[c]⟩ = true
    unfold PyData.strOk
    simpa using hc
theorem bad_signs (l : List Nat) : (l.filterMap fun c => if (decide (48 ≤ c) && decide (c ≤ 57)) = true then none else some (V.str ⟨#[c]⟩)) = signsV (l.filter fun c => !(decide (48 ≤ c) && decide (c ≤ 57))) := by
  induction l with
  | nil => rfl
  | cons c r ih =>
    rw [List.filterMap_cons, List.filter_cons, ih]
    cases g : (decide (48 ≤ c) && decide (c ≤ 57)) with
    | true => rfl
    | false => rfl
theorem depth_signs : ∀ l : List Nat, PyData.depthAll (signsD l) = 0
  | [] => rfl
  | c :: r => by
    show max (PyData.depth (PyData.str ⟨#[c]⟩)) (PyData.depthAll (signsD r)) = 0
    rw [depth_signs r]
    rfl
theorem dp_signs {K : PySem.W.Frag} {H : Hp} : ∀ l : List Nat, DpAll K H (signsV l) (signsD l)
  | [] => .nil
  | c :: r => .cons (.str _) (dp_signs r)
theorem eqv_signs {l : List Nat} (h : ∀ c ∈ l, c < 1114112) : PyData.eqv (.list (signsD l)) (.list (signsD [])) = decide (l = []) :=
  eqv_dec (by simp only [plainD, plain_signs h]) (by simp only [plainD, plain_signs (l := []) (fun _ hc => by cases hc)]) (by
    constructor
    · intro e
      cases l with
      | nil => rfl
      | cons c r =>
        have := PyData.list.inj e
        cases this
    · rintro rfl
      rfl)
theorem shaped_signs {l : List Nat} (h : ∀ c ∈ l, c < 1114112) : SeqAt.shaped (.list (signsD l)) = true :=
  shaped_of (by simp only [plainD, plain_signs h]) (by simp only [PyData.depth, depth_signs]; decide)
def Fair (z : Str) : Prop := ∀ c ∈ TL.tl z, c < 1114112
theorem tl_nil {z : Str} : TL.tl z = [] ↔ z = Str.ofString "" := by
  constructor
  · intro h
    exact TL.ext_tl (h.trans (by decide +kernel))
  · rintro rfl
    decide +kernel
section
variable {P : Program} {w : World} {K : PySem.W.Frag} {mg : Str → Option Value} {base : Heap}
def sp_law_number : Sp := fun vs H Q _ => ∃ z : Str, vs = [.str z] ∧ Fair z ∧ z.length ≤ 100000 ∧ (lawNum z = none → ∀ H', Same H H' → Q .non H') ∧ ∀ k : Nat, lawNum z = some k → ∀ H', Same H H' → Q (.int (k : Int)) H'
theorem ok_law_number {f : Addr} {fd : FuncData} (F : Fun K "_law_number" "_law_number" s_law_number f fd) (T0 : Txt0 K mg) (hint : mg "int" = none) : FnOk P w K mg base CX0 1 f fd p_law_number sp_law_number := by
  refine F.ok sc_law_number (fun vs H Q E h => ?_) (fun cdv A outer s H vs Q E hr h => ?_)
  · obtain ⟨z, rfl, _⟩ := h
    rfl
  · obtain ⟨z, rfl, fair, hz, kN, kS⟩ := h
    refine ⟨_, C8.pss_cut (ps_if (PW.pt (pw_or (pt_cmpR op_eq (pv 0) pe_str (nomark _))
          (pw_or (PW.pt (pw_and (pt_cmpR op_gt (pe_callB call_len_str (by rfl) T0.len PySem.boot_len (pa_cons (pv 0) pa_nil)) pe_int (nomark _)) (pw_and1 (pt_cmpR op_eq (pe_ix ix_str (pv 0) pe_int (fun _ _ => rfl)) pe_str (nomark _)))))
          (pw_or1 (pt_cmpR op_gt (pe_callB call_len_str (by rfl) T0.len PySem.boot_len (pa_cons (pv 0) pa_nil)) pe_int (nomark _)))))) (pss_one (ps_ret pe_non)) pss_nil)
      (pss_one (ps_ret (pe_ifExp (pt_cmpR (op_eqD hr.units) (pe_lc (own := [("sign", 1)]) (g := gName 1) rfl sc_law_number.nd (pi_str (pv 0)) (blkOk_by (N := n_law_number) (sc := defScope s_law_number) (by decide +kernel))
            (fun _ _ _ _ _ => pg_name (i := 1) sc_law_number.nd rfl (Or.inl rfl)) (fun _ _ _ _ _ => pts_one (pt_cmpR op_notIn_sign (pv 1) pe_str rfl)) (fun _ _ _ _ _ => pv 1)) (pe_lst pa_nil) (nomark _))
          (pe_callTy call_int_str (by rfl) hint (by decide +kernel) (pa_cons (pv 0) pa_nil)) pe_non))), ?_⟩
    have hzl : z.length ≤ sizeLine := by
      rw [sizeLine_eq]
      omega
    have hlen : z.length = (TL.tl z).length := TL.len_tl z
    refine ⟨fun σ H' => σ = [some (.str z), none] ∧ H' = H ∧ ¬ (TL.tl z = [] ∨ ((TL.tl z).length > 1 ∧ (TL.tl z).head? = some 48) ∨ (TL.tl z).length > 4), ?_, ?_⟩
    · refine ⟨_, rfl, rfl, _, rfl, ?_⟩
      by_cases h0 : TL.tl z = []
      · rw [decide_eq_true (p := V.str z = V.str "") (by rw [tl_nil.mp h0])]
        exact iteT (iteT (kN (if_pos (.inl h0)) H (Same.refl H)))
      rw [decide_eq_false (p := V.str z = V.str "") (fun e => h0 (tl_nil.mpr (V.str.inj e)))]
      obtain ⟨c0, r0, hcr⟩ := List.exists_cons_of_ne_nil h0
      have h48 : (V.str (⟨#[c0]⟩ : Str) = V.str "0") ↔ c0 = 48 := by
        constructor
        · intro e
          have e2 : TL.tl (⟨#[c0]⟩ : Str) = TL.tl "0" := by rw [V.str.inj e]
          rw [show TL.tl "0" = [48] from by decide +kernel] at e2
          simpa [TL.tl] using e2
        · rintro rfl
          exact congrArg V.str (by decide +kernel)
      refine iteF ⟨_, rfl, z, rfl, hzl, _, _, rfl, rfl, _, rfl, ?_⟩
      by_cases h1 : 1 < (TL.tl z).length
      · rw [decide_eq_true (p := (1 : Int) < ((z.length : Nat) : Int)) (by omega)]
        refine iteT ⟨_, rfl, z, (0 : Int), c0, rfl, rfl, hzl, atI_nat (j := 0) (by show (TL.tl z)[0]? = some c0; rw [hcr]; rfl), rfl, _, rfl, ?_⟩
        by_cases h2 : c0 = 48
        · rw [decide_eq_true (p := V.str (⟨#[c0]⟩ : Str) = V.str "0") (h48.mpr h2)]
          exact iteT (iteT (kN (if_pos (.inr (.inl ⟨h1, by rw [hcr, h2]; rfl⟩))) H (Same.refl H)))
        · rw [decide_eq_false (p := V.str (⟨#[c0]⟩ : Str) = V.str "0") (fun e => h2 (h48.mp e))]
          refine iteF ⟨_, rfl, z, rfl, hzl, _, _, rfl, rfl, _, rfl, ?_⟩
          by_cases h4 : 4 < (TL.tl z).length
          · rw [decide_eq_true (p := (4 : Int) < ((z.length : Nat) : Int)) (by omega)]
            exact iteT (kN (if_pos (.inr (.inr h4))) H (Same.refl H))
          · rw [decide_eq_false (p := (4 : Int) < ((z.length : Nat) : Int)) (by omega)]
            refine iteF ⟨rfl, rfl, ?_⟩
            rintro (q | ⟨_, q⟩ | q)
            · exact h0 q
            · rw [hcr] at q
              exact h2 (by simpa using q)
            · exact h4 q
      · rw [decide_eq_false (p := (1 : Int) < ((z.length : Nat) : Int)) (by omega)]
        refine iteF ⟨_, rfl, z, rfl, hzl, _, _, rfl, rfl, _, rfl, ?_⟩
        rw [decide_eq_false (p := (4 : Int) < ((z.length : Nat) : Int)) (by omega)]
        refine iteF ⟨rfl, rfl, ?_⟩
        rintro (q | ⟨q, _⟩ | q)
        · exact h0 q
        · exact h1 q
        · omega
    rintro σ H1 ⟨rfl, rfl, hn⟩
    have ez : z.cps.toList = TL.tl z := rfl
    have wz : Walk (Its z) (TL.tl z).length (fun _ => True) (fun i H v H' => H' = H ∧ ∃ c, z.cps[i]? = some c ∧ v = .str ⟨#[c]⟩) := by
      rw [← ez, Array.length_toList]
      exact walk_str
    refine ⟨_, rfl, z, rfl, fun D hD => lc_fm (TL.tl z) wz hD (fun c => if (decide (48 ≤ c) && decide (c ≤ 57)) = true then none else some (V.str ⟨#[c]⟩)) (by omega) (fun _ _ => trivial) ?_ ?_⟩
    · rintro i c x H2 H3 hc s2 ⟨rfl, c', hc', rfl⟩ R hR
      obtain rfl : c' = c := by
        rw [TL.tl, Array.getElem?_toList] at hc
        exact Option.some.inj (hc'.symm.trans hc)
      have e09 : ("0123456789" : Str).cps.toList = [48, 49, 50, 51, 52, 53, 54, 55, 56, 57] := by decide +kernel
      have hin : decide (c' ∈ ("0123456789" : Str).cps.toList) = (decide (48 ≤ c') && decide (c' ≤ 57)) := by
        rw [e09]
        by_cases g1 : 48 ≤ c' ∧ c' ≤ 57
        · rw [decide_eq_true g1.1, decide_eq_true g1.2]
          refine decide_eq_true ?_
          simp only [List.mem_cons, List.not_mem_nil, or_false]
          omega
        · have : ¬ c' ∈ [48, 49, 50, 51, 52, 53, 54, 55, 56, 57] := by
            simp only [List.mem_cons, List.not_mem_nil, or_false]
            omega
          rw [decide_eq_false this]
          rcases Nat.lt_or_ge c' 48 with g | g
          · rw [decide_eq_false (p := 48 ≤ c') (by omega)]
            rfl
          · rw [decide_eq_false (p := c' ≤ 57) (by omega), Bool.and_false]
      have hk := hR H3 (Same.refl H3)
      refine ⟨rfl, _, rfl, c', _, rfl, rfl, _, rfl, ?_⟩
      rw [hin]
      cases g : (decide (48 ≤ c') && decide (c' ≤ 57)) with
      | true =>
        rw [g] at hk
        exact iteF hk
      | false =>
        rw [g] at hk
        exact iteT ⟨_, rfl, hk⟩
    · intro H2 s2 hL
      rw [bad_signs] at hL
      have fb : ∀ c ∈ (TL.tl z).filter (fun c => !(decide (48 ≤ c) && decide (c ≤ 57))), c < 1114112 := fun c hc => fair c (List.mem_filter.mp hc).1
      refine ⟨Nat.zero_le _, fun o ho => ⟨.list (signsD _), .list (signsD []), .lst (SqL.of (same_new ho _ _ hL)) (dp_signs _), .lst (SqL.of upd_same) (dp_signs []), shaped_signs fb, shaped_signs (fun _ hc => by cases hc), _, rfl, ?_⟩⟩
      rw [eqv_signs fb]
      have s3 := s2.trans (same_new (o := .lst []) ho)
      by_cases hb : (TL.tl z).filter (fun c => !(decide (48 ≤ c) && decide (c ≤ 57))) = []
      · have hall : ((TL.tl z).all fun c => decide (48 ≤ c) && decide (c ≤ 57)) = true := by
          rw [List.all_eq_true]
          intro c hc
          have := List.filter_eq_nil_iff.mp hb c hc
          simpa using this
        have e : lawNum z = some (NumText.digitsVal (TL.tl z)) := by
          unfold lawNum
          rw [if_neg hn, if_pos hall]
        have h4 : (TL.tl z).length ≤ 4 := Nat.le_of_not_lt fun q => hn (.inr (.inr q))
        rw [decide_eq_true hb]
        refine iteT ⟨_, rfl, z, _, rfl, PySem.intText_digits (all_dig.mp hall) (fun q => hn (.inl q)) (by omega), by omega, kS _ e _ s3⟩
      · have hall : ((TL.tl z).all fun c => decide (48 ≤ c) && decide (c ≤ 57)) = false := by
          cases q : ((TL.tl z).all fun c => decide (48 ≤ c) && decide (c ≤ 57)) with
          | false => rfl
          | true =>
            refine absurd (List.filter_eq_nil_iff.mpr fun c hc => ?_) hb
            have := List.all_eq_true.mp q c hc
            simpa using this
        have e : lawNum z = none := by
          unfold lawNum
          rw [if_neg hn, hall, if_neg Bool.false_ne_true]
        rw [decide_eq_false hb]
        exact iteF (kN e _ s3)
end
end Vf

set_option maxRecDepth 100000
set_option maxHeartbeats 8000000
namespace Vf
open PySem PySem.Spec PyProof.Rows L2
theorem bad_signs2 (g : Nat → Bool) (l : List Nat) : (l.filterMap fun c => if g c = true then none else some (V.str ⟨#[c]⟩)) = signsV (l.filter fun c => !g c) := by
  induction l with
  | nil => rfl
  | cons c r ih =>
    rw [List.filterMap_cons, List.filter_cons, ih]
    cases g c with
    | true => rfl
    | false => rfl
theorem cut_three {x y z : V} {xs : List V} : cutV (x :: y :: z :: xs) (some 3) none = xs := by
  unfold cutV
  have e : HT.sIx (x :: y :: z :: xs).length 0 (some 3) = 3 := by
    show (if (3 : Int) < 0 then ((3 : Int) + ((xs.length + 3 : Nat) : Int)).toNat else min (3 : Int).toNat (xs.length + 3)) = 3
    rw [if_neg (by decide)]
    show min 3 (xs.length + 3) = 3
    omega
  rw [e, HT.sIx_none]
  simp
theorem part_fair {x y z : Str} (h : z ∈ Txt.split x y) (f : Fair x) : Fair z := by
  have e := StrLaws.join_split x y
  generalize Txt.split x y = l at h e
  intro c hc
  refine f c ?_
  rw [← e]
  clear e
  induction l with
  | nil => cases h
  | cons a r ih =>
    cases r with
    | nil =>
      rw [List.mem_singleton.mp h] at hc
      exact hc
    | cons b r =>
      show c ∈ TL.tl (a ++ y ++ Str.join y (b :: r))
      rw [TL.tl_append, TL.tl_append]
      rcases List.mem_cons.mp h with rfl | h
      · exact List.mem_append_left _ (List.mem_append_left _ hc)
      · exact List.mem_append_right _ (ih h)
theorem name_iff {c : Str} : isNameT c = true ↔ 1 ≤ c.length ∧ c.length ≤ 8 ∧ (TL.tl c).filter (fun d => !(decide (97 ≤ d) && decide (d ≤ 122))) = [] := by
  unfold isNameT
  rw [Bool.and_eq_true, Bool.and_eq_true, decide_eq_true_eq, decide_eq_true_eq, List.all_eq_true, List.filter_eq_nil_iff, and_assoc]
  refine and_congr_right fun _ => and_congr_right fun _ => ?_
  constructor
  · intro h d hd
    have := h d hd
    simp only [this, Bool.not_true]
    simp
  · intro h d hd
    have := h d hd
    simpa using this
section
variable {P : Program} {w : World} {K : PySem.W.Frag} {mg : Str → Option Value} {base : Heap}
def sp_law_node : Sp := fun vs H Q _ => ∃ (row : Str) (many : Nat), vs = [.str row, .int (many : Int)] ∧ Fair row ∧ many ≤ 1000 ∧ row.length ≤ 100000 ∧ (Txt.split row sSp).length ≤ 4000 ∧
  (nodeT many row = none → ∀ H', Same H H' → Q .non H') ∧ ∀ n, nodeT many row = some n → ∀ a H', Same H H' → NodeAt H' a n → Q (.ref a) H'
theorem ok_law_node {f : Addr} {fd : FuncData} (F : Fun K "_law_node" "_law_node" s_law_node f fd) (T : Txt0 K mg) (GN : OkF P w K mg base CX0 "_law_number" p_law_number 1 sp_law_number) :
    FnOk P w K mg base CX0 2 f fd p_law_node sp_law_node := by
  refine F.ok sc_law_node (fun vs H Q E h => ?_) (fun cdv A outer s H vs Q E hr h => ?_)
  · obtain ⟨row, many, rfl, _⟩ := h
    rfl
  · obtain ⟨row, many, rfl, fair, hm, hl, hw, kN, kS⟩ := h
    refine ⟨_, pss_cons (ps_set (i := 2) sc_law_node.nd rfl (Or.inl rfl) (pe_split (pv 0) pe_str))
      (pss_cons (ps_if (PW.pt (pw_or (pt_cmpR op_lt (pe_callB call_len_seq (by rfl) T.len PySem.boot_len (pa_cons (pv 2) pa_nil)) pe_int (nomark _))
          (pw_or (pt_cmpR op_notIn_seq (pe_ix ix_list (pv 2) pe_int (fun _ _ => rfl)) (pe_tup (pa_cons pe_str (pa_cons pe_str pa_nil))) rfl)
          (pw_or1 (pt_not (pt_chain op_le op_le pe_int (pe_callB call_len_str (by rfl) T.len PySem.boot_len (pa_cons (pe_ix ix_list (pv 2) pe_int (fun _ _ => rfl)) pa_nil)) pe_int)))))) (pss_one (ps_ret pe_non)) pss_nil)
      (pss_cons (ps_if (pt_cmpR (op_neD hr.units) (pe_lc (own := [("sign", 8)]) (g := gName 8) rfl sc_law_node.nd (pi_str (pe_ix ix_list (pv 2) pe_int (fun _ _ => rfl))) (blkOk_by (N := n_law_node) (sc := defScope s_law_node) (by decide +kernel))
            (fun _ _ _ _ _ => pg_name (i := 8) sc_law_node.nd rfl (Or.inl rfl)) (fun _ _ _ _ _ => pts_one (pt_cmpR op_notIn_sign (pv 8) pe_str rfl)) (fun _ _ _ _ _ => pv 8)) (pe_lst pa_nil) (nomark _)) (pss_one (ps_ret pe_non)) pss_nil)
      (pss_cons (ps_if (pt_cmpR op_eq (pe_callB call_len_seq (by rfl) T.len PySem.boot_len (pa_cons (pv 2) pa_nil)) pe_int (nomark _))
          (pss_one (ps_ret (pe_tup (pa_cons (pe_ix ix_list (pv 2) pe_int (fun _ _ => rfl)) (pa_cons (pe_ix ix_list (pv 2) pe_int (fun _ _ => rfl)) (pa_cons (pe_tup (pa_cons pe_non pa_nil)) pa_nil)))))) pss_nil)
      (pss_cons (ps_if (PW.pt (pw_or (pt_cmpR op_ne (pe_ix ix_list (pv 2) pe_int (fun _ _ => rfl)) pe_str (nomark _)) (pw_or1 (pt_cmpR op_eq (pe_callB call_len_seq (by rfl) T.len PySem.boot_len (pa_cons (pv 2) pa_nil)) pe_int (nomark _))))) (pss_one (ps_ret pe_non)) pss_nil)
      (pss_cons (ps_par (i := 3) (j := 4) rfl sc_law_node.nd rfl rfl (by decide) rfl rfl (pa_cons (pe_lst pa_nil) (pa_cons (pe_un un_neg pe_int) pa_nil)) (by rfl))
      (pss_cons (ps_for PassesOwn.never rfl (pi_enum (by rfl) T.enumerate (pa_cons (pe_slice sl_list (pv 2) (po_some pe_int) po_none) pa_nil))
          (pg_tup (by rfl) (pgs_cons (pg_name (i := 5) sc_law_node.nd rfl (Or.inl rfl)) (pgs_cons (pg_name (i := 6) sc_law_node.nd rfl (Or.inl rfl)) pgs_nil)))
        (pss_one (ps_if (PW.pt (pw_and (pt_cmpR op_eq (pv 6) pe_str (nomark _)) (pw_and1 (pt_cmpR op_eq (pe_op op_add (pv 5) pe_int) (pe_callB call_len_seq (by rfl) T.len PySem.boot_len (pa_cons (pv 2) pa_nil)) (nomark _)))))
          (pss_one (ps_expr (pe_bm PySem.F.plainAttrs_list PySem.F.slot_list_append PySem.F.type_list_append mt_append (pv 3) (pa_cons pe_non pa_nil))))
          (pss_cons (ps_set (i := 7) sc_law_node.nd rfl (Or.inl rfl) (pe_fn GN hr rfl pass0 (pa_cons (pv 6) pa_nil)))
          (pss_cons (ps_if (PW.pt (pw_or (pt_cmpR op_isN (pv 7) pe_non (nomark _)) (pw_or1 (pt_not (pt_chain op_lt op_lt (pv 4) (pv 7) (pv 1)))))) (pss_one (ps_ret pe_non)) pss_nil)
          (pss_cons (ps_set (i := 4) sc_law_node.nd rfl (Or.inl rfl) (pv 7))
          (pss_one (ps_expr (pe_bm PySem.F.plainAttrs_list PySem.F.slot_list_append PySem.F.type_list_append mt_append (pv 3) (pa_cons (pv 7) pa_nil))))))))))
      (pss_one (ps_ret (pe_tup (pa_cons (pe_ix ix_list (pv 2) pe_int (fun _ _ => rfl)) (pa_cons (pe_ix ix_list (pv 2) pe_int (fun _ _ => rfl)) (pa_cons (pe_callTy call_tuple_of (by rfl) T.tuple (by decide +kernel) (pa_cons (pv 3) pa_nil)) pa_nil)))))))))))), ?_⟩
    have hsz : row.length + 2 ≤ sizeLine := by
      rw [sizeLine_eq]
      omega
    refine ⟨_, rfl, ⟨_, rfl⟩, _, sSp, rfl, rfl, (by decide +kernel), hsz, fun p hp => ?_⟩
    have s1 := same_new (o := .lst ((Txt.split row sSp).map V.str)) hp
    refine ⟨_, rfl, p, _, rfl, .inl (SqL.of upd_same), _, _, rfl, rfl, _, rfl, ?_⟩
    rw [List.length_map]
    by_cases h2 : (Txt.split row sSp).length < 2
    · rw [decide_eq_true (p := (((Txt.split row sSp).length : Nat) : Int) < 2) (by omega)]
      exact iteT (iteT (kN (nodeT_short h2) _ s1))
    rw [decide_eq_false (p := (((Txt.split row sSp).length : Nat) : Int) < 2) (by omega)]
    obtain ⟨w0, c, rest, hsp⟩ : ∃ w0 c rest, Txt.split row sSp = w0 :: c :: rest := by
      match Txt.split row sSp, h2 with
      | [], h => exact absurd (show 0 < 2 by decide) h
      | [_], h => exact absurd (show 1 < 2 by decide) h
      | a :: b :: r, _ => exact ⟨a, b, r, rfl⟩
    have hpl : (upd H p (.lst ((Txt.split row sSp).map V.str))) p = some (.lst ((w0 :: c :: rest).map V.str)) := by rw [upd_same, hsp]
    have en := nodeT_cons (many := many) hsp
    have hmem : ∀ z ∈ w0 :: c :: rest, z ∈ Txt.split row sSp := fun z hz => by rw [hsp]; exact hz
    have hfc : Fair c := part_fair (hmem c (by simp)) fair
    have hlc : c.length ≤ 100000 := Nat.le_trans (part_len (hmem c (by simp))) hl
    have hcl : c.length ≤ sizeLine := by
      rw [sizeLine_eq]
      omega
    refine iteF ⟨_, rfl, p, _, (0 : Int), .str w0, rfl, rfl, SqL.of hpl, at_of (j := 0) rfl rfl, (by show 2 ≤ sizeLine; decide), fun t0 ht0 => ?_⟩
    have s2 := s1.trans (same_new (o := .tup [.str ("read" : Str), .str ("write" : Str)]) ht0)
    have hp2 := same_new (o := .tup [.str ("read" : Str), .str ("write" : Str)]) ht0 _ _ hpl
    generalize hHa : upd (upd H p (.lst ((Txt.split row sSp).map V.str))) t0 (.tup [.str ("read" : Str), .str ("write" : Str)]) = Ha at s2 hp2 ⊢
    have ht0a : Ha t0 = some (.tup [.str sRead, .str sWrite]) := by
      rw [← hHa, upd_same]
      rfl
    refine ⟨t0, _, rfl, .inr (SqT.of ht0a), rfl, rfl, _, rfl, ?_⟩
    have hin : inV (.str w0) [V.str sRead, V.str sWrite] = decide (w0 = sRead ∨ w0 = sWrite) := by
      by_cases e1 : w0 = sRead
      · subst e1
        rw [decide_eq_true (.inl rfl)]
        decide +kernel
      by_cases e2 : w0 = sWrite
      · subst e2
        rw [decide_eq_true (.inr rfl)]
        decide +kernel
      rw [decide_eq_false (by rintro (e | e); exact e1 e; exact e2 e)]
      show ([V.str sRead, V.str sWrite].any fun y => eqV y (.str w0)) = false
      rw [List.any_cons, List.any_cons, List.any_nil]
      have f1 : eqV (.str sRead) (.str w0) = false := decide_eq_false fun e => e1 e.symm
      have f2 : eqV (.str sWrite) (.str w0) = false := decide_eq_false fun e => e2 e.symm
      rw [f1, f2]
      rfl
    show if (if true = true then !inV (.str w0) [V.str sRead, V.str sWrite] else _) = true then _ else _
    rw [if_pos rfl, hin]
    by_cases hw0 : w0 = sRead ∨ w0 = sWrite
    case neg =>
      rw [decide_eq_false hw0]
      refine iteT (iteT (kN ?_ _ s2))
      rw [en, if_neg (fun h => hw0 h.1)]
    rw [decide_eq_true hw0]
    have noName : isNameT c = false → nodeT many row = none := fun e => by
      rw [en, if_neg (fun h => by rw [e] at h; exact Bool.false_ne_true h.2)]
    refine iteF ⟨_, rfl, p, _, (1 : Int), .str c, rfl, rfl, SqL.of hp2, at_of (j := 1) rfl rfl, c, rfl, hcl, 1, (c.length : Int), rfl, rfl, decide ((1 : Int) ≤ c.length), rfl, ?_⟩
    by_cases g1 : (1 : Int) ≤ c.length
    case neg =>
      rw [decide_eq_false g1]
      refine iteF ⟨_, rfl, iteT (kN (noName ?_) _ s2)⟩
      unfold isNameT
      rw [decide_eq_false (by omega)]
      rfl
    rw [decide_eq_true g1]
    refine iteT ⟨_, _, rfl, rfl, ⟨_, rfl, ?_⟩⟩
    by_cases g2 : (c.length : Int) ≤ 8
    case neg =>
      rw [decide_eq_false g2]
      refine iteT (kN (noName ?_) _ s2)
      unfold isNameT
      rw [decide_eq_false (p := c.length ≤ 8) (by omega), Bool.and_false]
      rfl
    rw [decide_eq_true g2]
    have ez : c.cps.toList = TL.tl c := rfl
    have wz : Walk (Its c) (TL.tl c).length (fun _ => True) (fun i H v H' => H' = H ∧ ∃ d, c.cps[i]? = some d ∧ v = .str ⟨#[d]⟩) := by
      rw [← ez, Array.length_toList]
      exact walk_str
    have hlt : (TL.tl c).length = c.length := (TL.len_tl c).symm
    refine iteF ⟨_, rfl, p, _, (1 : Int), .str c, rfl, rfl, SqL.of hp2, at_of (j := 1) rfl rfl, c, rfl, fun D hD => lc_fm (TL.tl c) wz hD (fun d => if (decide (97 ≤ d) && decide (d ≤ 122)) = true then none else some (V.str ⟨#[d]⟩)) (by omega) (fun _ _ => trivial) ?_ ?_⟩
    · rintro i d x H2 H3 hc s3 ⟨rfl, d', hd', rfl⟩ R hR
      obtain rfl : d' = d := by
        rw [TL.tl, Array.getElem?_toList] at hc
        exact Option.some.inj (hd'.symm.trans hc)
      have eaz : ("abcdefghijklmnopqrstuvwxyz" : Str).cps.toList = List.range' 97 26 := by decide +kernel
      have hin2 : decide (d' ∈ ("abcdefghijklmnopqrstuvwxyz" : Str).cps.toList) = (decide (97 ≤ d') && decide (d' ≤ 122)) := by
        rw [eaz, ← Bool.decide_and]
        refine decide_eq_decide.mpr ?_
        rw [List.mem_range'_1]
        omega
      have hk := hR H3 (Same.refl H3)
      refine ⟨rfl, _, rfl, d', _, rfl, rfl, _, rfl, ?_⟩
      rw [hin2]
      cases g : (decide (97 ≤ d') && decide (d' ≤ 122)) with
      | true =>
        rw [g] at hk
        exact iteF hk
      | false =>
        rw [g] at hk
        exact iteT ⟨_, rfl, hk⟩
    intro H4 s4 hL
    rw [bad_signs2] at hL
    have fb : ∀ d ∈ (TL.tl c).filter (fun d => !(decide (97 ≤ d) && decide (d ≤ 122))), d < 1114112 := fun d hd => hfc d (List.mem_filter.mp hd).1
    refine ⟨Nat.zero_le _, fun o ho => ⟨.list (signsD _), .list (signsD []), .lst (SqL.of (same_new ho _ _ hL)) (dp_signs _), .lst (SqL.of upd_same) (dp_signs []), shaped_signs fb, shaped_signs (fun _ hc => by cases hc), _, rfl, ?_⟩⟩
    rw [eqv_signs fb]
    have s5 := (s2.trans s4).trans (same_new (o := .lst []) ho)
    have hp5 := (s4.trans (same_new (o := .lst []) ho)) _ _ hp2
    generalize upd H4 o (.lst []) = H5 at s5 hp5 ⊢
    by_cases hb : (TL.tl c).filter (fun d => !(decide (97 ≤ d) && decide (d ≤ 122))) = []
    case neg =>
      rw [decide_eq_false hb]
      refine iteT (kN (noName ?_) _ s5)
      cases e : isNameT c with
      | false => rfl
      | true => exact absurd (name_iff.mp e).2.2 hb
    have hnm : isNameT c = true := name_iff.mpr ⟨by omega, by omega, hb⟩
    rw [decide_eq_true hb]
    rw [if_pos ⟨hw0, hnm⟩] at en
    refine iteF ⟨_, rfl, p, _, rfl, .inl (SqL.of hp5), rfl, _, rfl, ?_⟩
    rw [List.length_map, List.length_cons, List.length_cons]
    cases rest with
    | nil =>
      rw [decide_eq_true (p := V.int (((([] : List Str).length + 1 + 1 : Nat)) : Int) = V.int 2) rfl]
      refine iteT ⟨_, rfl, p, _, (0 : Int), .str w0, rfl, rfl, SqL.of hp5, at_of (j := 0) rfl rfl, _, rfl, p, _, (1 : Int), .str c, rfl, rfl, SqL.of hp5, at_of (j := 1) rfl rfl, (by show 1 ≤ sizeLine; decide), fun o1 ho1 => ⟨(by show 3 ≤ sizeLine; decide), fun o2 ho2 => ?_⟩⟩
      exact kS ⟨w0, c, [none]⟩ (by rw [en]; rfl) o2 _ (s5.trans ((same_new ho1).trans (same_new ho2))) ⟨o1, upd_same, same_new ho2 _ _ upd_same⟩
    | cons w2 r2 =>
    rw [decide_eq_false (p := V.int ((((w2 :: r2).length + 1 + 1 : Nat)) : Int) = V.int 2) (fun e => by
      have := V.int.inj e
      simp only [List.length_cons] at this
      omega)]
    refine iteF ⟨_, rfl, p, _, (2 : Int), .str w2, rfl, rfl, SqL.of hp5, at_of (j := 2) rfl rfl, rfl, _, rfl, ?_⟩
    by_cases har : w2 = sArrow
    case neg =>
      rw [decide_eq_false (p := V.str w2 = V.str "->") (fun e => har (V.str.inj e))]
      refine iteT (iteT (kN ?_ _ s5))
      rw [en, targetsT_bad har]
      rfl
    subst har
    rw [decide_eq_true (p := V.str sArrow = V.str "->") rfl]
    refine iteF ⟨_, rfl, p, _, rfl, .inl (SqL.of hp5), rfl, _, rfl, ?_⟩
    rw [List.length_map, List.length_cons, List.length_cons, List.length_cons]
    by_cases hr2 : r2 = []
    · subst hr2
      rw [decide_eq_true (p := V.int (((([] : List Str).length + 1 + 1 + 1 : Nat)) : Int) = V.int 3) rfl]
      refine iteT (kN ?_ _ s5)
      rw [en, targetsT_bare]
      rfl
    have hr2l : 1 ≤ r2.length := List.length_pos_iff.mpr hr2
    rw [decide_eq_false (p := V.int (((r2.length + 1 + 1 + 1 : Nat)) : Int) = V.int 3) (fun e => by
      have := V.int.inj e
      omega)]
    rw [targets_law (by omega) hr2] at en
    refine iteF ⟨Nat.zero_le _, fun l hl0 => ⟨1, rfl, _, _, rfl, ?_⟩⟩
    have hp6 : (upd H5 l (.lst [])) p = some (.lst ((w0 :: c :: sArrow :: r2).map V.str)) := same_new hl0 _ _ hp5
    refine ⟨_, rfl, 3, rfl, p, _, rfl, SqL.of hp6, fun q hq => ?_⟩
    rw [show cutV ((w0 :: c :: sArrow :: r2).map V.str) (some 3) none = r2.map V.str from cut_three]
    have hlq : l ≠ q := fun e => by
      rw [← e, upd_same] at hq
      cases hq
    have hlp : l ≠ p := fun e => by
      rw [e, hp5] at hl0
      cases hl0
    generalize hHL : upd (upd H5 l (.lst [])) q (.lst (r2.map V.str)) = HL
    have eq_q : HL q = some (.lst (r2.map V.str)) := by rw [← hHL, upd_same]
    have eq_l : HL l = some (.lst []) := by rw [← hHL, upd_ne hlq, upd_same]
    have eq_p : HL p = some (.lst ((w0 :: c :: sArrow :: r2).map V.str)) := by
      rw [← hHL]
      exact same_new hq _ _ hp6
    have sHL : Same H HL := by
      rw [← hHL]
      exact (s5.trans (same_new hl0)).trans (same_new hq)
    have hl00 : H l = none := s5.free hl0
    have hlen2 : r2.length ≤ 4000 := by
      rw [hsp] at hw
      simp only [List.length_cons] at hw
      omega
    refine ⟨q, _, rfl, SqL.of eq_q, for_it (walk_enum (K := K) (a := q) (xs := r2.map V.str)) (fun i σ H' => ∃ (acc : List (Option Nat)) (last : Int) (v5 v6 v7 : Option V), σ = [some (.str row), some (.int (many : Int)), some (.ref p), some (.ref l), some (.int last), v5, v6, v7, none] ∧
        But l HL H' ∧ H' l = some (.lst (acc.map tgV)) ∧ acc.length = i ∧ lawGo many r2 (-1) = (lawGo many (r2.drop i) last).map (acc ++ ·))
      ⟨[], -1, none, none, none, rfl, But.refl _ _, eq_l, rfl, by simp⟩ (fun i σ H' _ ⟨_, _, _, _, _, _, hb, _⟩ => SqL.of (hb _ _ hlq.symm eq_q)) ?_ ?_⟩
    · rintro i x σ H3 H4 hi ⟨acc, last, v5, v6, v7, rfl, hb, hla, hai, hgo⟩ ⟨T1, x1, x2, rfl, hT1, rfl, hx1, hx2⟩
      rw [List.length_map] at hi
      obtain rfl : V.int (i : Nat) = x1 := Option.some.inj hx1
      have hri : r2[i]? = some r2[i] := List.getElem?_eq_getElem hi
      replace hx2 : (r2.map V.str)[i]? = some x2 := hx2
      rw [List.getElem?_map, hri] at hx2
      obtain rfl : V.str r2[i] = x2 := Option.some.inj hx2
      have hdrop : r2.drop i = r2[i] :: r2.drop (i + 1) := List.drop_eq_getElem_cons hi
      have hzm : r2[i] ∈ w0 :: c :: sArrow :: r2 := by
        have := List.getElem_mem hi
        simp [this]
      generalize r2[i] = z at hdrop hri hzm
      rw [hdrop] at hgo
      have hfz : Fair z := part_fair (hmem z hzm) fair
      have hlz : z.length ≤ 100000 := Nat.le_trans (part_len (hmem z hzm)) hl
      have sT := same_new (o := .tup [.int (i : Nat), .str z]) hT1
      have hp7 := sT _ _ (hb _ _ hlp.symm eq_p)
      have hla7 := sT _ _ hla
      have hb7 : But l HL (upd H3 T1 (.tup [.int (i : Nat), .str z])) := hb.trans (Same.but sT)
      have hend : r2.drop (i + 1) = [] ↔ i + 1 = r2.length := by
        rw [List.drop_eq_nil_iff]
        omega
      refine ⟨T1, _, rfl, SqT.of upd_same, rfl, _, _, rfl, _, _, rfl, rfl, ?_⟩
      by_cases hboth : z = sEnd ∧ r2.drop (i + 1) = []
      · refine ⟨_, rfl, rfl, _, rfl, ?_⟩
        rw [decide_eq_true (p := V.str z = V.str "end") (by rw [hboth.1]; rfl)]
        refine iteT ⟨_, rfl, _, _, rfl, rfl, _, rfl, p, _, rfl, .inl (SqL.of hp7), rfl, _, rfl, ?_⟩
        rw [List.length_map, List.length_cons, List.length_cons, List.length_cons]
        rw [decide_eq_true (p := V.int ((i : Int) + 4) = V.int (((r2.length + 1 + 1 + 1 : Nat)) : Int)) (by have := hend.mp hboth.2; congr 1; omega)]
        refine iteT ⟨_, rfl, .inl ⟨rfl, _, SqL.of hla7⟩, l, _, _, rfl, rfl, hla7, ?_, ?_⟩
        · rw [List.length_map, hai, sizeLine_eq]
          omega
        · refine ⟨acc ++ [none], last, _, _, _, rfl, hb7.put, by rw [upd_same, List.map_append]; rfl, by rw [List.length_append, hai]; rfl, ?_⟩
          rw [hgo, hboth.2]
          show (if z = sEnd ∧ ([] : List Str) = [] then some [none] else _).map _ = (some ([] : List (Option Nat))).map _
          rw [if_pos ⟨hboth.1, rfl⟩]
          simp
      have gostep : lawGo many (z :: r2.drop (i + 1)) last = (match lawNum z with
          | none => none
          | some k => if last < (k : Int) ∧ k < many then (lawGo many (r2.drop (i + 1)) (k : Int)).map (some k :: ·) else none) := if_neg hboth
      have dead : lawGo many (z :: r2.drop (i + 1)) last = none → nodeT many row = none := fun e => by
        rw [en, hgo, e]
        rfl
      rcases Classical.em (z = sEnd) with he | he
      refine ⟨_, rfl, rfl, _, rfl, ?_⟩
      rw [decide_eq_true (p := V.str z = V.str "end") (by rw [he]; rfl)]
      refine iteT ⟨_, rfl, _, _, rfl, rfl, _, rfl, p, _, rfl, .inl (SqL.of hp7), rfl, _, rfl, ?_⟩
      rw [List.length_map, List.length_cons, List.length_cons, List.length_cons]
      rw [decide_eq_false (p := V.int ((i : Int) + 4) = V.int (((r2.length + 1 + 1 + 1 : Nat)) : Int)) (fun e => hboth ⟨he, hend.mpr (by have := V.int.inj e; omega)⟩)]
      refine iteF ?_
      rotate_left
      refine ⟨_, rfl, rfl, _, rfl, ?_⟩
      rw [decide_eq_false (p := V.str z = V.str "end") (fun e => he (V.str.inj e))]
      refine iteF ?_
      all_goals
        refine ⟨_, rfl, z, rfl, hfz, hlz, fun e H5 s5 => ?_, fun k e H5 s5 => ?_⟩
        · refine ⟨_, rfl, rfl, _, rfl, iteT (iteT (kN (dead ?_) _ ((hb7.same sHL hl00).trans s5)))⟩
          rw [gostep, e]
        · have hla8 := s5 _ _ hla7
          refine ⟨_, rfl, rfl, _, rfl, iteF ⟨_, rfl, _, rfl, last, (k : Int), rfl, rfl, decide (last < (k : Int)), rfl, ?_⟩⟩
          by_cases g3 : last < (k : Int)
          case neg =>
            rw [decide_eq_false g3]
            refine iteF ⟨_, rfl, iteT (kN (dead ?_) _ ((hb7.same sHL hl00).trans s5))⟩
            rw [gostep, e]
            exact if_neg fun q => g3 q.1
          rw [decide_eq_true g3]
          refine iteT ⟨_, rfl, _, _, rfl, rfl, ⟨_, rfl, ?_⟩⟩
          by_cases g4 : (k : Int) < (many : Int)
          case neg =>
            rw [decide_eq_false g4]
            refine iteT (kN (dead ?_) _ ((hb7.same sHL hl00).trans s5))
            rw [gostep, e]
            exact if_neg fun q => g4 (by omega)
          rw [decide_eq_true g4]
          refine iteF ⟨_, rfl, _, rfl, .inl ⟨rfl, _, SqL.of hla8⟩, _, rfl, l, _, _, rfl, rfl, hla8, ?_, ?_⟩
          · rw [List.length_map, hai, sizeLine_eq]
            omega
          · refine ⟨acc ++ [some k], (k : Int), _, _, _, rfl, (hb7.trans (Same.but s5)).put, by rw [upd_same, List.map_append]; rfl, by rw [List.length_append, hai]; rfl, ?_⟩
            rw [hgo, gostep, e]
            dsimp only
            rw [if_pos ⟨g3, by omega⟩]
            cases lawGo many (r2.drop (i + 1)) (k : Int) <;> simp
    · rintro σ H3 ⟨acc, last, v5, v6, v7, rfl, hb, hla, hai, hgo⟩
      rw [List.length_map, List.drop_length] at hgo
      have hacc : lawGo many r2 (-1) = some acc := by
        rw [hgo]
        show (some ([] : List (Option Nat))).map _ = _
        simp
      have hp7 := hb _ _ hlp.symm eq_p
      refine ⟨_, rfl, p, _, (0 : Int), .str w0, rfl, rfl, SqL.of hp7, at_of (j := 0) rfl rfl, _, rfl, p, _, (1 : Int), .str c, rfl, rfl, SqL.of hp7, at_of (j := 1) rfl rfl, _, rfl, l, _, rfl, .inl ⟨SqL.of hla, fun t ht => ⟨(by show 3 ≤ sizeLine; decide), fun o2 ho2 => ?_⟩⟩⟩
      exact kS ⟨w0, c, acc⟩ (by rw [en, hacc]; rfl) o2 _ (((hb.same sHL hl00).trans (same_new ht)).trans (same_new ho2)) ⟨t, upd_same, same_new ho2 _ _ upd_same⟩
end
end Vf

set_option maxRecDepth 100000
set_option maxHeartbeats 8000000
namespace Vf
open PySem PySem.Spec PyProof.Rows L2
/-- what a text is due: the nodes, or the first row that is not right -/
def scanT (many : Nat) : List Str → Nat → Sum Nat (List Nd)
  | [], _ => .inr []
  | r :: rs, i => if i < 8 then match nodeT many r with
    | none => .inl i
    | some n => match scanT many rs (i + 1) with
      | .inl j => .inl j
      | .inr ns => .inr (n :: ns)
    else .inl i
def dueT (z : Str) : Sum Nat (List Nd) := scanT (Txt.split z sNl).length (Txt.split z sNl) 0
theorem scan_bad {many : Nat} {r : Str} {rs : List Str} {i : Nat} (h : nodeT many r = none) : scanT many (r :: rs) i = .inl i := by
  unfold scanT
  rw [h]
  split <;> rfl
theorem scan_far {many : Nat} {r : Str} {rs : List Str} {i : Nat} (h : ¬ i < 8) : scanT many (r :: rs) i = .inl i := by
  unfold scanT
  rw [if_neg h]
theorem scan_more {many : Nat} {r : Str} {rs : List Str} {i : Nat} {n : Nd} (h8 : i < 8) (h : nodeT many r = some n) : scanT many (r :: rs) i = (match scanT many rs (i + 1) with
      | .inl j => .inl j
      | .inr ns => .inr (n :: ns)) := by
  rw [scanT, if_pos h8, h]
/-- ahead of what is still to be scanned -/
def ahead (ns : List Nd) : Sum Nat (List Nd) → Sum Nat (List Nd)
  | .inl j => .inl j
  | .inr ms => .inr (ns ++ ms)
theorem due_empty : dueT "" = .inl 0 := by
  unfold dueT
  have e : Txt.split "" sNl = [("" : Str)] := by decide +kernel
  rw [e]
  refine scan_bad (nodeT_short ?_)
  have e2 : Txt.split "" sSp = [("" : Str)] := by decide +kernel
  rw [e2]
  decide
structure FitsD (z : Str) : Prop where
  fair : Fair z
  len : z.length ≤ 100000
  few : (Txt.split z sNl).length ≤ 1000
  row : ∀ r ∈ Txt.split z sNl, (Txt.split r sSp).length ≤ 4000
section
variable {P : Program} {w : World} {K : PySem.W.Frag} {mg : Str → Option Value} {base : Heap}
def sp_law_due (K : PySem.W.Frag) : Sp := fun vs H Q _ => ∃ v, vs = [v] ∧ ((∃ z : Str, v = .str z ∧ FitsD z ∧ (∀ i, dueT z = .inl i → ∀ H', Same H H' → Q (.int (i : Nat)) H') ∧ ∀ ns, dueT z = .inr ns → ∀ t H', Same H H' → NodesAt H' t ns → Q (.ref t) H') ∨
  ((∃ t, TyX K H v t ∧ PySem.W.kitOne K t (.type "str") = some false) ∧ ∀ H', Same H H' → Q (.int 0) H'))
theorem ok_law_due {f : Addr} {fd : FuncData} (F : Fun K "_law_due" "_law_due" s_law_due f fd) (T : Txt0 K mg) (GN : OkF P w K mg base CX0 "_law_node" p_law_node 2 sp_law_node) : FnOk P w K mg base CX0 3 f fd p_law_due (sp_law_due K) := by
  refine F.ok sc_law_due (fun vs H Q E h => ?_) (fun cdv A outer s H vs Q E hr h => ?_)
  · obtain ⟨z, rfl, _⟩ := h
    rfl
  · obtain ⟨v, rfl, h⟩ := h
    refine ⟨_, pss_cons (ps_if (PW.pt (pw_or (pt_not (pt_val (pe_callB call_isi (by rfl) T.isinstance boot_isinstance (pa_cons (pv 0) (pa_cons (pe_bltn (by rfl) T.str boot_str (v := .ty "str") rfl) pa_nil)))))
          (pw_or1 (pt_cmpR op_eq (pv 0) pe_str (nomark _))))) (pss_one (ps_ret pe_int)) pss_nil)
      (pss_cons (ps_par (i := 1) (j := 2) rfl sc_law_due.nd rfl rfl (by decide) rfl rfl (pa_cons (pe_split (pv 0) pe_str) (pa_cons (pe_lst pa_nil) pa_nil)) (by rfl))
      (pss_cons (ps_for PassesOwn.never rfl (pi_enum (by rfl) T.enumerate (pa_cons (pv 1) pa_nil)) (pg_tup (by rfl) (pgs_cons (pg_name (i := 3) sc_law_due.nd rfl (Or.inl rfl)) (pgs_cons (pg_name (i := 4) sc_law_due.nd rfl (Or.inl rfl)) pgs_nil)))
        (pss_cons (ps_set (i := 5) sc_law_due.nd rfl (Or.inl rfl) (pe_ifExp (pt_cmpR op_lt (pv 3) pe_int (nomark _)) (pe_fn GN hr rfl pass0 (pa_cons (pv 4) (pa_cons (pe_callB call_len_seq (by rfl) T.len PySem.boot_len (pa_cons (pv 1) pa_nil)) pa_nil))) pe_non))
        (pss_cons (ps_if (pt_cmpR op_isN (pv 5) pe_non (nomark _)) (pss_one (ps_ret (pv 3))) pss_nil)
        (pss_one (ps_expr (pe_bm PySem.F.plainAttrs_list PySem.F.slot_list_append PySem.F.type_list_append mt_append (pv 2) (pa_cons (pv 5) pa_nil)))))))
      (pss_one (ps_ret (pe_callTy call_tuple_of (by rfl) T.tuple (by decide +kernel) (pa_cons (pv 2) pa_nil)))))), ?_⟩
    rcases h with ⟨z, rfl, fit, kI, kS⟩ | ⟨⟨t, ty, kt⟩, k0⟩
    case inr => exact ⟨_, rfl, _, _, _, _, false, rfl, .ty _, ty, kt, _, rfl, iteT (iteT (k0 H (Same.refl H)))⟩
    have hlen := fit.len
    refine ⟨_, rfl, _, _, _, _, true, rfl, .ty _, .base (.str _), kit_ty (by decide +kernel), _, rfl, iteF ⟨_, rfl, rfl, _, rfl, ?_⟩⟩
    by_cases hz0 : z = ""
    · rw [decide_eq_true (p := V.str z = V.str "") (by rw [hz0])]
      exact iteT (kI 0 (by rw [hz0]; exact due_empty) H (Same.refl H))
    rw [decide_eq_false (p := V.str z = V.str "") (fun e => hz0 (V.str.inj e))]
    refine iteF ⟨_, rfl, ⟨_, rfl⟩, _, sNl, rfl, rfl, (by decide +kernel), (by rw [sizeLine_eq]; omega), fun q hq => ⟨Nat.zero_le _, fun l hl => ⟨_, _, rfl, ?_⟩⟩⟩
    have few := fit.few
    unfold dueT at kI kS
    have hrow : ∀ r ∈ Txt.split z sNl, r.length ≤ 100000 ∧ Fair r := fun r hr' => ⟨Nat.le_trans (part_len hr') hlen, part_fair hr' fit.fair⟩
    have hw := fit.row
    generalize Txt.split z sNl = rows at *
    have hlq : l ≠ q := fun e => by
      rw [e, upd_same] at hl
      cases hl
    generalize hHL : upd (upd H q (.lst (rows.map V.str))) l (.lst []) = HL
    have eq_l : HL l = some (.lst []) := by rw [← hHL, upd_same]
    have eq_q : HL q = some (.lst (rows.map V.str)) := by rw [← hHL, upd_ne hlq.symm, upd_same]
    have sHL : Same H HL := by
      rw [← hHL]
      exact (same_new hq).trans (same_new hl)
    have hl0 : H l = none := (same_new hq).free hl
    refine ⟨_, rfl, q, _, rfl, SqL.of eq_q, for_it (walk_enum (K := K) (a := q) (xs := rows.map V.str)) (fun i σ H' => ∃ (as : List Addr) (ns : List Nd) (v3 v4 v5 : Option V), σ = [some (.str z), some (.ref q), some (.ref l), v3, v4, v5] ∧
        But l HL H' ∧ H' l = some (.lst (as.map V.ref)) ∧ as.length = i ∧ NodesIn H' as ns ∧ scanT rows.length rows 0 = ahead ns (scanT rows.length (rows.drop i) i))
      ⟨[], [], none, none, none, rfl, But.refl _ _, eq_l, rfl, ⟨rfl, fun j a n h => by simp at h⟩, by
        show scanT rows.length rows 0 = ahead [] (scanT rows.length rows 0)
        cases scanT rows.length rows 0 <;> rfl⟩ (fun i σ H' _ ⟨_, _, _, _, _, _, hb, _⟩ => SqL.of (hb _ _ hlq.symm eq_q)) ?_ ?_⟩
    · rintro i x σ H3 H4 hi ⟨as, ns, v3, v4, v5, rfl, hb, hla, hai, hin, hsc⟩ ⟨T1, x1, x2, rfl, hT1, rfl, hx1, hx2⟩
      rw [List.length_map] at hi
      obtain rfl : V.int (i : Nat) = x1 := Option.some.inj hx1
      have hri : rows[i]? = some rows[i] := List.getElem?_eq_getElem hi
      replace hx2 : (rows.map V.str)[i]? = some x2 := hx2
      rw [List.getElem?_map, hri] at hx2
      obtain rfl : V.str rows[i] = x2 := Option.some.inj hx2
      have hdrop : rows.drop i = rows[i] :: rows.drop (i + 1) := List.drop_eq_getElem_cons hi
      have hrm := List.getElem_mem hi
      generalize rows[i] = r at hdrop hri hrm
      rw [hdrop] at hsc
      have sT := same_new (o := .tup [.int (i : Nat), .str r]) hT1
      have hq7 := sT _ _ (hb _ _ hlq.symm eq_q)
      have hla7 := sT _ _ hla
      have hb7 := hb.trans (Same.but sT)
      refine ⟨T1, _, rfl, SqT.of upd_same, rfl, _, _, rfl, _, _, rfl, rfl, _, rfl, _, _, rfl, rfl, _, rfl, ?_⟩
      by_cases h8 : i < 8
      case neg =>
        rw [decide_eq_false (p := ((i : Nat) : Int) < 8) (by omega)]
        refine iteF ⟨_, rfl, rfl, _, rfl, iteT ⟨_, rfl, kI i ?_ _ (hb7.same sHL hl0)⟩⟩
        rw [hsc, scan_far h8]
        rfl
      rw [decide_eq_true (p := ((i : Nat) : Int) < 8) (by omega)]
      refine iteT ⟨_, rfl, _, rfl, q, _, rfl, .inl (SqL.of hq7), r, rows.length, by rw [List.length_map]; rfl, (hrow r hrm).2, few, (hrow r hrm).1, hw r hrm, fun e H5 s5 => ?_, fun n e a H5 s5 hna => ?_⟩
      · refine ⟨_, rfl, rfl, _, rfl, iteT ⟨_, rfl, kI i ?_ _ ((hb7.same sHL hl0).trans s5)⟩⟩
        rw [hsc, scan_bad e]
        rfl
      · have hla8 := s5 _ _ hla7
        refine ⟨_, rfl, rfl, _, rfl, iteF ⟨_, rfl, .inl ⟨rfl, _, SqL.of hla8⟩, _, rfl, l, _, _, rfl, rfl, hla8, ?_, ?_⟩⟩
        · rw [List.length_map, sizeLine_eq]
          omega
        · have hbut : But l H5 (upd H5 l (.lst (as.map V.ref ++ [.ref a]))) := (But.refl l H5).put
          have hin5 := (hin.same sT).same s5
          refine ⟨as ++ [a], ns ++ [n], _, _, _, rfl, (hb7.trans (Same.but s5)).put, by rw [upd_same, List.map_append]; rfl, by rw [List.length_append, hai]; rfl, ⟨by rw [List.length_append, List.length_append, hin5.1]; rfl, fun j b m hj hm => ?_⟩, ?_⟩
          · by_cases hj' : j < as.length
            · rw [List.getElem?_append_left hj'] at hj
              rw [List.getElem?_append_left (by rw [← hin5.1]; exact hj')] at hm
              exact (hin5.2 j b m hj hm).but hbut ⟨_, hla8⟩
            · have ej : j = as.length := by
                have := (List.getElem?_eq_some_iff.mp hj).1
                rw [List.length_append, List.length_singleton] at this
                omega
              subst ej
              rw [List.getElem?_append_right (Nat.le_refl _), Nat.sub_self] at hj
              rw [hin5.1, List.getElem?_append_right (Nat.le_refl _), Nat.sub_self] at hm
              obtain rfl : a = b := by simpa using hj
              obtain rfl : n = m := by simpa using hm
              exact hna.but hbut ⟨_, hla8⟩
          · rw [hsc, scan_more h8 e]
            cases scanT rows.length (rows.drop (i + 1)) (i + 1) with
            | inl j => rfl
            | inr ms =>
              show Sum.inr (ns ++ n :: ms) = Sum.inr (ns ++ [n] ++ ms)
              rw [List.append_assoc]
              rfl
    · rintro σ H3 ⟨as, ns, v3, v4, v5, rfl, hb, hla, hai, hin, hsc⟩
      rw [List.length_map, List.drop_length] at hsc
      have hsc' : scanT rows.length rows 0 = .inr ns := by
        rw [hsc]
        show Sum.inr (ns ++ []) = _
        rw [List.append_nil]
      refine ⟨_, rfl, l, _, rfl, .inl ⟨SqL.of hla, fun t ht => ?_⟩⟩
      exact kS ns hsc' t _ ((hb.same sHL hl0).trans (same_new ht)) ⟨as, upd_same, hin.same (same_new ht)⟩
end
end Vf

set_option maxRecDepth 100000
set_option maxHeartbeats 8000000
namespace Vf
open PySem PySem.Spec PyProof.Rows L2
theorem scan_nodes {many : Nat} : ∀ {rs : List Str} {i : Nat} {ns : List Nd}, scanT many rs i = .inr ns → nodesT many rs = some ns ∧ (rs = [] ∨ rs.length + i ≤ 8)
  | [], i, ns, h => by
    obtain rfl : [] = ns := Sum.inr.inj h
    exact ⟨rfl, .inl rfl⟩
  | r :: rs, i, ns, h => by
    by_cases h8 : i < 8
    case neg =>
      rw [scan_far h8] at h
      cases h
    cases e : nodeT many r with
    | none =>
      rw [scan_bad e] at h
      cases h
    | some n =>
      rw [scan_more h8 e] at h
      cases e2 : scanT many rs (i + 1) with
      | inl j =>
        rw [e2] at h
        cases h
      | inr ms =>
        rw [e2] at h
        obtain rfl : n :: ms = ns := Sum.inr.inj h
        obtain ⟨h1, h2⟩ := scan_nodes e2
        refine ⟨?_, .inr ?_⟩
        · unfold nodesT
          rw [e, h1]
          rfl
        · rw [List.length_cons]
          rcases h2 with rfl | h2
          · simp
            omega
          · omega
/-- where nodes are due, the program's text is read to them -/
theorem due_parse {z : Str} {ns : List Nd} (h : dueT z = .inr ns) : parseT z = some ns := by
  unfold dueT at h
  obtain ⟨h1, h2⟩ := scan_nodes h
  unfold parseT
  dsimp only
  rw [if_pos ?_, h1]
  rcases h2 with h2 | h2
  · rw [h2]
    decide
  · omega
/-- where a row is due, it is the first one that is not right, or the ninth -/
theorem scan_row {many : Nat} : ∀ {rs : List Str} {i j : Nat}, scanT many rs i = .inl j → i ≤ j ∧ j < i + rs.length ∧ (∀ m, i ≤ m → m < j → m < 8 ∧ ∃ r n, rs[m - i]? = some r ∧ nodeT many r = some n) ∧ (8 ≤ j ∨ ∃ r, rs[j - i]? = some r ∧ nodeT many r = none)
  | [], i, j, h => by cases h
  | r :: rs, i, j, h => by
    by_cases h8 : i < 8
    case neg =>
      rw [scan_far h8] at h
      obtain rfl : i = j := Sum.inl.inj h
      refine ⟨Nat.le_refl _, by simp, fun m h1 h2 => by omega, .inl (by omega)⟩
    cases e : nodeT many r with
    | none =>
      rw [scan_bad e] at h
      obtain rfl : i = j := Sum.inl.inj h
      exact ⟨Nat.le_refl _, by simp, fun m h1 h2 => by omega, .inr ⟨r, by simp, e⟩⟩
    | some n =>
      rw [scan_more h8 e] at h
      cases e2 : scanT many rs (i + 1) with
      | inr ms =>
        rw [e2] at h
        cases h
      | inl k =>
        rw [e2] at h
        obtain rfl : k = j := Sum.inl.inj h
        obtain ⟨h1, h2, h3, h4⟩ := scan_row e2
        refine ⟨by omega, by rw [List.length_cons]; omega, fun m g1 g2 => ?_, ?_⟩
        · by_cases hm : m = i
          · subst hm
            exact ⟨h8, r, n, by simp, e⟩
          · obtain ⟨g3, r', n', g4, g5⟩ := h3 m (by omega) g2
            refine ⟨g3, r', n', ?_, g5⟩
            rw [show m - i = (m - (i + 1)) + 1 by omega, List.getElem?_cons_succ]
            exact g4
        · rcases h4 with h4 | ⟨r', g4, g5⟩
          · exact .inl h4
          · refine .inr ⟨r', ?_, g5⟩
            rw [show k - i = (k - (i + 1)) + 1 by omega, List.getElem?_cons_succ]
            exact g4
end Vf

set_option maxRecDepth 100000
set_option maxHeartbeats 8000000
namespace Vf
open PySem PySem.Spec PyProof.Rows L2
/-- the error with the row j, raised at H' -/
def Row (C : Addr) (E : XK) (j : Nat) (H : Hp) : Prop := ∀ d H', H' d = some (.xd [("row", .int (j : Nat))]) → Same H H' → E (.ref C) (some d) H'
theorem Row.same {C : Addr} {E : XK} {j : Nat} {H H1 : Hp} (h : Row C E j H) (s : Same H H1) : Row C E j H1 := fun d H' hd s' => h d H' hd (s.trans s')
theorem Row.out {C : Addr} {E : XK} {j : Nat} {H : Hp} (h : Row C E j H) : ∀ d, H d = none → E (.ref C) (some d) (upd H d (.xd [("row", .int (j : Nat))])) := fun _ hd => h _ _ upd_same (same_new hd)
structure FitsX (z : Str) : Prop where
  len : z.length ≤ 100000
  few : (Txt.split z sNl).length ≤ 60
  row : ∀ r ∈ Txt.split z sNl, (Txt.split r sSp).length ≤ 4000
/-- any value: what is told of it -/
def NoStr (K : PySem.W.Frag) (H : Hp) (v : V) : Prop := ∃ t, TyX K H v t ∧ PySem.W.kitOne K t (.type "str") = some false
def ReadX (K : PySem.W.Frag) (C : Addr) (H : Hp) (v : V) (E : XK) (k : Str → List Nd → Prop) : Prop :=
  (∃ z, v = .str z ∧ FitsX z ∧ (∀ j, dueT z = .inl j → Row C E j H) ∧ ∀ ns, dueT z = .inr ns → k z ns) ∨ (NoStr K H v ∧ Row C E 0 H)
theorem ahead_snoc {ns : List Nd} {n : Nd} {o : Sum Nat (List Nd)} : ahead ns (match o with
      | .inl j => .inl j
      | .inr ms => .inr (n :: ms)) = ahead (ns ++ [n]) o := by
  cases o with
  | inl j => rfl
  | inr ms =>
    show Sum.inr (ns ++ n :: ms) = Sum.inr (ns ++ [n] ++ ms)
    rw [List.append_assoc]
    rfl
section
variable {P : Program} {w : World} {K : PySem.W.Frag} {mg : Str → Option Value} {base : Heap}
def sp_nodesX (K : PySem.W.Frag) (C : Addr) : Sp := fun vs H Q E => ∃ v, vs = [v] ∧ ReadX K C H v E fun _ ns => ∀ t H', Same H H' → NodesAt H' t ns → Q (.ref t) H'
theorem ok_nodesX {f C : Addr} {fd : FuncData} (F : Fun K "_nodes_of" "_nodes_of" s_nodes_of f fd) (T : Txt0 K mg) (EF : ErrF P w K mg base "InvalidText" C "row") (GN : OkF P w K mg base CX0 "_node_of" p_node_of 2 sp_node_of) :
    FnOk P w K mg base (L2.CX P w) 3 f fd p_nodes_of (sp_nodesX K C) := by
  refine F.okX sc_nodes_of (fun vs H Q E h => ?_) (fun cdv A outer s H vs Q E hr h => ?_)
  · obtain ⟨v, rfl, _⟩ := h
    rfl
  · obtain ⟨v, rfl, h⟩ := h
    obtain ⟨t8, e8⟩ := T.most
    refine ⟨_, pss_cons (ps_if (pt_not (pt_val (pe_callB call_isi (by rfl) T.isinstance boot_isinstance (pa_cons (pv 0) (pa_cons (pe_bltn (by rfl) T.str boot_str (v := .ty "str") rfl) pa_nil))))) (pss_one (ps_raiseE rfl EF (hr.mono (by decide)) (takes_of rfl rfl rfl rfl) pe_int (by rfl))) pss_nil)
      (pss_cons (ps_set (i := 1) sc_nodes_of.nd rfl (Or.inl rfl) (pe_split (pv 0) pe_str))
      (pss_cons (ps_setDc (i := 2) (own := [("number", 7)]) (g := gName 7) (tt := tYes) rfl sc_nodes_of.nd rfl rfl (sw_dict rfl rfl rfl (by decide +kernel))
          (pi_range1 (by rfl) T.range (pa_cons (pe_callB call_len_seq (by rfl) T.len PySem.boot_len (pa_cons (pv 1) pa_nil)) pa_nil)) (blkOk_by (N := n_nodes_of) (sc := defScope s_nodes_of) (by decide +kernel))
          (fun _ _ _ _ _ => pg_name (i := 7) sc_nodes_of.nd rfl (Or.inl rfl)) (fun _ _ _ _ _ => pts_nil)
          (fun _ _ _ _ _ => pe_callTy call_str_int (by rfl) T.str boot_str (pa_cons (pv 7) pa_nil)) (fun _ _ _ _ _ => pv 7))
      (pss_cons (ps_set (i := 3) sc_nodes_of.nd rfl (Or.inl rfl) (pe_lst pa_nil))
      (pss_cons (ps_for (passes_of rfl) rfl (pi_enum (by rfl) T.enumerate (pa_cons (pe_slice sl_list (pv 1) po_none (po_some (pe_glob (v := .int 8) rfl e8 ⟨_, rfl⟩))) pa_nil))
          (pg_tup (by rfl) (pgs_cons (pg_name (i := 4) sc_nodes_of.nd rfl (Or.inl rfl)) (pgs_cons (pg_name (i := 5) sc_nodes_of.nd rfl (Or.inl rfl)) pgs_nil)))
        (pss_cons (ps_set (i := 6) sc_nodes_of.nd rfl (Or.inl rfl) (pe_fn GN (hr.mono (by decide)) rfl pass0 (pa_cons (pv 5) (pa_cons (pv 2) pa_nil))))
        (pss_cons (ps_if (pt_cmpR op_isN (pv 6) pe_non (nomark _)) (pss_one (ps_raiseE rfl EF (hr.mono (by decide)) (takes_of rfl rfl rfl rfl) (pv 4) (by rfl))) pss_nil)
        (pss_one (ps_expr (pe_bm PySem.F.plainAttrs_list PySem.F.slot_list_append PySem.F.type_list_append mt_append (pv 3) (pa_cons (pv 6) pa_nil)))))))
      (pss_cons (ps_if (pt_cmpR op_gt (pe_callB call_len_seq (by rfl) T.len PySem.boot_len (pa_cons (pv 1) pa_nil)) (pe_glob (v := .int 8) rfl e8 ⟨_, rfl⟩) (nomark _)) (pss_one (ps_raiseE rfl EF (hr.mono (by decide)) (takes_of rfl rfl rfl rfl) (pe_glob (v := .int 8) rfl e8 ⟨_, rfl⟩) (by rfl))) pss_nil)
      (pss_one (ps_ret (pe_callTy call_tuple_of (by rfl) T.tuple (by decide +kernel) (pa_cons (pv 3) pa_nil))))))))), ?_⟩
    rcases h with ⟨z, rfl, fit, kI, kS⟩ | ⟨⟨t, ty, kt⟩, k0⟩
    case inr => exact ⟨_, rfl, _, _, _, _, false, rfl, .ty _, ty, kt, _, rfl, iteT (mkO_err k0.out)⟩
    refine ⟨_, rfl, _, _, _, _, true, rfl, .ty _, .base (.str _), kit_ty (by decide +kernel), _, rfl, iteF ?_⟩
    have hz := fit.len
    refine ⟨_, rfl, ⟨_, rfl⟩, _, sNl, rfl, rfl, (by decide +kernel), (by rw [sizeLine_eq]; omega), fun p hpn => ?_⟩
    have s1 := same_new (o := .lst ((Txt.split z sNl).map V.str)) hpn
    have few := fit.few
    have hw := fit.row
    have hrow : ∀ r ∈ Txt.split z sNl, r.length ≤ 100000 := fun r hr' => by
      have := part_len (x := z) (y := sNl) (z := r) hr'
      omega
    unfold dueT at kI kS
    generalize hrows : Txt.split z sNl = rows at few hw hrow s1 kI kS ⊢
    refine ⟨_, rfl, p, _, rfl, .inl (SqL.of upd_same), _, rfl, (by rw [List.length_map]; omega), (by rw [List.length_map]; omega), fun d hd => ?_⟩
    rw [List.length_map, Int.toNat_natCast]
    refine dc_it walk_range (fun i H' => Same (upd H p (.lst (rows.map V.str))) H' ∧ H' d = some (.dK (numKvs i))) ⟨same_new hd, upd_same⟩ (fun _ _ _ _ => trivial) ?_ ?_
    · rintro i x H2 H3 hi ⟨s2, h2⟩ ⟨rfl, rfl⟩
      refine ⟨rfl, _, rfl, (0 + (i : Int)), rfl, ?_, _, rfl, numKvs i, Sum.inr (natS i), ?_, h2, ?_, ?_, ?_⟩
      · rw [Int.zero_add]
        show i.log2 < 1920
        exact Nat.lt_of_le_of_lt (Nat.log2_le_self i) (by omega)
      · rw [Int.zero_add]
        rfl
      · unfold numKvs
        rw [List.length_map, List.length_range, sizeLine_eq]
        omega
      · exact same_upd s2 hd
      · rw [upd_same, put_new]
        · show some (HO.dK (numKvs i ++ [(Sum.inr (natS i), V.int (0 + (i : Int)))])) = _
          unfold numKvs
          rw [List.range_succ, List.map_append, Int.zero_add]
          rfl
        · unfold numKvs
          rw [List.map_map]
          intro hm
          obtain ⟨j, hj, e⟩ := List.mem_map.mp hm
          have e' : natS j = natS i := Sum.inr.inj e
          have := natS_inj e'
          have := List.mem_range.mp hj
          omega
    rintro H2 ⟨s2, hd2⟩
    have s02 := s1.trans s2
    have hp2 := s2 _ _ (upd_same (H := H) (a := p) (o := .lst (rows.map V.str)))
    refine ⟨Nat.zero_le _, fun l hl => ?_⟩
    have hlD : d ≠ l := ne_of_none hd2 hl
    have hlP : p ≠ l := ne_of_none hp2 hl
    have hp3 : (upd H2 l (.lst [])) p = some (.lst (rows.map V.str)) := by rw [upd_ne hlP]; exact hp2
    refine ⟨_, rfl, 8, rfl, p, _, rfl, SqL.of hp3, fun q hq => ?_⟩
    rw [cut_eight, ← List.map_take]
    have hlq : l ≠ q := fun e => by
      rw [← e, upd_same] at hq
      cases hq
    have hpq : p ≠ q := ne_of_none hp3 hq
    have hdq : d ≠ q := ne_of_none (by rw [upd_ne hlD]; exact hd2) hq
    generalize hHL : upd (upd H2 l (.lst [])) q (.lst ((rows.take 8).map V.str)) = HL
    have eq_q : HL q = some (.lst ((rows.take 8).map V.str)) := by rw [← hHL, upd_same]
    have eq_l : HL l = some (.lst []) := by rw [← hHL, upd_ne hlq, upd_same]
    have eq_p : HL p = some (.lst (rows.map V.str)) := by rw [← hHL, upd_ne hpq]; exact hp3
    have eq_d : HL d = some (.dK (numKvs rows.length)) := by rw [← hHL, upd_ne hdq, upd_ne hlD]; exact hd2
    have sHL : Same H HL := by
      rw [← hHL]
      exact (s02.trans (same_new hl)).trans (same_new hq)
    have hl0 : H l = none := s02.free hl
    refine ⟨q, _, rfl, SqL.of eq_q, for_it (walk_enum (K := K) (a := q) (xs := (rows.take 8).map V.str)) (fun i σ H' => ∃ (as : List Addr) (ns : List Nd) (v4 v5 v6 v7 : Option V), σ = [some (.str z), some (.ref p), some (.ref d), some (.ref l), v4, v5, v6, v7] ∧
        But l HL H' ∧ H' l = some (.lst (as.map V.ref)) ∧ as.length = i ∧ NodesIn H' as ns ∧ scanT rows.length rows 0 = ahead ns (scanT rows.length (rows.drop i) i))
      ⟨[], [], none, none, none, none, rfl, But.refl _ _, eq_l, rfl, ⟨rfl, fun j a n h => by simp at h⟩, by
        show scanT rows.length rows 0 = ahead [] (scanT rows.length rows 0)
        cases scanT rows.length rows 0 <;> rfl⟩ (fun i σ H' _ ⟨_, _, _, _, _, _, _, hb, _⟩ => SqL.of (hb _ _ hlq.symm eq_q)) ?_ ?_⟩
    · rintro i x σ H3 H4 hi ⟨as, ns, v4, v5, v6, v7, rfl, hb, hla, hai, hin, hsc⟩ ⟨T1, x1, x2, rfl, hT1, rfl, hx1, hx2⟩
      rw [List.length_map, List.length_take] at hi
      have hi' : i < rows.length := by omega
      have h8 : i < 8 := by omega
      obtain rfl : V.int (i : Nat) = x1 := Option.some.inj hx1
      have hri : rows[i]? = some rows[i] := List.getElem?_eq_getElem hi'
      replace hx2 : ((rows.take 8).map V.str)[i]? = some x2 := hx2
      rw [List.getElem?_map, List.getElem?_take_of_lt h8, hri] at hx2
      obtain rfl : V.str rows[i] = x2 := Option.some.inj hx2
      have hdrop : rows.drop i = rows[i] :: rows.drop (i + 1) := List.drop_eq_getElem_cons hi'
      have hrm := List.getElem_mem hi'
      generalize rows[i] = r at hdrop hri hrm
      rw [hdrop] at hsc
      have sT := same_new (o := .tup [.int (i : Nat), .str r]) hT1
      have hd4 : (upd H3 T1 (.tup [.int (i : Nat), .str r])) d = some (.dK (numKvs rows.length)) := sT _ _ (hb _ _ hlD eq_d)
      have hla7 := sT _ _ hla
      have hb7 := hb.trans (Same.but sT)
      refine ⟨T1, _, rfl, SqT.of upd_same, rfl, _, _, rfl, _, _, rfl, rfl, _, rfl, _, rfl, r, d, rows.length, rfl, hd4, few, hrow r hrm, hw r hrm, fun e H5 s5 => ?_, fun n e a H5 s5 hna => ?_⟩
      · refine ⟨_, rfl, rfl, _, rfl, iteT ⟨_, rfl, mkO_err (Row.out (j := i) ((kI i ?_).same ((hb7.same sHL hl0).trans s5)))⟩⟩
        rw [hsc, scan_bad e]
        rfl
      · have hla8 := s5 _ _ hla7
        refine ⟨_, rfl, rfl, _, rfl, iteF ⟨_, rfl, .inl ⟨rfl, _, SqL.of hla8⟩, _, rfl, l, _, _, rfl, rfl, hla8, ?_, ?_⟩⟩
        · rw [List.length_map, sizeLine_eq]
          omega
        · have hbut : But l H5 (upd H5 l (.lst (as.map V.ref ++ [.ref a]))) := (But.refl l H5).put
          have hin5 := (hin.same sT).same s5
          refine ⟨as ++ [a], ns ++ [n], _, _, _, _, rfl, (hb7.trans (Same.but s5)).put, by rw [upd_same, List.map_append]; rfl, by rw [List.length_append, hai]; rfl, ⟨by rw [List.length_append, List.length_append, hin5.1]; rfl, fun j b m hj hm => ?_⟩, ?_⟩
          · by_cases hj' : j < as.length
            · rw [List.getElem?_append_left hj'] at hj
              rw [List.getElem?_append_left (by rw [← hin5.1]; exact hj')] at hm
              exact (hin5.2 j b m hj hm).but hbut ⟨_, hla8⟩
            · have ej : j = as.length := by
                have := (List.getElem?_eq_some_iff.mp hj).1
                rw [List.length_append, List.length_singleton] at this
                omega
              subst ej
              rw [List.getElem?_append_right (Nat.le_refl _), Nat.sub_self] at hj
              rw [hin5.1, List.getElem?_append_right (Nat.le_refl _), Nat.sub_self] at hm
              obtain rfl : a = b := by simpa using hj
              obtain rfl : n = m := by simpa using hm
              exact hna.but hbut ⟨_, hla8⟩
          · rw [hsc, scan_more h8 e]
            exact ahead_snoc
    · rintro σ H3 ⟨as, ns, v4, v5, v6, v7, rfl, hb, hla, hai, hin, hsc⟩
      rw [List.length_map, List.length_take] at hai hsc
      have hp5 := hb _ _ hlP eq_p
      refine ⟨_, rfl, p, _, rfl, .inl (SqL.of hp5), _, _, rfl, rfl, _, rfl, ?_⟩
      rw [List.length_map]
      by_cases h8 : 8 < rows.length
      · rw [decide_eq_true (p := (8 : Int) < ((rows.length : Nat) : Int)) (by omega)]
        refine iteT (mkO_err (Row.out (j := 8) ((kI 8 ?_).same (hb.same sHL hl0))))
        rw [hsc, show min 8 rows.length = 8 by omega]
        cases e : rows.drop 8 with
        | nil =>
          have := congrArg List.length e
          rw [List.length_drop, List.length_nil] at this
          omega
        | cons r rs =>
          rw [scan_far (by decide)]
          rfl
      rw [decide_eq_false (p := (8 : Int) < ((rows.length : Nat) : Int)) (by omega)]
      have hsc' : scanT rows.length rows 0 = .inr ns := by
        rw [hsc, show min 8 rows.length = rows.length by omega, List.drop_length]
        show Sum.inr (ns ++ []) = _
        rw [List.append_nil]
      refine iteF ⟨_, rfl, l, _, rfl, .inl ⟨SqL.of hla, fun t ht => ?_⟩⟩
      exact kS ns hsc' t _ ((hb.same sHL hl0).trans (same_new ht)) ⟨as, upd_same, hin.same (same_new ht)⟩
end
end Vf

set_option maxRecDepth 100000
set_option maxHeartbeats 8000000
namespace Vf
open PySem PySem.Spec PyProof.Rows L2 ClX
theorem pe_fnS {X : Cx} {x : Str} {ps : List Str} {k : Nat} {sp : Sp} {W : WX} {e : Expr} {es : List Expr} {t : TA} {p pos : Pos} (G : OkF X.prog X.w X.K X.mg X.base (L2.CX X.prog X.w) x ps k sp) (hr : Room k X.A) (hg : Gl X x) (tk : Takes X W)
    (ha : PA X (e :: es) t) (hdb : (x == ("__debug__" : Str)) = false := by decide) (he : starEach (e :: es) X.env = (false, eval e X.env) :: starEach es X.env := by rfl) (hpl : (backTo pos (starEach es X.env)).any (·.1) = false := by rfl) :
    PE X (.Call (.Name x p) (e :: es) [] pos) (tCallS sp (WE W) t) := by
  obtain ⟨f, fd, hm, hk, hb, F⟩ := G
  exact pe_callS F hr hg hm hk hb (fun σ => passAt tk σ) ha hdb he hpl
section
variable {P : Program} {w : World} {K : PySem.W.Frag} {mg : Str → Option Value} {base : Heap}
def sp_initX (K : PySem.W.Frag) (C CE : Addr) : Sp := fun vs H Q E => ∃ (p dx : Addr) (v : V), vs = [.ref p, v] ∧ H p = some (.ins C dx []) ∧ ReadX K CE H v E fun z ns =>
  ∀ t H', But p H H' → H' p = some (.ins C dx (pflds t z)) → NodesAt H' t ns → Q .non H'
theorem ok_initX {f C CE : Addr} {fd : FuncData} (F : Fun K "__init__" "Program.__init__" s_Program_init f fd) (T : TxtP K mg C) (GN : OkF P w K mg base (L2.CX P w) "_nodes_of" p_nodes_of 3 (sp_nodesX K CE)) :
    FnOk P w K mg base (L2.CX P w) 4 f fd p_Program_init (sp_initX K C CE) := by
  refine F.okX sc_Program_init (fun vs H Q E h => ?_) (fun cdv A outer s H vs Q E hr h => ?_)
  · obtain ⟨p, dx, v, rfl, _⟩ := h
    rfl
  · obtain ⟨p, dx, v, rfl, hp, h⟩ := h
    refine ⟨_, pss_cons (ps_fld (pv 0) (pe_fnS GN hr rfl (takes_of rfl rfl rfl rfl) (pa_cons (pv 1) pa_nil)) rfl) (pss_one (ps_fld (pv 0) (pv 1) rfl)), ?_⟩
    refine ⟨_, rfl, v, rfl, ?_⟩
    rcases h with ⟨z, rfl, fit, kI, kS⟩ | h
    case inr => exact .inr h
    refine .inl ⟨z, rfl, fit, kI, fun ns hns t H2 s2 hn => ?_⟩
    have hp2 := s2 _ _ hp
    refine ⟨_, rfl, p, C, dx, [], rfl, hp2, T.cl, T.nN, (by show 0 < 1000; decide), _, rfl, _, rfl, p, C, dx, _, rfl, upd_same, T.cl, T.nT, (by show 1 < 1000; decide), ?_⟩
    have hb : But p H2 (upd (upd H2 p (.ins C dx (putF "nodes" (.ref t) []))) p (.ins C dx (putF "_text" (.str z) (putF "nodes" (.ref t) [])))) := ((But.refl p H2).put).put
    refine kS ns hns t _ ((Same.but s2).trans hb) (by rw [upd_same, pflds_put]) ?_
    obtain ⟨as, ht, hl, ha⟩ := hn
    refine ⟨as, hb _ _ (ne_of ht hp2 (by intro z; cases z)) ht, hl, fun i a n h1 h2 => ?_⟩
    obtain ⟨t', g1, g2⟩ := ha i a n h1 h2
    exact ⟨t', hb _ _ (ne_of g1 hp2 (by intro z; cases z)) g1, hb _ _ (ne_of g2 hp2 (by intro z; cases z)) g2⟩
theorem TyOf.same {H H' : Hp} {v : V} {t : Value} (h : TyOf K H v t) (s : Same H H') : TyOf K H' v t := by
  cases h with
  | non => exact .non
  | bl x => exact .bl x
  | int i => exact .int i
  | str x => exact .str x
  | flt x => exact .flt x
  | lst e => exact .lst (s _ _ e)
  | frz e => exact .frz (s _ _ e)
  | tup e => exact .tup (s _ _ e)
  | dK e => exact .dK (s _ _ e)
  | dT e => exact .dT (s _ _ e)
  | ins e cl ha hn htk hm => exact .ins (s _ _ e) cl ha hn htk hm
theorem TyX.same {H H' : Hp} {v : V} {t : Value} (h : TyX K H v t) (s : Same H H') : TyX K H' v t := by
  cases h with
  | base b => exact .base (TyOf.same b s)
  | byt b => exact .byt b
  | set e => exact .set (s _ _ e)
  | kList e c => exact .kList e c
  | kTuple e c => exact .kTuple e c
  | kDict e c => exact .kDict e c
  | fTuple e => exact .fTuple (s _ _ e)
  | fDict e => exact .fDict (s _ _ e)
theorem NoStr.same {H H' : Hp} {v : V} (h : NoStr K H v) (s : Same H H') : NoStr K H' v := by
  obtain ⟨t, ty, kt⟩ := h
  exact ⟨t, TyX.same ty s, kt⟩
def sp_parseX (K : PySem.W.Frag) (C CE : Addr) : Sp := fun vs H Q E => ∃ v, vs = [v] ∧ ReadX K CE H v E fun z ns => ∀ p H', Same H H' → H p = none → ProgAt C H' p z ns → Q (.ref p) H'
theorem ok_parseX {f C CE fI : Addr} {fd fdI : FuncData} (F : Fun K "parse" "Program.parse" s_Program_parse f fd) (T : TxtP K mg C) (M : Mk K C fI) (GI : FnOk P w K mg base (L2.CX P w) 4 fI fdI p_Program_init (sp_initX K C CE)) (bI : Binds K fdI p_Program_init []) :
    FnOk P w K mg base (L2.CX P w) 6 f fd p_Program_parse (sp_parseX K C CE) := by
  refine F.okX sc_Program_parse (fun vs H Q E h => ?_) (fun cdv A outer s H vs Q E hr h => ?_)
  · obtain ⟨v, rfl, _⟩ := h
    rfl
  · obtain ⟨v, rfl, h⟩ := h
    refine ⟨_, pss_one (ps_ret (pe_make M GI hr rfl T.mgC bI .nil (passX (takes_of rfl rfl rfl rfl) fun _ _ _ _ h => h) (pa_cons (pv 0) pa_nil))), ?_⟩
    refine ⟨_, rfl, fun x dx hx hdx hne => ?_⟩
    have s0 : Same H (upd (upd H dx (.own x)) x (.ins C dx [])) := same_upd (same_new hdx) hx
    refine ⟨x, dx, v, rfl, upd_same, ?_⟩
    rcases h with ⟨z, rfl, fit, kI, kS⟩ | ⟨h, k0⟩
    case inr => exact .inr ⟨h.same s0, k0.same s0⟩
    refine .inl ⟨z, rfl, fit, fun j hj => (kI j hj).same s0, fun ns hns t H' hb hp hn => ⟨rfl, ?_⟩⟩
    exact kS ns hns x H' (hb.same s0 hx) hx ⟨dx, t, hp, hn⟩
end
end Vf

set_option maxRecDepth 100000
set_option maxHeartbeats 8000000
namespace Vf
open PySem PySem.Spec PyProof.Rows L2 ClX
/-- what is told of a value: a row, or nodes -/
def TellX (K : PySem.W.Frag) (H : Hp) (v : V) (Q : VK) : Prop :=
  (∃ z, v = .str z ∧ FitsX z ∧ (∀ j, dueT z = .inl j → ∀ H', Same H H' → Q (.int (j : Nat)) H') ∧ ∀ ns, dueT z = .inr ns → ∀ t H', Same H H' → NodesAt H' t ns → Q (.ref t) H') ∨ (NoStr K H v ∧ ∀ H', Same H H' → Q (.int 0) H')
section
variable {P : Program} {w : World} {K : PySem.W.Frag} {mg : Str → Option Value} {base : Heap}
def sp_law_told (K : PySem.W.Frag) : Sp := fun vs H Q _ => ∃ v, vs = [v] ∧ TellX K H v Q
theorem ok_law_told {f C CE pp fp : Addr} {mc : Value} {fd fdp : FuncData} (F : Fun K "_law_told" "_law_told" s_law_told f fd) (T : TxtP K mg C) (EF : ErrF P w K mg base "InvalidText" CE "row")
    (CR : CRead K C mc) (SM : SMet K C mc "parse" pp fp) (PP : FnOk P w K mg base (L2.CX P w) 6 fp fdp p_Program_parse (sp_parseX K C CE)) (bp : Binds K fdp p_Program_parse []) :
    FnOk P w K mg base CX0 7 f fd p_law_told (sp_law_told K) := by
  obtain ⟨fI, fdI, psI, EC, _⟩ := id EF.ex
  refine F.ok sc_law_told (fun vs H Q E h => ?_) (fun cdv A outer s H vs Q E hr h => ?_)
  · obtain ⟨v, rfl, _⟩ := h
    rfl
  · obtain ⟨v, rfl, h⟩ := h
    refine ⟨_, pss_cons (ps_set (i := 1) sc_law_told.nd rfl (Or.inl rfl) pe_non)
      (pss_cons (ps_try_as (i := 2) (tb := fun W => tAsg (tFld K (tSMs C (sp_parseX K C CE) (WE W) (tC (.ref C)) (tCons (tVar 0) tNil)) "nodes") (gName 1)) (ts := fun a cls d => tAsg (tXf a cls d CE "row" (tVar 2)) (gName 1)) (Wout := fun _ _ _ _ => False) rfl rfl sc_law_told.nd rfl rfl ⟨rfl, by decide, Or.inl EC.gC⟩ takes0
          (fun W pn xe tk _ => pss_one (ps_set (i := 1) sc_law_told.nd rfl (Or.inl rfl) (by exact (pe_fld (pe_smethS (pe_glob (v := .ref C) rfl T.mgC rfl) CR SM PP (hr.mono (by decide)) bp (fun σ => passAt tk σ) (pa_cons (pv 0) pa_nil)) rfl))))
          (fun a oe cls d pn hz hf => pss_one (ps_set (i := 1) sc_law_told.nd rfl (Or.inl rfl) (by exact (pe_xf EC.xf EC.no hz hf (pv 2))))))
      (pss_one (ps_ret (pv 1)))), ?_⟩
    refine ⟨rfl, _, rfl, v, rfl, ?_⟩
    rcases h with ⟨z, rfl, fit, kI, kS⟩ | ⟨h, k0⟩
    · refine .inl ⟨z, rfl, fit, fun j hj d H' hd s' => ⟨true, EC.te, fun _ a ha => ?_, fun q => Bool.noConfusion q⟩, fun ns hns p H' s' hp pr => ?_⟩
      · exact ⟨_, rfl, rfl, rfl, d, _, _, rfl, hd, rfl, _, rfl, kI j hj _ s'⟩
      · obtain ⟨dx, t, hp', hn⟩ := pr
        exact ⟨p, C, dx, _, _, rfl, hp', T.cl, T.nN, pflds_nodes _ _, _, rfl, kS ns hns t _ s' hn⟩
    · refine .inr ⟨h, fun d H' hd s' => ⟨true, EC.te, fun _ a ha => ?_, fun q => Bool.noConfusion q⟩⟩
      exact ⟨_, rfl, rfl, rfl, d, _, _, rfl, hd, rfl, _, rfl, k0 _ s'⟩
end
end Vf

set_option maxRecDepth 100000
set_option maxHeartbeats 8000000
namespace Vf
open PySem PySem.Spec PyProof.Rows L2
theorem GoodTg.mono {a b : Nat} {tg : List (Option Nat)} (g : GoodTg a tg) (h : a ≤ b) : GoodTg b tg := by
  obtain ⟨ne, ks, e, e1, hr, hk⟩ := g
  exact ⟨ne, ks, e, e1, hr, fun k hk' => Nat.lt_of_lt_of_le (hk k hk') h⟩
theorem GoodNd.mono {a b : Nat} {n : Nd} (g : GoodNd a n) (h : a ≤ b) : GoodNd b n := ⟨g.word, g.cell, g.tg.mono h⟩
def ndD (n : Nd) : PyData := .tuple [.str n.word, .str n.cell, .tuple (n.tg.map tgD)]
def nodesD (ns : List Nd) : PyData := .tuple (ns.map ndD)
theorem ok_str {z : Str} (h2 : ∀ c ∈ TL.tl z, c < 1114112) : PyData.strOk z = true := by
  unfold PyData.strOk
  rw [← Array.all_toList, List.all_eq_true]
  intro c hc
  exact decide_eq_true (h2 c hc)
theorem ok_name {z : Str} (h : isNameT z = true) : PyData.strOk z = true := ok_str fun c hc => by
  have := name_signs h c hc
  omega
theorem ok_word {z : Str} (h : z = sRead ∨ z = sWrite) : PyData.strOk z = true := by
  rcases h with rfl | rfl <;> decide +kernel
theorem depth_nd (n : Nd) : (ndD n).depth ≤ 2 := by
  simp only [ndD, PyData.depth, PyData.depthAll, depth_tg]
  decide
theorem depth_nodes : ∀ ns : List Nd, PyData.depthAll (ns.map ndD) ≤ 2
  | [] => by simp [PyData.depthAll]
  | n :: ns => by
    simp only [List.map_cons, PyData.depthAll]
    exact Nat.max_le.mpr ⟨depth_nd n, depth_nodes ns⟩
theorem dp_nd {K : PySem.W.Frag} {H : Hp} {a : Addr} {n : Nd} (h : NodeAt H a n) : Dp K H (.ref a) (ndD n) := by
  obtain ⟨t, h1, h2⟩ := h
  exact .tup (SqT.of h1) (.cons (.str _) (.cons (.str _) (.cons (.tup (SqT.of h2) (dp_tg _)) .nil)))
theorem dp_all {K : PySem.W.Frag} {H : Hp} : ∀ {as : List Addr} {ns : List Nd}, NodesIn H as ns → DpAll K H (as.map V.ref) (ns.map ndD)
  | [], [], _ => .nil
  | [], _ :: _, h => by cases h.1
  | _ :: _, [], h => by cases h.1
  | a :: as, n :: ns, h => .cons (dp_nd (h.2 0 a n rfl rfl)) (dp_all ⟨by simpa using h.1, fun i b m h1 h2 => h.2 (i + 1) b m h1 h2⟩)
theorem dp_nodes {K : PySem.W.Frag} {H : Hp} {t : Addr} {ns : List Nd} (h : NodesAt H t ns) : Dp K H (.ref t) (nodesD ns) := by
  obtain ⟨as, h1, h2⟩ := h
  exact .tup (SqT.of h1) (dp_all h2)
theorem sh_tg {many : Nat} (hm : many ≤ 60) : ∀ {tg : List (Option Nat)}, (∀ k, some k ∈ tg → k < many) → shAll (tg.map tgD) = true
  | [], _ => rfl
  | none :: r, h => by
    simp only [List.map_cons, tgD, shAll, shD, Bool.true_and]
    exact sh_tg hm fun k hk => h k (List.mem_cons_of_mem _ hk)
  | some j :: r, h => by
    have hj := h j List.mem_cons_self
    simp only [List.map_cons, tgD, shAll, shD]
    rw [decide_eq_true (p := (0 : Int) ≤ (j : Int)) (by omega), decide_eq_true (p := (j : Int) < 1000000) (by omega), sh_tg hm fun k hk => h k (List.mem_cons_of_mem _ hk)]
    rfl
theorem wt_tg {many : Nat} (hm : many ≤ 60) : ∀ {tg : List (Option Nat)}, (∀ k, some k ∈ tg → k < many) → PyData.weightAll (tg.map tgD) ≤ 8 * tg.length
  | [], _ => by simp [PyData.weightAll]
  | none :: r, h => by
    simp only [List.map_cons, tgD, PyData.weightAll, PyData.weight, List.length_cons]
    have := wt_tg hm (tg := r) fun k hk => h k (List.mem_cons_of_mem _ hk)
    omega
  | some j :: r, h => by
    simp only [List.map_cons, tgD, PyData.weightAll, PyData.weight, List.length_cons]
    have h1 := wt_tg hm (tg := r) fun k hk => h k (List.mem_cons_of_mem _ hk)
    have hj := h j List.mem_cons_self
    have h2 : (if ((j : Int) == 0) = true then 0 else (j : Int).natAbs.log2 + 1) ≤ 7 := by
      split
      · omega
      · have h0 : j ≠ 0 := fun z => by simp_all
        have : j.log2 < 6 := (Nat.log2_lt h0).mpr (by omega)
        show j.log2 + 1 ≤ 7
        omega
    omega
theorem sh_nodes {many : Nat} (hm : many ≤ 60) : ∀ {ns : List Nd}, (∀ n ∈ ns, GoodNd many n) → shAll (ns.map ndD) = true
  | [], _ => rfl
  | n :: r, g => by
    have gn := g n List.mem_cons_self
    simp only [List.map_cons, ndD, shAll, shD, ok_word gn.word, ok_name gn.cell, sh_tg hm fun k hk => gn.tg.lt hk, Bool.and_self, Bool.true_and]
    exact sh_nodes hm fun z hz => g z (List.mem_cons_of_mem _ hz)
theorem wt_nodes {many : Nat} (hm : many ≤ 60) : ∀ {ns : List Nd}, (∀ n ∈ ns, GoodNd many n) → PyData.weightAll (ns.map ndD) ≤ 600 * ns.length
  | [], _ => by simp [PyData.weightAll]
  | n :: r, g => by
    have gn := g n List.mem_cons_self
    have h1 := wt_nodes hm (ns := r) fun z hz => g z (List.mem_cons_of_mem _ hz)
    have h2 := wt_tg hm (tg := n.tg) fun k hk => gn.tg.lt hk
    have h3 := gn.tg.len
    have h4 := part_le gn hm true n.word (by unfold rowW; rw [if_neg (by rintro ⟨h, _⟩; cases h)]; simp)
    have h5 := (name_len gn.cell).2
    have e4 : n.word.cps.size = n.word.length := rfl
    have e5 : n.cell.cps.size = n.cell.length := rfl
    simp only [List.map_cons, ndD, PyData.weightAll, PyData.weight, List.length_cons, e4, e5]
    omega
/-- nodes as they are told -/
structure GoodK (ns : List Nd) : Prop where
  few : ns.length ≤ 8
  all : ∀ n ∈ ns, GoodNd 8 n
theorem show_nodes {ns : List Nd} (g : GoodK ns) : (nodesD ns).showable = true ∧ (nodesD ns).hasDict = false ∧ (nodesD ns).depth ≤ 64 ∧ (nodesD ns).shown.length ≤ sizeLine := by
  have few := g.few
  have sh : shD (nodesD ns) = true := by
    simp only [nodesD, shD]
    exact sh_nodes (by omega) g.all
  obtain ⟨h1, h2, _⟩ := sh_show _ sh
  refine ⟨h1, h2, ?_, shown_fits sh ?_⟩
  · have := depth_nodes ns
    simp only [nodesD, PyData.depth]
    omega
  · have := wt_nodes (by omega) g.all
    simp only [nodesD, PyData.weight]
    omega
theorem tgOf_good {many : Nat} {named : List Str} {e : Bool} {tg : List (Option Nat)} (hne : e = true ∨ named ≠ []) (h : tgOf many named e = some tg) : GoodTg many tg := by
  unfold tgOf at h
  by_cases hall : (named.all fun z => (numOf many z).isSome) = true
  case neg =>
    rw [if_neg hall] at h
    cases h
  rw [if_pos hall] at h
  by_cases hr : rises (named.filterMap (numOf many)) = true
  case neg =>
    rw [if_neg hr] at h
    cases h
  rw [if_pos hr] at h
  rw [← Option.some.inj h]
  refine ⟨?_, _, e, rfl, hr, fun k hk => ?_⟩
  · rcases hne with rfl | hne
    · simp
    · obtain ⟨a, l, rfl⟩ := List.exists_cons_of_ne_nil hne
      rw [List.all_cons, Bool.and_eq_true] at hall
      obtain ⟨k, hk⟩ := Option.isSome_iff_exists.mp hall.1
      rw [List.filterMap_cons_some hk]
      simp
  · obtain ⟨z, _, hz⟩ := List.mem_filterMap.mp hk
    exact (numOf_some.mp hz).1
theorem tg_good {many : Nat} {ws : List Str} {tg : List (Option Nat)} (h : targetsT many ws = some tg) : GoodTg many tg := by
  match ws, h with
  | [], h =>
    obtain rfl : [none] = tg := Option.some.inj h
    exact ⟨by simp, [], true, rfl, rfl, fun k hk => by cases hk⟩
  | w :: rest, h =>
    have h' : (if w ≠ sArrow ∨ rest = [] then none else tgOf many (if decide (rest.getLast? = some sEnd) = true then rest.dropLast else rest) (decide (rest.getLast? = some sEnd))) = some tg := h
    by_cases h0 : w ≠ sArrow ∨ rest = []
    · rw [if_pos h0] at h'
      cases h'
    rw [if_neg h0] at h'
    refine tgOf_good ?_ h'
    by_cases he : decide (rest.getLast? = some sEnd) = true
    · exact .inl he
    · rw [if_neg he]
      exact .inr fun z => h0 (.inr z)
theorem nd_good {many : Nat} {r : Str} {n : Nd} (h : nodeT many r = some n) : GoodNd many n := by
  unfold nodeT at h
  split at h
  · rename_i w c rest e
    split at h
    · rename_i hw
      cases ht : targetsT many rest with
      | none => rw [ht] at h; cases h
      | some tg =>
        rw [ht] at h
        obtain rfl : (⟨w, c, tg⟩ : Nd) = n := Option.some.inj h
        exact ⟨hw.1, hw.2, tg_good ht⟩
    · cases h
  · cases h
theorem due_good {z : Str} {ns : List Nd} (h : dueT z = .inr ns) : GoodK ns := by
  unfold dueT at h
  obtain ⟨h1, h2⟩ := scan_nodes h
  obtain ⟨g1, g2⟩ := nodesT_get h1
  have h8 : (Txt.split z sNl).length ≤ 8 := by
    rcases h2 with h2 | h2
    · rw [h2]
      decide
    · omega
  refine ⟨by omega, fun n hn => ?_⟩
  obtain ⟨i, hi, e⟩ := List.mem_iff_getElem.mp hn
  obtain ⟨m, hm, hm2⟩ := g2 i _ (List.getElem?_eq_getElem (by omega))
  rw [List.getElem?_eq_getElem hi] at hm
  obtain rfl : ns[i] = m := Option.some.inj hm
  rw [e] at hm2
  exact (nd_good hm2).mono h8
theorem due_row {z : Str} {j : Nat} (h : dueT z = .inl j) : j < (Txt.split z sNl).length := by
  unfold dueT at h
  obtain ⟨_, h2, _⟩ := scan_row h
  omega
def rReprX (K : PySem.W.Frag) : List V → Hp → VK → Prop := fun xs H Q => (∃ i : Int, xs = [.int i] ∧ i.natAbs.log2 < 1920 ∧ Q (.str (toString i)) H) ∨ rRepr K xs H Q
theorem cr_reprX {X : Cx} (hgd : Calm X.A) {k : Nat} (hr : Room k X.A) : CallR X (.builtin "repr") (rReprX X.K) := by
  intro pins s σ H vs us Q I r h
  rcases h with h | h
  · exact SkE.call_repr_int pins s σ H vs us Q I r h
  · exact cr_repr hgd hr pins s σ H vs us Q I r h
structure FitsK (z : Str) : Prop where
  fair : Fair z
  len : z.length ≤ 100000
  few : (Txt.split z sNl).length ≤ 60
  row : ∀ r ∈ Txt.split z sNl, (Txt.split r sSp).length ≤ 4000
theorem FitsK.x {z : Str} (f : FitsK z) : FitsX z := ⟨f.len, f.few, f.row⟩
theorem FitsK.d {z : Str} (f : FitsK z) : FitsD z := ⟨f.fair, f.len, Nat.le_trans f.few (by decide), f.row⟩
theorem log_row {j : Nat} (h : j < 1000) : ((j : Int)).natAbs.log2 < 1920 := by
  show j.log2 < 1920
  exact Nat.lt_of_le_of_lt (Nat.log2_le_self j) (by omega)
end Vf

set_option maxRecDepth 100000
set_option maxHeartbeats 8000000
namespace Vf
open PySem PySem.Spec PyProof.Rows L2
def mu (w : Nat → Nat) (l : List Nat) : Nat := (l.map w).sum
theorem mu_nil (w : Nat → Nat) : mu w [] = 0 := rfl
theorem mu_cons (w : Nat → Nat) (c : Nat) (l : List Nat) : mu w (c :: l) = w c + mu w l := by
  unfold mu
  rw [List.map_cons, List.sum_cons]
theorem mu_app (w : Nat → Nat) (a b : List Nat) : mu w (a ++ b) = mu w a + mu w b := by
  unfold mu
  rw [List.map_append, List.sum_append]
theorem mu_take (w : Nat → Nat) (k : Nat) (l : List Nat) : mu w (l.take k) + mu w (l.drop k) = mu w l := by
  rw [← mu_app, List.take_append_drop]
theorem mu_one : ∀ l : List Nat, mu (fun _ => 1) l = l.length
  | [] => rfl
  | _ :: l => by
    rw [mu_cons, mu_one l, List.length_cons]
    omega
/-- the weights of a list of lists -/
def mus (w : Nat → Nat) (ps : List (List Nat)) : Nat := (ps.map (mu w)).sum
theorem mus_cons (w : Nat → Nat) (p : List Nat) (ps : List (List Nat)) : mus w (p :: ps) = mu w p + mus w ps := by
  unfold mus
  rw [List.map_cons, List.sum_cons]
theorem mus_app (w : Nat → Nat) (a b : List (List Nat)) : mus w (a ++ b) = mus w a + mus w b := by
  unfold mus
  rw [List.map_append, List.sum_append]
theorem mu_join (w : Nat → Nat) (c : Nat) : ∀ {ps : List (List Nat)}, ps ≠ [] → mu w (TL.joinL [c] ps) + w c = mus w ps + ps.length * w c
  | [p], _ => by
    show mu w p + w c = _
    rw [mus_cons, List.length_singleton]
    show _ = mu w p + 0 + 1 * w c
    omega
  | p :: q :: r, _ => by
    have ih := mu_join w c (ps := q :: r) (by simp)
    show mu w (p ++ ([c] ++ TL.joinL [c] (q :: r))) + w c = _
    rw [mu_app, mu_app, mus_cons, List.length_cons (as := q :: r), Nat.succ_mul]
    have : mu w [c] = w c := by
      rw [mu_cons, mu_nil]
      omega
    omega
def only (c : Nat) : Nat → Nat := fun d => if d = c then 1 else 0
theorem only_same (c : Nat) : only c c = 1 := if_pos rfl
theorem only_ne {c d : Nat} (h : d ≠ c) : only c d = 0 := if_neg h
theorem spl_many (c : Nat) : ∀ (l acc : List Nat), (TL.spl [c] 0 acc l).length = mu (only c) l + 1
  | [], acc => by rw [TL.spl_nil, mu_nil]; rfl
  | d :: l, acc => by
    rw [mu_cons]
    by_cases h : d = c
    · have hp : TL.pre [c] (d :: l) = true := by
        subst h
        simp [TL.pre]
      rw [TL.spl_hit hp, List.length_cons, h, only_same, List.length_singleton, Nat.sub_self, spl_many c l []]
      omega
    · have hp : TL.pre [c] (d :: l) = false := by
        simp [TL.pre, h]
      rw [TL.spl_miss hp, spl_many c l, only_ne h]
      omega
theorem tls_split {z y : Str} {c : Nat} (hy : TL.tl y = [c]) (hk : y.cps.all (· < 256) = true) : (Txt.split z y).map TL.tl = TL.spl [c] 0 [] (TL.tl z) := by
  rw [TL.split_spl z y (by rw [hy]; simp) (TL.kind_ok hk), hy]
theorem split_many {z y : Str} {c : Nat} (hy : TL.tl y = [c]) (hk : y.cps.all (· < 256) = true) : (Txt.split z y).length = mu (only c) (TL.tl z) + 1 := by
  have e := congrArg List.length (tls_split (z := z) hy hk)
  rw [List.length_map] at e
  rw [e, spl_many]
/-- a text's weight by its parts -/
theorem split_mu (w : Nat → Nat) {z y : Str} {c : Nat} (hy : TL.tl y = [c]) (hk : y.cps.all (· < 256) = true) : mu w (TL.tl z) + w c = mus w ((Txt.split z y).map TL.tl) + (Txt.split z y).length * w c := by
  have e := StrLaws.join_split z y
  have hne : (Txt.split z y) ≠ [] := fun h => by
    have := split_many (z := z) hy hk
    rw [h] at this
    simp at this
  have e2 : TL.tl z = TL.joinL [c] ((Txt.split z y).map TL.tl) := by
    rw [← hy, ← TL.tl_join, e]
  have := mu_join w c (ps := (Txt.split z y).map TL.tl) (by simpa using hne)
  rw [← e2, List.length_map] at this
  exact this
theorem join_mu (w : Nat → Nat) {y : Str} {c : Nat} (hy : TL.tl y = [c]) {rs : List Str} (h : rs ≠ []) : mu w (TL.tl (Txt.join y rs)) + w c = mus w (rs.map TL.tl) + rs.length * w c := by
  rw [TL.join_eq, TL.tl_join, hy]
  have := mu_join w c (ps := rs.map TL.tl) (by simpa using h)
  rw [List.length_map] at this
  exact this
theorem mus_mem (w : Nat → Nat) : ∀ {rs : List Str} {r : Str}, r ∈ rs → mu w (TL.tl r) ≤ mus w (rs.map TL.tl)
  | a :: rs, r, h => by
    rw [List.map_cons, mus_cons]
    rcases List.mem_cons.mp h with rfl | h
    · omega
    · have := mus_mem w h
      omega
theorem kN : sNl.cps.all (· < 256) = true := by decide +kernel
theorem kS : sSp.cps.all (· < 256) = true := by decide +kernel
/-- a row weighs at most what its text does; by newlines nothing -/
theorem row_mu (w : Nat → Nat) {z r : Str} (h : r ∈ Txt.split z sNl) : mu w (TL.tl r) ≤ mu w (TL.tl z) := by
  have e := split_mu w (z := z) tl_nl kN
  have m := mus_mem w h
  have hl : 1 ≤ (Txt.split z sNl).length := List.length_pos_of_mem h
  have : 1 * w 10 ≤ (Txt.split z sNl).length * w 10 := Nat.mul_le_mul_right _ hl
  omega
theorem row_nl {z r : Str} (h : r ∈ Txt.split z sNl) : mu (only 10) (TL.tl r) = 0 := by
  have e := split_mu (only 10) (z := z) tl_nl kN
  have e2 := split_many (z := z) tl_nl kN
  have m := mus_mem (only 10) h
  rw [only_same] at e
  omega
/-- how a text is spoilt -/
inductive Spoilt (ss ms os : List Str) (z : Str) : Str → Prop
  | cut {a b : Nat} {m z' : Str} (hab : a ≤ b) (hm : m ∈ ss ∨ m = "") (e : TL.tl z' = (TL.tl z).take a ++ (TL.tl m ++ (TL.tl z).drop b)) : Spoilt ss ms os z z'
  | out {k k' : Nat} (h : k ≤ k') : Spoilt ss ms os z (Txt.join sNl ((Txt.split z sNl).take k ++ (Txt.split z sNl).drop k'))
  | row {k k' : Nat} {r : Str} (h : k ≤ k') (hr : r ∈ Txt.split z sNl) : Spoilt ss ms os z (Txt.join sNl ((Txt.split z sNl).take k ++ ([r] ++ (Txt.split z sNl).drop k')))
  | more {m : Str} {n : Nat} (hm : m ∈ ms) (hn : n ≤ 8) : Spoilt ss ms os z (Txt.join sNl (Txt.split z sNl ++ List.replicate n m))
  | word {k j : Nat} {r : Str} {wd : Str} (hr : (Txt.split z sNl)[k]? = some r) (hj : j < (Txt.split r sSp).length) (hw : wd ∈ Txt.split r sSp ∨ wd ∈ os) :
      Spoilt ss ms os z (Txt.join sNl ((Txt.split z sNl).take k ++ ([Txt.join sSp ((Txt.split r sSp).set j wd)] ++ (Txt.split z sNl).drop (k + 1))))
structure Wt (w : Nat → Nat) (e : Nat) (ss ms os : List Str) : Prop where
  sg : ∀ s ∈ ss, mu w (TL.tl s) ≤ e
  mo : ∀ m ∈ ms, 8 * mu w (TL.tl m) + 8 * w 10 ≤ e
  od : ∀ o ∈ os, mu w (TL.tl o) ≤ e
  nl : w 10 ≤ e
theorem mus_take (w : Nat → Nat) {k k' : Nat} (h : k ≤ k') (rs : List Str) : mus w ((rs.take k).map TL.tl) + mus w ((rs.drop k').map TL.tl) ≤ mus w (rs.map TL.tl) := by
  have e1 : mus w (rs.map TL.tl) = mus w ((rs.take k).map TL.tl) + mus w ((rs.drop k).map TL.tl) := by
    rw [← mus_app, ← List.map_append, List.take_append_drop]
  have e2 : mus w ((rs.drop k).map TL.tl) = mus w (((rs.drop k).take (k' - k)).map TL.tl) + mus w ((rs.drop k').map TL.tl) := by
    rw [← mus_app, ← List.map_append]
    have : (rs.drop k).drop (k' - k) = rs.drop k' := by
      rw [List.drop_drop]
      congr 1
      omega
    rw [← this, List.take_append_drop]
  omega
theorem join_le' (w : Nat → Nat) (rs : List Str) : mu w (TL.tl (Txt.join sNl rs)) + w 10 ≤ mus w (rs.map TL.tl) + max 1 rs.length * w 10 := by
  by_cases h : rs = []
  · subst h
    have e : TL.tl (Txt.join sNl []) = [] := by
      rw [TL.join_eq, TL.tl_join]
      rfl
    rw [e, mu_nil]
    show 0 + w 10 ≤ mus w [] + 1 * w 10
    omega
  · have := join_mu w tl_nl h
    have hl : rs.length ≤ max 1 rs.length := by omega
    have := Nat.mul_le_mul_right (w 10) hl
    omega
theorem mus_rep (w : Nat → Nat) (m : Str) : ∀ n : Nat, mus w ((List.replicate n m).map TL.tl) = n * mu w (TL.tl m)
  | 0 => by
    rw [Nat.zero_mul]
    rfl
  | n + 1 => by
    rw [List.replicate_succ, List.map_cons, mus_cons, mus_rep w m n, Nat.succ_mul]
    omega
theorem mus_set (w : Nat → Nat) (v : Str) : ∀ {l : List Str} {j : Nat} {x : Str}, l[j]? = some x → mus w ((l.set j v).map TL.tl) + mu w (TL.tl x) = mus w (l.map TL.tl) + mu w (TL.tl v)
  | a :: l, 0, x, h => by
    obtain rfl : a = x := by simpa using h
    rw [List.set_cons_zero, List.map_cons, List.map_cons, mus_cons, mus_cons]
    omega
  | a :: l, j + 1, x, h => by
    have ih := mus_set w v (l := l) (j := j) (x := x) (by simpa using h)
    rw [List.set_cons_succ, List.map_cons, List.map_cons, mus_cons, mus_cons]
    omega
theorem spoilt_mu {w : Nat → Nat} {e p : Nat} {ss ms os : List Str} {z z' : Str} (W : Wt w e ss ms os) (hp : ∀ r ∈ Txt.split z sNl, mu w (TL.tl r) ≤ p) (h : Spoilt ss ms os z z') : mu w (TL.tl z') ≤ mu w (TL.tl z) + p + e := by
  have whole := split_mu w (z := z) tl_nl kN
  have some1 : 1 ≤ (Txt.split z sNl).length := by
    rw [split_many tl_nl kN]
    omega
  cases h with
  | @cut a b m _ hab hm e1 =>
    rw [e1, mu_app, mu_app]
    have h1 := mu_take w a (TL.tl z)
    have h2 := mu_take w (b - a) ((TL.tl z).drop a)
    rw [List.drop_drop, show a + (b - a) = b by omega] at h2
    have h3 : mu w (TL.tl m) ≤ e := by
      rcases hm with hm | rfl
      · exact W.sg m hm
      · have : TL.tl ("" : Str) = [] := by decide +kernel
        rw [this, mu_nil]
        omega
    omega
  | @out k k' hk =>
    have h1 := join_le' w ((Txt.split z sNl).take k ++ (Txt.split z sNl).drop k')
    have h2 := mus_take w hk (Txt.split z sNl)
    rw [List.map_append, mus_app] at h1
    have h3 : max 1 ((Txt.split z sNl).take k ++ (Txt.split z sNl).drop k').length ≤ (Txt.split z sNl).length := by
      rw [List.length_append, List.length_take, List.length_drop]
      omega
    have := Nat.mul_le_mul_right (w 10) h3
    omega
  | @row k k' r hk hr =>
    have h1 := join_le' w ((Txt.split z sNl).take k ++ ([r] ++ (Txt.split z sNl).drop k'))
    have h2 := mus_take w hk (Txt.split z sNl)
    have h4 := hp r hr
    have h5 := W.nl
    rw [List.map_append, List.map_append, mus_app, mus_app] at h1
    have h6 : mus w ([r].map TL.tl) = mu w (TL.tl r) := by
      rw [List.map_singleton, mus_cons]
      rfl
    have h3 : max 1 ((Txt.split z sNl).take k ++ ([r] ++ (Txt.split z sNl).drop k')).length ≤ (Txt.split z sNl).length + 1 := by
      rw [List.length_append, List.length_append, List.length_take, List.length_drop, List.length_singleton]
      omega
    have := Nat.mul_le_mul_right (w 10) h3
    rw [Nat.succ_mul] at this
    omega
  | @more m n hm hn =>
    have h1 := join_le' w (Txt.split z sNl ++ List.replicate n m)
    have h2 := W.mo m hm
    rw [List.map_append, mus_app, mus_rep] at h1
    have h3 : max 1 (Txt.split z sNl ++ List.replicate n m).length ≤ (Txt.split z sNl).length + 8 := by
      rw [List.length_append, List.length_replicate]
      omega
    have h4 := Nat.mul_le_mul_right (w 10) h3
    rw [Nat.add_mul] at h4
    have h5 := Nat.mul_le_mul_right (mu w (TL.tl m)) hn
    omega
  | @word k j r wd hr hj hw =>
    have hk : k < (Txt.split z sNl).length := (List.getElem?_eq_some_iff.mp hr).1
    have hrm := List.mem_of_getElem? hr
    have h1 := join_le' w ((Txt.split z sNl).take k ++ ([Txt.join sSp ((Txt.split r sSp).set j wd)] ++ (Txt.split z sNl).drop (k + 1)))
    have e0 : mus w ((Txt.split z sNl).map TL.tl) = mus w (((Txt.split z sNl).take k).map TL.tl) + (mu w (TL.tl r) + mus w (((Txt.split z sNl).drop (k + 1)).map TL.tl)) := by
      rw [← mus_cons, ← List.map_cons, ← mus_app, ← List.map_append]
      have e1 : (Txt.split z sNl).drop k = r :: (Txt.split z sNl).drop (k + 1) := by
        rw [List.drop_eq_getElem_cons hk]
        congr 1
        exact (List.getElem?_eq_some_iff.mp hr).2
      rw [← e1, List.take_append_drop]
    rw [List.map_append, List.map_append, mus_app, mus_app] at h1
    have h6 : mus w ([Txt.join sSp ((Txt.split r sSp).set j wd)].map TL.tl) = mu w (TL.tl (Txt.join sSp ((Txt.split r sSp).set j wd))) := by
      rw [List.map_singleton, mus_cons]
      rfl
    have hsne : (Txt.split r sSp).set j wd ≠ [] := fun z => by
      have := congrArg List.length z
      rw [List.length_set] at this
      simp at this
      rw [this] at hj
      simp at hj
    have h7 := join_mu w tl_sp hsne
    have h8 := mus_set w wd (List.getElem?_eq_getElem hj)
    have h9 := split_mu w (z := r) tl_sp kS
    rw [List.length_set] at h7
    have h10 : mu w (TL.tl wd) ≤ p + e := by
      rcases hw with hw | hw
      · have m := mus_mem w hw
        have hl : 1 ≤ (Txt.split r sSp).length := List.length_pos_of_mem hw
        have := Nat.mul_le_mul_right (w 32) hl
        have := hp r hrm
        omega
      · have := W.od wd hw
        omega
    have h3 : max 1 ((Txt.split z sNl).take k ++ ([Txt.join sSp ((Txt.split r sSp).set j wd)] ++ (Txt.split z sNl).drop (k + 1))).length ≤ (Txt.split z sNl).length := by
      rw [List.length_append, List.length_append, List.length_take, List.length_drop, List.length_singleton]
      omega
    have := Nat.mul_le_mul_right (w 10) h3
    omega
end Vf

set_option maxRecDepth 100000
set_option maxHeartbeats 8000000
namespace Vf
open PySem PySem.Spec PyProof.Rows L2
def w1 : Nat → Nat := fun _ => 1
def wF : Nat → Nat := fun c => if c < 1114112 then 0 else 1
def bA : Nat → Nat
  | 0 => 4808
  | m + 1 => 2 * bA m + 136
def bS : Nat → Nat
  | 0 => 96
  | m + 1 => 2 * bS m + 24
structure TextOk (m : Nat) (z : Str) : Prop where
  len : mu w1 (TL.tl z) ≤ bA m
  nl : mu (only 10) (TL.tl z) ≤ 7 + 8 * m
  sp : mu (only 32) (TL.tl z) ≤ bS m
  fr : mu wF (TL.tl z) = 0
def sgn : Str := " \n\t0123456789aA->_.;,#!$&'()*+/:<=?\x40[]^{|}~BZbjkqwz"
def sgn2 : List Str := ["  ", "\n\n", " end", " 7", " 8", "00", "->", "abcdefghi"]
def signsL : List Str := (TL.tl sgn).map (fun c => (⟨#[c]⟩ : Str)) ++ sgn2
def moreL : List Str := ["read x", "write y -> 0", "write x -> 8", "read x -> end", "", "read", "write end -> end"]
def oddL : List Str := ["end", "->", "read", "write", "0", "1", "7", "8", "9", "01", "-1", "", "x", "Read"]
def wtB (w : Nat → Nat) (e : Nat) : Bool := signsL.all (fun s => decide (mu w (TL.tl s) ≤ e)) && moreL.all (fun m => decide (8 * mu w (TL.tl m) + 8 * w 10 ≤ e)) && oddL.all (fun o => decide (mu w (TL.tl o) ≤ e)) && decide (w 10 ≤ e)
theorem wt_by {w : Nat → Nat} {e : Nat} (h : wtB w e = true) : Wt w e signsL moreL oddL := by
  unfold wtB at h
  simp only [Bool.and_eq_true, List.all_eq_true, decide_eq_true_eq] at h
  obtain ⟨⟨⟨h1, h2⟩, h3⟩, h4⟩ := h
  exact ⟨h1, h2, h3, h4⟩
theorem wt1 : Wt w1 136 signsL moreL oddL := wt_by (by decide +kernel)
theorem wt10 : Wt (only 10) 8 signsL moreL oddL := wt_by (by decide +kernel)
theorem wt32 : Wt (only 32) 24 signsL moreL oddL := wt_by (by decide +kernel)
theorem wtF : Wt wF 0 signsL moreL oddL := wt_by (by decide +kernel)
theorem TextOk.spoilt {m : Nat} {z z' : Str} (t : TextOk m z) (h : Spoilt signsL moreL oddL z z') : TextOk (m + 1) z' := by
  obtain ⟨h1, h2, h3, h4⟩ := t
  refine ⟨?_, ?_, ?_, ?_⟩
  · have := spoilt_mu wt1 (p := mu w1 (TL.tl z)) (fun r hr => row_mu w1 hr) h
    show _ ≤ 2 * bA m + 136
    omega
  · have := spoilt_mu wt10 (p := 0) (fun r hr => Nat.le_of_eq (row_nl hr)) h
    omega
  · have := spoilt_mu wt32 (p := mu (only 32) (TL.tl z)) (fun r hr => row_mu (only 32) hr) h
    show _ ≤ 2 * bS m + 24
    omega
  · have := spoilt_mu wtF (p := 0) (fun r hr => by have := row_mu wF hr; omega) h
    omega
theorem mu_zero {w : Nat → Nat} : ∀ {l : List Nat}, mu w l = 0 → ∀ c ∈ l, w c = 0
  | a :: l, h, c, hc => by
    rw [mu_cons] at h
    rcases List.mem_cons.mp hc with rfl | hc
    · omega
    · exact mu_zero (w := w) (by omega) c hc
theorem mu_none {w : Nat → Nat} : ∀ {l : List Nat}, (∀ c ∈ l, w c = 0) → mu w l = 0
  | [], _ => rfl
  | a :: l, h => by
    rw [mu_cons, h a List.mem_cons_self, mu_none fun c hc => h c (List.mem_cons_of_mem _ hc)]
theorem len_mu (z : Str) : mu w1 (TL.tl z) = z.length := by
  rw [TL.len_tl]
  exact mu_one _
theorem TextOk.fits {m : Nat} {z : Str} (t : TextOk m z) (hm : m ≤ 3) : FitsK z := by
  have hA : bA m ≤ 100000 := by
    have : ∀ m ≤ 3, bA m ≤ 100000 := by decide
    exact this m hm
  have hS : bS m ≤ 2000 := by
    have : ∀ m ≤ 3, bS m ≤ 2000 := by decide
    exact this m hm
  have h1 := t.len
  have h2 := t.nl
  have h3 := t.sp
  rw [len_mu] at h1
  refine ⟨fun c hc => ?_, by omega, ?_, fun r hr => ?_⟩
  · have := mu_zero t.fr c hc
    unfold wF at this
    split at this
    · assumption
    · cases this
  · rw [split_many tl_nl kN]
    omega
  · rw [split_many tl_sp kS]
    have := row_mu (only 32) hr
    omega
theorem mus_le (w : Nat → Nat) {b : Nat} : ∀ {rs : List Str}, (∀ r ∈ rs, mu w (TL.tl r) ≤ b) → mus w (rs.map TL.tl) ≤ rs.length * b
  | [], _ => Nat.zero_le _
  | r :: rs, h => by
    rw [List.map_cons, mus_cons, List.length_cons, Nat.succ_mul]
    have := h r List.mem_cons_self
    have := mus_le w (rs := rs) fun z hz => h z (List.mem_cons_of_mem _ hz)
    omega
theorem only_out {c : Nat} {l : List Nat} (h : c ∉ l) : mu (only c) l = 0 := mu_none fun d hd => only_ne fun e => h (e ▸ hd)
theorem word_fair {many : Nat} {n : Nd} (g : GoodNd many n) (f : Bool) : ∀ z ∈ rowW f n, mu wF (TL.tl z) = 0 := fun z hz => by
  refine mu_none fun c hc => ?_
  have key : c < 1114112 → wF c = 0 := fun h => if_pos h
  refine key ?_
  have hw : ∀ z, z = n.word → c ∈ TL.tl z → c < 1114112 := fun z e hc => by
    have k1 : ∀ c ∈ TL.tl sRead, c < 1114112 := by decide +kernel
    have k2 : ∀ c ∈ TL.tl sWrite, c < 1114112 := by decide +kernel
    subst e
    rcases g.word with e | e <;> rw [e] at hc
    · exact k1 c hc
    · exact k2 c hc
  have hcl : ∀ z, z = n.cell → c ∈ TL.tl z → c < 1114112 := fun z e hc => by
    subst e
    have := name_signs g.cell c hc
    omega
  unfold rowW at hz
  split at hz
  · rcases List.mem_cons.mp hz with e | hz
    · exact hw z e hc
    · exact hcl z (List.mem_singleton.mp hz) hc
  · rcases List.mem_cons.mp hz with e | hz
    · exact hw z e hc
    rcases List.mem_cons.mp hz with e | hz
    · exact hcl z e hc
    rcases List.mem_cons.mp hz with rfl | hz
    · have k : ∀ c ∈ TL.tl sArrow, c < 1114112 := by decide +kernel
      exact k c hc
    · obtain ⟨t, _, rfl⟩ := List.mem_map.mp hz
      cases t with
      | none =>
        have k : ∀ c ∈ TL.tl sEnd, c < 1114112 := by decide +kernel
        exact k c hc
      | some j =>
        have hc' : c ∈ TL.numL j := by
          rw [← tl_natS]
          exact hc
        by_cases h : 57 < c
        · exact absurd hc' (TL.numL_free (.inr h))
        · omega
structure Row0 (r : Str) : Prop where
  len : mu w1 (TL.tl r) ≤ 600
  nl : mu (only 10) (TL.tl r) = 0
  sp : mu (only 32) (TL.tl r) ≤ 11
  fr : mu wF (TL.tl r) = 0
theorem row0 {many : Nat} {n : Nd} (g : GoodNd many n) (hm : many ≤ 8) (f : Bool) : Row0 (rowS f n) := by
  have hne := rowW_ne f n
  have hl := rowW_len g f
  refine ⟨?_, only_out (row_no_nl g f), ?_, ?_⟩
  · rw [len_mu]
    exact rowS_le g (by omega) f
  · have e := join_mu (only 32) tl_sp hne
    have z := mus_le (only 32) (b := 0) (rs := rowW f n) fun r hr => Nat.le_of_eq (only_out fun hc => (solid_row g f r hr 32 hc).1 rfl)
    rw [only_same] at e
    show mu (only 32) (TL.tl (Txt.join sSp (rowW f n))) ≤ 11
    omega
  · have e := join_mu wF tl_sp hne
    have z := mus_le wF (b := 0) (rs := rowW f n) fun r hr => Nat.le_of_eq (word_fair g f r hr)
    have e32 : wF 32 = 0 := by decide
    rw [e32] at e
    show mu wF (TL.tl (Txt.join sSp (rowW f n))) = 0
    omega
theorem rows0 {rs : List Str} {ns : List Nd} (h : Rows rs ns) {many : Nat} (hm : many ≤ 8) (g : ∀ n ∈ ns, GoodNd many n) : ∀ r ∈ rs, Row0 r := by
  induction h with
  | nil => exact fun _ hr => nomatch hr
  | @cons n rs ns f _ ih =>
    intro r hr
    rcases List.mem_cons.mp hr with rfl | hr
    · exact row0 (g n List.mem_cons_self) hm f
    · exact ih (fun y hy => g y (List.mem_cons_of_mem _ hy)) r hr
theorem text0 {rs : List Str} {ns : List Nd} (h : Rows rs ns) (g : Good ns) : TextOk 0 (Txt.join sNl rs) := by
  have k := rows0 h g.few g.all
  have hl := h.len
  have h8 := g.few
  have hne : rs ≠ [] := fun z => g.some (List.length_eq_zero_iff.mp (by rw [← hl, z]; rfl))
  refine ⟨?_, ?_, ?_, ?_⟩
  · have e := join_mu w1 tl_nl hne
    have m := mus_le w1 (b := 600) fun r hr => (k r hr).len
    have e1 : w1 10 = 1 := rfl
    rw [e1] at e
    show _ ≤ 4808
    omega
  · have e := join_mu (only 10) tl_nl hne
    have m := mus_le (only 10) (b := 0) fun r hr => Nat.le_of_eq (k r hr).nl
    rw [only_same] at e
    omega
  · have e := join_mu (only 32) tl_nl hne
    have m := mus_le (only 32) (b := 11) fun r hr => (k r hr).sp
    have e1 : only 32 10 = 0 := rfl
    rw [e1] at e
    show _ ≤ 96
    omega
  · have e := join_mu wF tl_nl hne
    have m := mus_le wF (b := 0) fun r hr => Nat.le_of_eq (k r hr).fr
    have e1 : wF 10 = 0 := by decide
    rw [e1] at e
    omega
end Vf

set_option maxRecDepth 100000
set_option maxHeartbeats 8000000
namespace Vf
open PySem PySem.Spec PyProof.Rows L2
theorem tl_cut_to (z : Str) (r : Nat) : TL.tl (cutS z none (some (r : Int))) = (TL.tl z).take r := by
  have e : z.length = (TL.tl z).length := TL.len_tl z
  show ((z.cps.toList.drop (HT.sIx z.length 0 none)).take (HT.sIx z.length z.length (some (r : Int)) - HT.sIx z.length 0 none)) = _
  rw [HT.sIx_none, HT.sIx_nat, List.drop_zero, Nat.sub_zero, e]
  show (TL.tl z).take (min r (TL.tl z).length) = _
  by_cases h : r ≤ (TL.tl z).length
  · rw [Nat.min_eq_left h]
  · rw [Nat.min_eq_right (by omega), List.take_of_length_le (by omega), List.take_of_length_le (by omega)]
theorem tl_cut_from (z : Str) (r : Nat) : TL.tl (cutS z (some (r : Int)) none) = (TL.tl z).drop r := by
  have e : z.length = (TL.tl z).length := TL.len_tl z
  show ((z.cps.toList.drop (HT.sIx z.length 0 (some (r : Int)))).take (HT.sIx z.length z.length none - HT.sIx z.length 0 (some (r : Int)))) = _
  rw [HT.sIx_none, HT.sIx_nat, e]
  show ((TL.tl z).drop (min r (TL.tl z).length)).take _ = _
  by_cases h : r ≤ (TL.tl z).length
  · rw [Nat.min_eq_left h, List.take_of_length_le (by rw [List.length_drop]; omega)]
  · rw [Nat.min_eq_right (by omega), List.drop_of_length_le (by omega), List.drop_of_length_le (by omega), List.take_nil]
theorem cut_to {xs : List V} (r : Nat) : cutV xs none (some (r : Int)) = xs.take r := by
  unfold cutV
  rw [HT.sIx_none, HT.sIx_nat, List.drop_zero, Nat.sub_zero]
  by_cases h : r ≤ xs.length
  · rw [Nat.min_eq_left h]
  · rw [Nat.min_eq_right (by omega), List.take_of_length_le (by omega), List.take_of_length_le (by omega)]
theorem cut_from {xs : List V} (r : Nat) : cutV xs (some (r : Int)) none = xs.drop r := by
  unfold cutV
  rw [HT.sIx_none, HT.sIx_nat]
  by_cases h : r ≤ xs.length
  · rw [Nat.min_eq_left h, List.take_of_length_le (by rw [List.length_drop]; omega)]
  · rw [Nat.min_eq_right (by omega), List.drop_of_length_le (by omega), List.drop_of_length_le (by omega), List.take_nil]
theorem cut_to_le (z : Str) (r : Nat) : (cutS z none (some (r : Int))).length ≤ z.length := by
  rw [TL.len_tl, tl_cut_to, List.length_take, TL.len_tl z]
  omega
theorem cut_from_le (z : Str) (r : Nat) : (cutS z (some (r : Int)) none).length ≤ z.length := by
  rw [TL.len_tl, tl_cut_from, List.length_drop, TL.len_tl z]
  omega
theorem sign_len : ∀ s ∈ signsL, s.length ≤ 9 := by
  have k : (signsL.all fun s => decide (s.length ≤ 9)) = true := by decide +kernel
  intro s hs
  exact of_decide_eq_true (List.all_eq_true.mp k s hs)
theorem word_len : ∀ s ∈ moreL ++ oddL, s.length ≤ 16 := by
  have k : ((moreL ++ oddL).all fun s => decide (s.length ≤ 16)) = true := by decide +kernel
  intro s hs
  exact of_decide_eq_true (List.all_eq_true.mp k s hs)
theorem get_str {l : List Str} {i : Nat} {v : V} (h : (l.map V.str)[i]? = some v) : ∃ s, l[i]? = some s ∧ v = .str s := by
  rw [List.getElem?_map] at h
  cases e : l[i]? with
  | none => rw [e] at h; cases h
  | some s => rw [e] at h; exact ⟨s, rfl, (Option.some.inj h).symm⟩
theorem jsize {ys : List Str} (h : ∀ r ∈ ys, r.length ≤ 200040) (hn : ys.length ≤ 75) : (ys.map (·.length)).sum + ys.length * sNl.length ≤ 16777216 := by
  have h1 := sum_le h
  have e : sNl.length = 1 := by decide +kernel
  rw [e]
  have := Nat.mul_le_mul_right 200040 hn
  omega
theorem rep_flat {α : Type} (v : α) : ∀ n : Nat, (List.replicate n [v]).flatten = List.replicate n v
  | 0 => rfl
  | n + 1 => by
    rw [List.replicate_succ, List.flatten_cons, rep_flat v n, List.replicate_succ]
    rfl
theorem ixN_at {n j : Nat} (hj : j < n) : ixN n (j : Int) = some j := by
  unfold ixN
  rw [if_pos (by omega), if_pos (by omega), Int.toNat_natCast]
theorem mus_len (l : List Str) : mus w1 (l.map TL.tl) = (l.map (·.length)).sum := by
  induction l with
  | nil => rfl
  | cons a l ih =>
    rw [List.map_cons, mus_cons, ih, List.map_cons, List.sum_cons, len_mu]
section
variable {P : Program} {w : World} {K : PySem.W.Frag} {mg : Str → Option Value} {base : Heap}
theorem cat_step {Ha : Hp} {a : Addr} {xs ys : List V} {Q : VK} (e : Ha a = some (.lst xs)) (hl : xs.length + ys.length ≤ 1000) (k : ∀ p H', Same Ha H' → Ha p = none → H' p = some (.lst (xs ++ ys)) → Q (.ref p) H') :
    ys.length ≤ sizeLine ∧ ∀ q, Ha q = none → rCat (.ref a) (.ref q) (upd Ha q (.lst ys)) Q := by
  refine ⟨by rw [sizeLine_eq]; omega, fun q hq => ⟨a, q, xs, ys, rfl, rfl, same_new hq _ _ e, upd_same, by rw [sizeLine_eq]; omega, fun p hp => k p _ ((same_new hq).trans (same_new hp)) ?_ upd_same⟩⟩
  have hqp : p ≠ q := fun z => by
    rw [z, upd_same] at hp
    cases hp
  rw [upd_ne hqp] at hp
  exact hp
def sp_law_spoilt : Sp := fun vs H Q _ => ∃ (p : Addr) (m : Nat) (z : Str), vs = [.ref p, .str z] ∧ FeedAt H p ∧ TextOk m z ∧ m ≤ 3 ∧ ∀ z' H', TextOk (m + 1) z' → But p H H' → FeedAt H' p → Q (.str z') H'
set_option maxHeartbeats 0 in
theorem ok_law_spoilt {f : Addr} {fd : FuncData} (F : Fun K "_law_spoilt" "_law_spoilt" s_law_spoilt f fd) (T0 : Txt0 K mg) (T : TxtL mg) (GT : OkF P w K mg base CX0 "_law_take" p_law_take 1 sp_law_take) (GP : OkF P w K mg base CX0 "_law_pick" p_law_pick 2 (sp_law_pick K)) :
    FnOk P w K mg base CX0 3 f fd p_law_spoilt sp_law_spoilt := by
  refine F.ok sc_law_spoilt (fun vs H Q E h => ?_) (fun cdv A outer s H vs Q E hr h => ?_)
  · obtain ⟨p, m, z, rfl, _⟩ := h
    rfl
  · obtain ⟨p, m, z, rfl, hp, ht, hm, k⟩ := h
    have hr1 : Room 1 _ := hr.mono (by decide)
    have fk := ht.fits hm
    have zl := fk.len
    refine ⟨_, pss_cons (ps_par (i := 2) (j := 3) rfl sc_law_spoilt.nd rfl rfl (by decide) rfl rfl (pa_cons (pe_split (pv 1) pe_str) (pa_cons (pe_fn GT hr1 rfl pass0 (pa_cons (pv 0) (pa_cons (pe_op op_add (pe_callB call_len_str (by rfl) T0.len PySem.boot_len (pa_cons (pv 1) pa_nil)) pe_int) pa_nil))) pa_nil)) (by rfl))
      (pss_cons (ps_set (i := 4) sc_law_spoilt.nd rfl (Or.inl rfl) (pe_callTy (cr_listS rfl) (by rfl) T.list (by decide +kernel) (pa_cons pe_str pa_nil)))
      (pss_cons (ps_set (i := 4) sc_law_spoilt.nd rfl (Or.inl rfl) (pe_op op_cat (pv 4) (pe_lst (pa_cons pe_str (pa_cons pe_str (pa_cons pe_str (pa_cons pe_str (pa_cons pe_str (pa_cons pe_str (pa_cons pe_str (pa_cons pe_str pa_nil)))))))))))
      (pss_cons (ps_par3 (i := 5) (j := 6) (l := 7) rfl sc_law_spoilt.nd rfl rfl rfl (by decide) (by decide) (by decide) rfl rfl rfl (pa_cons (pe_fn GP hr rfl pass0 (pa_cons (pv 0) (pa_cons (pv 4) pa_nil))) (pa_cons (pe_fn GT hr1 rfl pass0 (pa_cons (pv 0) (pa_cons pe_int pa_nil)))
          (pa_cons (pe_fn GT hr1 rfl pass0 (pa_cons (pv 0) (pa_cons (pe_callB call_len_seq (by rfl) T0.len PySem.boot_len (pa_cons (pv 2) pa_nil)) pa_nil))) pa_nil))) (by rfl))
      (pss_cons (ps_if (pt_cmpR op_eq (pv 6) pe_int (nomark _)) (pss_one (ps_ret (pe_op op_add_str (pe_slice sl_str (pv 1) po_none (po_some (pv 3))) (pe_slice sl_str (pv 1) (po_some (pe_op op_add (pv 3) pe_int)) po_none)))) pss_nil)
      (pss_cons (ps_if (pt_cmpR op_eq (pv 6) pe_int (nomark _)) (pss_one (ps_ret (pe_op op_add_str (pe_op op_add_str (pe_slice sl_str (pv 1) po_none (po_some (pv 3))) (pv 5)) (pe_slice sl_str (pv 1) (po_some (pv 3)) po_none)))) pss_nil)
      (pss_cons (ps_if (pt_cmpR op_eq (pv 6) pe_int (nomark _)) (pss_one (ps_ret (pe_op op_add_str (pe_op op_add_str (pe_slice sl_str (pv 1) po_none (po_some (pv 3))) (pv 5)) (pe_slice sl_str (pv 1) (po_some (pe_op op_add (pv 3) pe_int)) po_none)))) pss_nil)
      (pss_cons (ps_if (pt_cmpR op_eq (pv 6) pe_int (nomark _)) (pss_one (ps_ret (pe_join pe_str (pe_op op_cat (pe_slice sl_list (pv 2) po_none (po_some (pv 7))) (pe_slice sl_list (pv 2) (po_some (pe_op op_add (pv 7) pe_int)) po_none))))) pss_nil)
      (pss_cons (ps_if (pt_cmpR op_eq (pv 6) pe_int (nomark _)) (pss_one (ps_ret (pe_join pe_str (pe_op op_cat (pe_op op_cat (pe_slice sl_list (pv 2) po_none (po_some (pv 7))) (pe_lst (pa_cons (pe_fn GP hr rfl pass0 (pa_cons (pv 0) (pa_cons (pv 2) pa_nil))) pa_nil)))
          (pe_slice sl_list (pv 2) (po_some (pe_op op_add (pv 7) (pe_fn GT hr1 rfl pass0 (pa_cons (pv 0) (pa_cons pe_int pa_nil))))) po_none))))) pss_nil)
      (pss_cons (ps_if (pt_cmpR op_eq (pv 6) pe_int (nomark _))
          (pss_cons (ps_set (i := 8) sc_law_spoilt.nd rfl (Or.inl rfl) (pe_lst (pa_cons pe_str (pa_cons pe_str (pa_cons pe_str (pa_cons pe_str (pa_cons pe_str (pa_cons pe_str (pa_cons pe_str pa_nil)))))))))
          (pss_cons (ps_set (i := 8) sc_law_spoilt.nd rfl (Or.inl rfl) (pe_fn GP hr rfl pass0 (pa_cons (pv 0) (pa_cons (pv 8) pa_nil))))
          (pss_one (ps_ret (pe_join pe_str (pe_op op_cat (pv 2) (pe_op op_rep (pe_lst (pa_cons (pv 8) pa_nil)) (pe_fn GP hr rfl pass0 (pa_cons (pv 0) (pa_cons (pe_lst (pa_cons pe_int (pa_cons pe_int (pa_cons pe_int pa_nil)))) pa_nil)))))))))) pss_nil)
      (pss_cons (ps_set (i := 9) sc_law_spoilt.nd rfl (Or.inl rfl) (pe_split (pe_ix ix_list (pv 2) (pv 7) (fun _ _ => rfl)) pe_str))
      (pss_cons (ps_set (i := 10) sc_law_spoilt.nd rfl (Or.inl rfl) (pe_fn GT hr1 rfl pass0 (pa_cons (pv 0) (pa_cons (pe_callB call_len_seq (by rfl) T0.len PySem.boot_len (pa_cons (pv 9) pa_nil)) pa_nil))))
      (pss_cons (ps_set (i := 11) sc_law_spoilt.nd rfl (Or.inl rfl) (pe_lst (pa_cons pe_str (pa_cons pe_str (pa_cons pe_str (pa_cons pe_str (pa_cons pe_str (pa_cons pe_str (pa_cons pe_str (pa_cons pe_str (pa_cons pe_str (pa_cons pe_str (pa_cons pe_str (pa_cons pe_str (pa_cons pe_str (pa_cons pe_str pa_nil))))))))))))))))
      (pss_cons (ps_asg (pe_fn GP hr rfl pass0 (pa_cons (pv 0) (pa_cons (pe_op op_cat (pv 9) (pv 11)) pa_nil))) (pg_sub (pv 9) (pv 10) set_list))
      (pss_one (ps_ret (pe_join pe_str (pe_op op_cat (pe_op op_cat (pe_slice sl_list (pv 2) po_none (po_some (pv 7))) (pe_lst (pa_cons (pe_join pe_str (pv 9)) pa_nil))) (pe_slice sl_list (pv 2) (po_some (pe_op op_add (pv 7) pe_int)) po_none)))))))))))))))))), ?_⟩
    have zs : z.length ≤ sizeLine := by
      rw [sizeLine_eq]
      omega
    have zs2 : z.length + 2 ≤ sizeLine := by
      rw [sizeLine_eq]
      omega
    have few := fk.few
    have some1 : 1 ≤ (Txt.split z sNl).length := by
      rw [split_many tl_nl kN]
      omega
    have rlen : ∀ r ∈ Txt.split z sNl, r.length ≤ 100000 := fun r hr => Nat.le_trans (part_len hr) zl
    refine ⟨_, rfl, ⟨_, rfl⟩, _, sNl, rfl, rfl, (by decide +kernel), zs2, fun R hR => ?_⟩
    have hpR : p ≠ R := hp.ne hR
    have b1 : But p H (upd H R (.lst ((Txt.split z sNl).map V.str))) := (But.refl p H).new hR
    refine ⟨_, rfl, _, rfl, z, rfl, zs, _, _, rfl, rfl, p, z.length + 1, rfl, hp.put hpR, by omega, by omega, fun at_ H2 hat b2 f2 => ⟨_, _, rfl, ?_⟩⟩
    have r2 := b2 _ _ hpR.symm (upd_same (H := H) (a := R) (o := .lst ((Txt.split z sNl).map V.str)))
    refine ⟨sgn, rfl, (by decide +kernel), fun L hL => ?_⟩
    have hpL : p ≠ L := f2.ne hL
    have f3 := f2.put (o := .lst (sgn.cps.toList.map fun c => V.str ⟨#[c]⟩)) hpL
    refine ⟨_, rfl, cat_step (ys := sgn2.map V.str) upd_same (by decide +kernel) fun L2 G s3 hL2 eG => ?_⟩
    have hpL2 : p ≠ L2 := f3.ne hL2
    have f5 := f3.same s3
    have s25 := (same_new (o := .lst (sgn.cps.toList.map fun c => V.str ⟨#[c]⟩)) hL).trans s3
    have sG : G L2 = some (.lst (signsL.map V.str)) := by
      rw [eG]
      unfold signsL
      rw [List.map_append, List.map_map]
      rfl
    have bG : But p H G := (b1.trans b2).then s25
    have rG := s25 _ _ r2
    refine ⟨_, rfl, _, rfl, p, L2, _, rfl, f5, hpL2, SqL.of sG, by rw [List.length_map]; decide +kernel, by rw [List.length_map]; decide +kernel, fun i v H4 hv b4 f4' => ?_⟩
    obtain ⟨sn, hsn, rfl⟩ := get_str hv
    have hsn' := List.mem_of_getElem? hsn
    have snl := sign_len sn hsn'
    refine ⟨_, rfl, p, 8, rfl, f4', by decide, by decide, fun cs H5 hcs b5 f5' => ?_⟩
    have r5 := b5 _ _ hpR.symm (b4 _ _ hpR.symm rG)
    refine ⟨_, rfl, _, rfl, R, _, rfl, .inl (SqL.of r5), p, _, rfl, f5', by rw [List.length_map]; exact some1, by rw [List.length_map]; omega, fun kk H6 hkk b6 f6 => ⟨_, _, _, rfl, ?_⟩⟩
    rw [List.length_map] at hkk
    have r6 := b6 _ _ hpR.symm r5
    have bG6 : But p H H6 := ((bG.trans b4).trans b5).trans b6
    have fin : ∀ z' H', Spoilt signsL moreL oddL z z' → But p H6 H' → FeedAt H' p → Q (.str z') H' := fun z' H' hs b f => k z' H' (ht.spoilt hs) (bG6.trans b) f
    clear bG b4 b5 b6 rG sG hv
    have none_ : TL.tl ("" : Str) = [] := by decide +kernel
    have c1 := cut_to_le z at_
    have c2 := cut_from_le z at_
    have c3 := cut_from_le z (at_ + 1)
    refine ⟨_, rfl, rfl, _, rfl, ?_⟩
    by_cases h0 : cs = 0
    · rw [decide_eq_true (p := V.int (cs : Nat) = V.int 0) (by rw [h0]; rfl)]
      refine iteT ⟨_, rfl, _, rfl, _, rfl, z, rfl, zs, _, rfl, _, rfl, _, _, rfl, rfl, _, rfl, z, rfl, zs, _, _, rfl, rfl, ?_, ?_⟩
      · show (cutS z none (some (at_ : Int))).length + (cutS z (some ((at_ + 1 : Nat) : Int)) none).length ≤ sizeLine
        rw [sizeLine_eq]
        omega
      · refine fin _ _ (.cut (a := at_) (b := at_ + 1) (m := "") (by omega) (.inr rfl) ?_) (But.refl p _) f6
        show TL.tl (cutS z none (some (at_ : Int)) ++ cutS z (some ((at_ + 1 : Nat) : Int)) none) = _
        rw [TL.tl_append, tl_cut_to, tl_cut_from, none_]
        rfl
    rw [decide_eq_false (p := V.int (cs : Nat) = V.int 0) (fun e => h0 (by have := V.int.inj e; omega))]
    refine iteF ⟨_, rfl, rfl, _, rfl, ?_⟩
    by_cases h1 : cs = 1
    · rw [decide_eq_true (p := V.int (cs : Nat) = V.int 1) (by rw [h1]; rfl)]
      have l1 : (cutS z none (some (at_ : Int)) ++ sn).length ≤ 100009 := by
        rw [TL.len_tl, TL.tl_append, List.length_append, ← TL.len_tl, ← TL.len_tl]
        omega
      refine iteT ⟨_, rfl, _, rfl, _, rfl, z, rfl, zs, _, rfl, _, _, rfl, rfl, ?_, _, rfl, _, rfl, _, rfl, z, rfl, zs, _, _, rfl, rfl, ?_, ?_⟩
      · rw [sizeLine_eq]
        omega
      · rw [sizeLine_eq]
        omega
      · refine fin _ _ (.cut (a := at_) (b := at_) (m := sn) (Nat.le_refl _) (.inl hsn') ?_) (But.refl p _) f6
        rw [TL.tl_append, TL.tl_append, tl_cut_to, tl_cut_from, List.append_assoc]
    rw [decide_eq_false (p := V.int (cs : Nat) = V.int 1) (fun e => h1 (by have := V.int.inj e; omega))]
    refine iteF ⟨_, rfl, rfl, _, rfl, ?_⟩
    by_cases h2 : cs = 2
    · rw [decide_eq_true (p := V.int (cs : Nat) = V.int 2) (by rw [h2]; rfl)]
      have l1 : (cutS z none (some (at_ : Int)) ++ sn).length ≤ 100009 := by
        rw [TL.len_tl, TL.tl_append, List.length_append, ← TL.len_tl, ← TL.len_tl]
        omega
      refine iteT ⟨_, rfl, _, rfl, _, rfl, z, rfl, zs, _, rfl, _, _, rfl, rfl, ?_, _, rfl, _, rfl, _, _, rfl, rfl, _, rfl, z, rfl, zs, _, _, rfl, rfl, ?_, ?_⟩
      · rw [sizeLine_eq]
        omega
      · show (cutS z none (some (at_ : Int)) ++ sn).length + (cutS z (some ((at_ + 1 : Nat) : Int)) none).length ≤ sizeLine
        rw [sizeLine_eq]
        omega
      · refine fin _ _ (.cut (a := at_) (b := at_ + 1) (m := sn) (by omega) (.inl hsn') ?_) (But.refl p _) f6
        show TL.tl (cutS z none (some (at_ : Int)) ++ sn ++ cutS z (some ((at_ + 1 : Nat) : Int)) none) = _
        rw [TL.tl_append, TL.tl_append, tl_cut_to, tl_cut_from, List.append_assoc]
    rw [decide_eq_false (p := V.int (cs : Nat) = V.int 2) (fun e => h2 (by have := V.int.inj e; omega))]
    refine iteF ⟨_, rfl, rfl, _, rfl, ?_⟩
    generalize hrows : Txt.split z sNl = rows at *
    by_cases h3 : cs = 3
    · rw [decide_eq_true (p := V.int (cs : Nat) = V.int 3) (by rw [h3]; rfl)]
      refine iteT ⟨⟨_, rfl⟩, _, rfl, _, rfl, _, rfl, R, _, rfl, SqL.of r6, fun q1 hq1 => ?_⟩
      refine ⟨_, rfl, _, rfl, _, _, rfl, rfl, _, rfl, R, _, rfl, SqL.of (same_new hq1 _ _ r6), fun q2 hq2 => ?_⟩
      rw [cut_to, ← List.map_take] at hq2 ⊢
      have e2 : cutV (rows.map V.str) (some ((kk : Int) + 1)) none = (rows.drop (kk + 1)).map V.str := by
        rw [List.map_drop]
        exact cut_from (kk + 1)
      rw [e2]
      refine ⟨q1, q2, _, _, rfl, rfl, same_new hq2 _ _ upd_same, upd_same, by rw [List.length_map, List.length_map, List.length_take, List.length_drop, sizeLine_eq]; omega, fun q3 hq3 => ?_⟩
      refine ⟨_, q3, rows.take kk ++ rows.drop (kk + 1), rfl, rfl, .inl (SqL.of (by rw [upd_same, List.map_append])), jsize (fun r hr => ?_) (by rw [List.length_append, List.length_take, List.length_drop]; omega), ?_⟩
      · have : r ∈ rows := (List.mem_append.mp hr).elim List.mem_of_mem_take List.mem_of_mem_drop
        have := rlen r this
        omega
      · exact fin _ _ (hrows ▸ Spoilt.out (k := kk) (k' := kk + 1) (by omega)) (Same.but (((same_new hq1).trans (same_new hq2)).trans (same_new hq3))) (f6.same (((same_new hq1).trans (same_new hq2)).trans (same_new hq3)))
    rw [decide_eq_false (p := V.int (cs : Nat) = V.int 3) (fun e => h3 (by have := V.int.inj e; omega))]
    refine iteF ⟨_, rfl, rfl, _, rfl, ?_⟩
    by_cases h4 : cs = 4
    · rw [decide_eq_true (p := V.int (cs : Nat) = V.int 4) (by rw [h4]; rfl)]
      refine iteT ⟨⟨_, rfl⟩, _, rfl, _, rfl, _, rfl, R, _, rfl, SqL.of r6, fun q1 hq1 => ?_⟩
      rw [cut_to, ← List.map_take]
      have hp1 : p ≠ q1 := f6.ne hq1
      refine ⟨_, rfl, _, rfl, p, R, _, rfl, f6.put hp1, hpR, SqL.of (same_new hq1 _ _ r6), by rw [List.length_map]; omega, by rw [List.length_map]; omega, fun i2 v2 H7 hv2 b7 f7 => ?_⟩
      obtain ⟨rw_, hrw, rfl⟩ := get_str hv2
      have hrw' := List.mem_of_getElem? hrw
      have e7 := b7 _ _ hp1.symm (upd_same (H := H6) (a := q1) (o := .lst ((rows.take kk).map V.str)))
      have r7 := b7 _ _ hpR.symm (same_new hq1 _ _ r6)
      refine ⟨by show 1 ≤ sizeLine; decide, fun q2 hq2 => ⟨q1, q2, _, _, rfl, rfl, same_new hq2 _ _ e7, upd_same, by rw [List.length_map, List.length_take, sizeLine_eq]; show _ + 1 ≤ _; omega, fun q3 hq3 => ?_⟩⟩
      have s79 := (same_new (o := .lst [.str rw_]) hq2).trans (same_new (o := .lst ((rows.take kk).map V.str ++ [.str rw_])) hq3)
      have f9 := f7.same s79
      have r9 := s79 _ _ r7
      have e9 : (upd (upd H7 q2 (.lst [.str rw_])) q3 (.lst ((rows.take kk).map V.str ++ [.str rw_]))) q3 = some (.lst ((rows.take kk).map V.str ++ [.str rw_])) := upd_same
      have b9 : But p H6 (upd (upd H7 q2 (.lst [.str rw_])) q3 (.lst ((rows.take kk).map V.str ++ [.str rw_]))) := ((Same.but (same_new hq1)).trans b7).then s79
      generalize upd (upd H7 q2 (.lst [.str rw_])) q3 (.lst ((rows.take kk).map V.str ++ [.str rw_])) = H9 at f9 r9 e9 b9
      refine ⟨_, rfl, _, rfl, _, rfl, p, 2, rfl, f9, by decide, by decide, fun dk H10 hdk b10 f10 => ⟨_, _, rfl, rfl, _, rfl, R, _, rfl, SqL.of (b10 _ _ hpR.symm r9), fun q4 hq4 => ?_⟩⟩
      have hp3 : p ≠ q3 := f7.ne (by
        have := hq3
        by_cases e : q3 = q2
        · rw [e, upd_same] at this
          cases this
        · rwa [upd_ne e] at this)
      have e10 := b10 _ _ hp3.symm e9
      have ec : cutV (rows.map V.str) (some ((kk : Int) + (dk : Int))) none = (rows.drop (kk + dk)).map V.str := by
        rw [List.map_drop]
        exact cut_from (kk + dk)
      rw [ec]
      refine ⟨q3, q4, _, _, rfl, rfl, same_new hq4 _ _ e10, upd_same, by rw [List.length_append, List.length_map, List.length_map, List.length_take, List.length_drop, sizeLine_eq]; show _ + 1 + _ ≤ _; omega, fun q5 hq5 => ?_⟩
      refine ⟨_, q5, rows.take kk ++ ([rw_] ++ rows.drop (kk + dk)), rfl, rfl, .inl (SqL.of (by rw [upd_same, List.map_append, List.map_append, List.append_assoc]; rfl)), jsize (fun r hr => ?_) (by rw [List.length_append, List.length_append, List.length_take, List.length_drop]; show _ + (1 + _) ≤ _; omega), ?_⟩
      · have : r ∈ rows := by
          rcases List.mem_append.mp hr with hr | hr
          · exact List.mem_of_mem_take hr
          rcases List.mem_append.mp hr with hr | hr
          · rw [List.mem_singleton.mp hr]
            exact hrw'
          · exact List.mem_of_mem_drop hr
        have := rlen r this
        omega
      · exact fin _ _ (hrows ▸ Spoilt.row (k := kk) (k' := kk + dk) (r := rw_) (by omega) (by rw [hrows]; exact hrw')) ((b9.trans b10).then ((same_new hq4).trans (same_new hq5))) (f10.same ((same_new hq4).trans (same_new hq5)))
    rw [decide_eq_false (p := V.int (cs : Nat) = V.int 4) (fun e => h4 (by have := V.int.inj e; omega))]
    refine iteF ⟨_, rfl, rfl, _, rfl, ?_⟩
    by_cases h5 : cs = 5
    · rw [decide_eq_true (p := V.int (cs : Nat) = V.int 5) (by rw [h5]; rfl)]
      refine iteT ⟨by show 7 ≤ sizeLine; decide, fun q1 hq1 => ?_⟩
      have hp1 : p ≠ q1 := f6.ne hq1
      refine ⟨_, rfl, _, rfl, p, q1, moreL.map V.str, rfl, f6.put hp1, hp1, SqL.of upd_same, by decide +kernel, by decide +kernel, fun i2 v2 H7 hv2 b7 f7 => ?_⟩
      obtain ⟨mo, hmo, rfl⟩ := get_str hv2
      have hmo' := List.mem_of_getElem? hmo
      have mol := word_len mo (List.mem_append_left _ hmo')
      have r7 := b7 _ _ hpR.symm (same_new hq1 _ _ r6)
      refine ⟨⟨_, rfl⟩, _, rfl, _, rfl, by show 1 ≤ sizeLine; decide, fun q2 hq2 => ?_⟩
      have hp2 : p ≠ q2 := f7.ne hq2
      have f8 := f7.put (o := .lst [.str mo]) hp2
      refine ⟨_, rfl, by show 3 ≤ sizeLine; decide, fun q3 hq3 => ?_⟩
      have hp3 : p ≠ q3 := f8.ne hq3
      refine ⟨p, q3, [.int 1, .int 1, .int 8], rfl, f8.put hp3, hp3, SqL.of upd_same, by decide, by decide, fun i3 v3 H9 hv3 b9 f9 => ?_⟩
      obtain ⟨n, hn8, rfl⟩ : ∃ n : Nat, n ≤ 8 ∧ v3 = V.int (n : Int) := by
        match i3, hv3 with
        | 0, hv3 => exact ⟨1, by decide, (Option.some.inj hv3).symm⟩
        | 1, hv3 => exact ⟨1, by decide, (Option.some.inj hv3).symm⟩
        | 2, hv3 => exact ⟨8, by decide, (Option.some.inj hv3).symm⟩
        | _ + 3, hv3 => cases hv3
      have s78 : Same H7 (upd (upd H7 q2 (.lst [.str mo])) q3 (.lst [.int 1, .int 1, .int 8])) := (same_new hq2).trans (same_new hq3)
      have r9 := b9 _ _ hpR.symm (s78 _ _ r7)
      have e9 := b9 _ _ hp2.symm (same_new (o := .lst [.int 1, .int 1, .int 8]) hq3 _ _ (upd_same (H := H7) (a := q2) (o := .lst [.str mo])))
      refine ⟨q2, _, _, rfl, rfl, e9, by omega, by omega, by rw [List.length_singleton, sizeLine_eq, Int.toNat_natCast]; omega, fun q4 hq4 => ?_⟩
      have er : (List.replicate ((n : Int)).toNat [V.str mo]).flatten = (List.replicate n mo).map V.str := by
        rw [Int.toNat_natCast, List.map_replicate, rep_flat]
      rw [er]
      refine ⟨R, q4, _, _, rfl, rfl, same_new hq4 _ _ r9, upd_same, by rw [List.length_map, List.length_map, List.length_replicate, sizeLine_eq]; omega, fun q5 hq5 => ?_⟩
      refine ⟨_, q5, rows ++ List.replicate n mo, rfl, rfl, .inl (SqL.of (by rw [upd_same, List.map_append])), jsize (fun r hr => ?_) (by rw [List.length_append, List.length_replicate]; omega), ?_⟩
      · rcases List.mem_append.mp hr with hr | hr
        · have := rlen r hr
          omega
        · rw [(List.mem_replicate.mp hr).2]
          omega
      · exact fin _ _ (hrows ▸ Spoilt.more (m := mo) (n := n) hmo' hn8) (((((Same.but (same_new hq1)).trans b7).then s78).trans b9).then ((same_new hq4).trans (same_new hq5))) (f9.same ((same_new hq4).trans (same_new hq5)))
    rw [decide_eq_false (p := V.int (cs : Nat) = V.int 5) (fun e => h5 (by have := V.int.inj e; omega))]
    refine iteF ?_
    have hget : rows[kk]? = some rows[kk] := List.getElem?_eq_getElem hkk
    have hrm : rows[kk] ∈ rows := List.getElem_mem hkk
    generalize rows[kk] = r at hget hrm
    have rl := rlen r hrm
    have hgetV : (rows.map V.str)[kk]? = some (V.str r) := by rw [List.getElem?_map, hget]; rfl
    have wsum := split_mu w1 (z := r) tl_sp kS
    rw [len_mu] at wsum
    have w32 : w1 32 = 1 := rfl
    rw [w32, Nat.mul_one] at wsum
    have some2 : 1 ≤ (Txt.split r sSp).length := by
      rw [split_many tl_sp kS]
      omega
    have wlen : ∀ x ∈ Txt.split r sSp, x.length ≤ 100000 := fun x hx => Nat.le_trans (part_len hx) rl
    generalize hws : Txt.split r sSp = ws at wsum some2 wlen
    refine ⟨_, rfl, _, rfl, R, _, (kk : Int), .str r, rfl, rfl, SqL.of r6, at_of rfl hgetV, ⟨_, rfl⟩, r, sSp, rfl, rfl, (by decide +kernel), by rw [sizeLine_eq]; omega, fun W hW => ?_⟩
    rw [hws]
    have hpW : p ≠ W := f6.ne hW
    have hRW : R ≠ W := ne_of_none r6 hW
    have w7 : (upd H6 W (.lst (ws.map V.str))) W = some (.lst (ws.map V.str)) := upd_same
    refine ⟨_, rfl, _, rfl, W, _, rfl, .inl (SqL.of w7), p, _, rfl, f6.put hpW, by rw [List.length_map]; omega, by rw [List.length_map]; omega, fun j H8 hj b8 f8 => ?_⟩
    rw [List.length_map] at hj
    have w8 := b8 _ _ hpW.symm w7
    have r8 := b8 _ _ hpR.symm (same_new hW _ _ r6)
    refine ⟨by show 14 ≤ sizeLine; decide, fun O hO => ?_⟩
    have hpO : p ≠ O := f8.ne hO
    have sO : Same H8 (upd H8 O (.lst (oddL.map V.str))) := same_new hO
    have eO : (upd H8 O (.lst (oddL.map V.str))) O = some (.lst (oddL.map V.str)) := upd_same
    have f9 : FeedAt (upd H8 O (.lst (oddL.map V.str))) p := f8.put hpO
    refine ⟨_, rfl, _, rfl, _, rfl, W, O, _, oddL.map V.str, rfl, rfl, sO _ _ w8, eO, by rw [List.length_map, List.length_map, sizeLine_eq]; show _ + 14 ≤ _; omega, fun q hq => ?_⟩
    have hpq : p ≠ q := f9.ne hq
    refine ⟨p, q, _, rfl, f9.put hpq, hpq, SqL.of upd_same, by rw [List.length_append, List.length_map]; omega, by rw [List.length_append, List.length_map, List.length_map]; show _ + 14 ≤ _; omega, fun i2 v2 H10 hv2 b10 f10 => ?_⟩
    rw [← List.map_append] at hv2
    obtain ⟨wd, hwd, rfl⟩ := get_str hv2
    have hwd' : wd ∈ ws ∨ wd ∈ oddL := List.mem_append.mp (List.mem_of_getElem? hwd)
    have wdl : wd.length ≤ 100000 := by
      rcases hwd' with h | h
      · exact wlen wd h
      · have := word_len wd (List.mem_append_right _ h)
        omega
    have w10 := b10 _ _ hpW.symm (same_new hq _ _ (sO _ _ w8))
    have r10 := b10 _ _ hpR.symm (same_new hq _ _ (sO _ _ r8))
    have bW : But p H6 H10 := ((((Same.but (same_new hW)).trans b8).then sO).then (same_new hq)).trans b10
    refine ⟨_, rfl, _, rfl, W, _, (j : Int), j, rfl, rfl, w10, ixN_at (by rw [List.length_map]; exact hj), ?_⟩
    have eset : (ws.map V.str).set j (V.str wd) = (ws.set j wd).map V.str := List.map_set.symm
    rw [eset]
    have f11 := f10.put (o := .lst ((ws.set j wd).map V.str)) hpW
    have b11 : But p H6 (upd H10 W (.lst ((ws.set j wd).map V.str))) := But.new bW hW
    have r11 : (upd H10 W (.lst ((ws.set j wd).map V.str))) R = some (.lst (rows.map V.str)) := by
      rw [upd_ne hRW]
      exact r10
    have w11 : (upd H10 W (.lst ((ws.set j wd).map V.str))) W = some (.lst ((ws.set j wd).map V.str)) := upd_same
    generalize upd H10 W (.lst ((ws.set j wd).map V.str)) = H11 at f11 b11 r11 w11
    have msum := mus_set w1 wd (List.getElem?_eq_getElem hj)
    rw [len_mu, len_mu] at msum
    have ml := mus_len (ws.set j wd)
    have sl : (ws.set j wd).length = ws.length := List.length_set
    have rowl : (Txt.join sSp (ws.set j wd)).length ≤ 200040 := by
      have hne : ws.set j wd ≠ [] := fun e => by
        rw [e] at sl
        simp at sl
        omega
      have := join_mu w1 tl_sp hne
      rw [len_mu, w32, Nat.mul_one, sl] at this
      omega
    refine ⟨⟨_, rfl⟩, _, rfl, _, rfl, _, rfl, R, _, rfl, SqL.of r11, fun q1 hq1 => ?_⟩
    rw [cut_to, ← List.map_take]
    refine ⟨⟨_, rfl⟩, _, rfl, _, W, ws.set j wd, rfl, rfl, .inl (SqL.of (same_new hq1 _ _ w11)), ?_, by show 1 ≤ sizeLine; decide, fun q2 hq2 => ⟨q1, q2, _, _, rfl, rfl, same_new hq2 _ _ upd_same, upd_same, by rw [List.length_map, List.length_take, sizeLine_eq]; show _ + 1 ≤ _; omega, fun q3 hq3 => ?_⟩⟩
    · have e : (" " : Str).length = 1 := by decide +kernel
      rw [e, sl]
      omega
    have r13 := same_new (o := .lst ((rows.take kk).map V.str ++ [.str (Txt.join sSp (ws.set j wd))])) hq3 _ _ (same_new (o := .lst [.str (Txt.join sSp (ws.set j wd))]) hq2 _ _ (same_new (o := .lst ((rows.take kk).map V.str)) hq1 _ _ r11))
    refine ⟨_, rfl, _, rfl, _, _, rfl, rfl, _, rfl, R, _, rfl, SqL.of r13, fun q4 hq4 => ?_⟩
    have e2 : cutV (rows.map V.str) (some ((kk : Int) + 1)) none = (rows.drop (kk + 1)).map V.str := by
      rw [List.map_drop]
      exact cut_from (kk + 1)
    rw [e2]
    refine ⟨q3, q4, _, _, rfl, rfl, same_new hq4 _ _ upd_same, upd_same, by rw [List.length_append, List.length_map, List.length_map, List.length_take, List.length_drop, sizeLine_eq]; show _ + 1 + _ ≤ _; omega, fun q5 hq5 => ?_⟩
    refine ⟨_, q5, rows.take kk ++ ([Txt.join sSp (ws.set j wd)] ++ rows.drop (kk + 1)), rfl, rfl, .inl (SqL.of (by rw [upd_same, List.map_append, List.map_append, List.append_assoc]; rfl)), jsize (fun x hx => ?_) (by rw [List.length_append, List.length_append, List.length_take, List.length_drop]; show _ + (1 + _) ≤ _; omega), ?_⟩
    · rcases List.mem_append.mp hx with hx | hx
      · have := rlen x (List.mem_of_mem_take hx)
        omega
      rcases List.mem_append.mp hx with hx | hx
      · rw [List.mem_singleton.mp hx]
        exact rowl
      · have := rlen x (List.mem_of_mem_drop hx)
        omega
    · exact fin _ _ (hrows ▸ hws ▸ Spoilt.word (k := kk) (j := j) (r := r) (wd := wd) (by rw [hrows]; exact hget) (by rw [hws]; exact hj) (by rw [hws]; exact hwd')) (b11.then ((((same_new hq1).trans (same_new hq2)).trans (same_new hq3)).trans ((same_new hq4).trans (same_new hq5)))) (f11.same ((((same_new hq1).trans (same_new hq2)).trans (same_new hq3)).trans ((same_new hq4).trans (same_new hq5))))
end
end Vf

set_option maxRecDepth 100000
set_option maxHeartbeats 8000000
namespace Vf
open PySem PySem.Spec PyProof.Rows L2
/-- what repr tells of a value -/
inductive ReprIs (K : PySem.W.Frag) (H : Hp) : V → Str → Prop
  | non : ReprIs K H .non "None"
  | bl (b : Bool) : ReprIs K H (.bl b) (if b then "True" else "False")
  | int {i : Int} : i.natAbs.log2 < 1920 → ReprIs K H (.int i) (toString i)
  | str {x : Str} : (PySem.reprText x).length ≤ sizeLine → ReprIs K H (.str x) (PySem.reprText x)
  | dat {a : Addr} {d : PyData} : Dp K H (.ref a) d → d.showable = true → d.hasDict = false → d.depth ≤ 64 → d.shown.length ≤ sizeLine → ReprIs K H (.ref a) d.shown
  | dic {a : Addr} {kvs : List (Key × V)} {ds : List (PyData × PyData)} : H a = some (.dK kvs) → FlatD kvs ds → (PyData.dict ds).showable = true → (PyData.dict ds).depth ≤ 64 → (PyData.dict ds).shown.length ≤ sizeLine → ReprIs K H (.ref a) (PyData.dict ds).shown
theorem cr_reprA {X : Cx} (hgd : Calm X.A) {k : Nat} (hr : Room k X.A) : CallR X (.builtin "repr") (fun xs H Q => ∃ x z, xs = [x] ∧ ReprIs X.K H x z ∧ Q (.str z) H) := by
  intro pins s σ H vs us Q I r h
  obtain ⟨x, z, rfl, hx, q⟩ := h
  cases hx with
  | non =>
    obtain ⟨u, rfl, ru⟩ := vals1 r
    obtain rfl : u = Value.none := ru
    exact PySem.P.repr_of_none ⟨.str _, H, I.tok _, ⟨_, rfl⟩, q⟩
  | bl b =>
    obtain ⟨u, rfl, ru⟩ := vals1 r
    obtain rfl : u = Value.bool b := ru
    exact PySem.P.repr_of_bool ⟨.str _, H, I.tok _, ⟨_, rfl⟩, q⟩
  | int hz =>
    obtain ⟨u, rfl, t, rfl⟩ := vals1 r
    exact PySem.P.repr_of_int hz ⟨.str _, H, I.tok _, ⟨_, rfl⟩, q⟩
  | str hz =>
    obtain ⟨u, rfl, t, rfl⟩ := vals1 r
    exact PySem.P.repr_of_str ⟨.str _, H, I.tok _, ⟨_, rfl⟩, q⟩ hz
  | dat h1 h2 h3 h4 h5 => exact cr_repr hgd hr pins s σ H _ us Q I r ⟨_, _, rfl, h1, h2, h3, h4, h5, q⟩
  | dic h1 h2 h3 h4 h5 => exact cr_reprFlat hgd hr pins s σ H _ us Q I r ⟨_, _, _, rfl, h1, h2, h3, h4, h5, q⟩
def ValK (K : PySem.W.Frag) (H : Hp) (v : V) : Prop := (∃ z, v = .str z ∧ FitsK z) ∨ NoStr K H v
section
variable {X : Cx} {i : Nat} {nm : Str} {p1 p2 p3 p4 p5 p6 p7 p8 p9 p10 p11 : Pos}
/-- repr(_law_told(x)) != repr(_law_due(x)): never -/
theorem pt_same (hcm : Calm X.A) (hr : Room 7 X.A) (hrepr : X.mg "repr" = none) (g1 : Gl X "repr") (g2 : Gl X "_law_told") (g3 : Gl X "_law_due") (GT : OkF X.prog X.w X.K X.mg X.base CX0 "_law_told" p_law_told 7 (sp_law_told X.K)) (GD : OkF X.prog X.w X.K X.mg X.base CX0 "_law_due" p_law_due 3 (sp_law_due X.K))
    (hN : X.N[i]? = some nm) (hv : Vis X.env.scope nm) (hd : (nm == ("__debug__" : Str)) = false) (hcd : (nm == ("__classdict__" : Str)) = false)
    (st : ∀ (p : Pos) , starEach [.Name nm p] X.env = (false, eval (.Name nm p) X.env) :: starEach [] X.env)
    (st1 : starEach [.Call (.Name "_law_told" p2) [.Name nm p3] [] p4] X.env = (false, eval (.Call (.Name "_law_told" p2) [.Name nm p3] [] p4) X.env) :: starEach [] X.env)
    (st2 : starEach [.Call (.Name "_law_due" p7) [.Name nm p8] [] p9] X.env = (false, eval (.Call (.Name "_law_due" p7) [.Name nm p8] [] p9) X.env) :: starEach [] X.env) :
    PT X (.Compare (.Call (.Name "repr" p1) [.Call (.Name "_law_told" p2) [.Name nm p3] [] p4] [] p5) [.NotEq] [.Call (.Name "repr" p6) [.Call (.Name "_law_due" p7) [.Name nm p8] [] p9] [] p10] p11)
      (fun σ H Q => ∃ v, σ[i]? = some (some v) ∧ ValK X.K H v ∧ ∀ H', Same H H' → Q false H') := by
  refine ⟨fun pins s σ H Q I ⟨v, hz, fit, q⟩ => ?_⟩
  refine (pt_cmpR op_ne (pe_callB (cr_reprX hcm hr) g1 hrepr boot_repr (pa_cons (pe_fn GT hr g2 pass0 (pa_cons (pe_var (i := i) hN hv hd hcd) pa_nil (st _)) (by decide) (st _)) pa_nil st1) (he := st1)) (pe_callB (cr_reprX hcm hr) g1 hrepr boot_repr (pa_cons (pe_fn GD (hr.mono (by decide)) g3 pass0 (pa_cons (pe_var (i := i) hN hv hd hcd) pa_nil (st _)) (by decide) (st _)) pa_nil st2) (he := st2)) (nomark _)).run pins s σ H Q I ?_
  rcases fit with ⟨z, rfl, fit⟩ | ns
  case inr =>
    refine ⟨_, hz, _, rfl, .inr ⟨ns, fun H1 s1 => .inl ⟨0, rfl, by decide, _, hz, _, rfl, .inr ⟨ns.same s1, fun H2 s2 => .inl ⟨0, rfl, by decide, rfl, _, rfl, ?_⟩⟩⟩⟩⟩
    rw [decide_eq_true (rfl : V.str (toString (0 : Int)) = V.str (toString (0 : Int)))]
    exact q _ (s1.trans s2)
  have few := fit.few
  refine ⟨_, hz, _, rfl, .inl ⟨z, rfl, fit.x, fun j hj H1 s1 => .inl ⟨_, rfl, log_row (by have := due_row hj; omega), _, hz, _, rfl, .inl ⟨z, rfl, fit.d, fun j' hj' H2 s2 => .inl ⟨_, rfl, log_row (by have := due_row hj'; omega), rfl, _, rfl, ?_⟩, fun ns hns t H2 s2 hn => ?_⟩⟩,
    fun ns hns t H1 s1 hn => .inr ⟨t, nodesD ns, rfl, dp_nodes hn, (show_nodes (due_good hns)).1, (show_nodes (due_good hns)).2.1, (show_nodes (due_good hns)).2.2.1, (show_nodes (due_good hns)).2.2.2, _, hz, _, rfl, .inl ⟨z, rfl, fit.d, fun j' hj' H2 s2 => ?_,
      fun ns' hns' t' H2 s2 hn' => .inr ⟨t', nodesD ns', rfl, dp_nodes hn', (show_nodes (due_good hns')).1, (show_nodes (due_good hns')).2.1, (show_nodes (due_good hns')).2.2.1, (show_nodes (due_good hns')).2.2.2, rfl, _, rfl, ?_⟩⟩⟩⟩⟩
  · obtain rfl : j = j' := Sum.inl.inj (hj.symm.trans hj')
    rw [decide_eq_true (rfl : V.str (toString ((j : Nat) : Int)) = V.str (toString ((j : Nat) : Int)))]
    exact q _ (s1.trans s2)
  · cases hj.symm.trans hns
  · cases hns.symm.trans hj'
  · obtain rfl : ns = ns' := Sum.inr.inj (hns.symm.trans hns')
    rw [decide_eq_true (rfl : V.str (nodesD ns).shown = V.str (nodesD ns).shown)]
    exact q _ (s1.trans s2)
end
end Vf

set_option maxRecDepth 100000
set_option maxHeartbeats 8000000
namespace Vf
open PySem PySem.Spec PyProof.Rows L2
theorem SqL.same {K : PySem.W.Frag} {H H' : Hp} {a : Addr} {xs : List V} (h : SqL K H a xs) (s : Same H H') : SqL K H' a xs := by
  rcases h with (h | ⟨o, h⟩) | h
  · exact .inl (.inl (s _ _ h))
  · exact .inl (.inr ⟨o, s _ _ h⟩)
  · exact .inr h
def deepD : Nat → PyData
  | 0 => .list []
  | n + 1 => .list [deepD n]
theorem deep_sh : shD (deepD 45) = true := by decide +kernel
theorem deep_show : (deepD 45).showable = true ∧ (deepD 45).hasDict = false ∧ (deepD 45).depth ≤ 64 ∧ (deepD 45).shown.length ≤ sizeLine := by
  obtain ⟨h1, h2, _⟩ := sh_show _ deep_sh
  exact ⟨h1, h2, by decide +kernel, shown_fits deep_sh (by decide +kernel)⟩
/-- what is needed of a value that is judged -/
structure Val1 (K : PySem.W.Frag) (H : Hp) (v : V) : Prop where
  sh : ∃ z, ∀ H', Same H H' → ReprIs K H' v z
  ok : ValK K H v
theorem ValK.same {K : PySem.W.Frag} {H H' : Hp} {v : V} (h : ValK K H v) (s : Same H H') : ValK K H' v := h.imp id fun n => n.same s
theorem Val1.same {K : PySem.W.Frag} {H H' : Hp} {v : V} (h : Val1 K H v) (s : Same H H') : Val1 K H' v := ⟨let ⟨z, k⟩ := h.sh; ⟨z, fun H2 s2 => k H2 (s.trans s2)⟩, h.ok.same s⟩
theorem val_str {K : PySem.W.Frag} {H : Hp} {z : Str} (h : (PySem.reprText z).length ≤ sizeLine) (f : FitsK z) : Val1 K H (.str z) := ⟨⟨_, fun _ _ => .str h⟩, .inl ⟨z, rfl, f⟩⟩
theorem val_int {K : PySem.W.Frag} {H : Hp} {i : Int} (h : i.natAbs.log2 < 1920) : Val1 K H (.int i) := ⟨⟨_, fun _ _ => .int h⟩, .inr ⟨_, .base (.int _), kit_ty (by decide +kernel)⟩⟩
theorem val_dat {K : PySem.W.Frag} {H : Hp} {a : Addr} {d : PyData} (hd : ∀ H', Same H H' → Dp K H' (.ref a) d) (h : d.showable = true ∧ d.hasDict = false ∧ d.depth ≤ 64 ∧ d.shown.length ≤ sizeLine) (n : NoStr K H (.ref a)) : Val1 K H (.ref a) :=
  ⟨⟨_, fun H' s => .dat (hd H' s) h.1 h.2.1 h.2.2.1 h.2.2.2⟩, .inr n⟩
theorem sh_ok {d : PyData} (h : shD d = true) (hd : d.depth ≤ 64) (hw : d.weight ≤ 1000000) : d.showable = true ∧ d.hasDict = false ∧ d.depth ≤ 64 ∧ d.shown.length ≤ sizeLine := by
  obtain ⟨h1, h2, _⟩ := sh_show _ h
  exact ⟨h1, h2, hd, shown_fits h hw⟩
def sRx : Str := "read x"
theorem no_lst {K : PySem.W.Frag} {H : Hp} {a : Addr} {xs : List V} (h : H a = some (.lst xs)) : NoStr K H (.ref a) := ⟨_, .base (.lst h), kit_ty (by decide +kernel)⟩
theorem no_tup {K : PySem.W.Frag} {H : Hp} {a : Addr} {xs : List V} (h : H a = some (.tup xs)) : NoStr K H (.ref a) := ⟨_, .base (.tup h), kit_ty (by decide +kernel)⟩
theorem no_dK {K : PySem.W.Frag} {H : Hp} {a : Addr} {kvs : List (Key × V)} (h : H a = some (.dK kvs)) : NoStr K H (.ref a) := ⟨_, .base (.dK h), kit_ty (by decide +kernel)⟩
def fitsB (z : Str) : Bool := (TL.tl z).all (fun c => decide (c < 1114112)) && decide (z.length ≤ 100000) && decide ((Txt.split z sNl).length ≤ 60) && (Txt.split z sNl).all fun r => decide ((Txt.split r sSp).length ≤ 4000)
theorem fits_by {z : Str} (h : fitsB z = true) : FitsK z := by
  unfold fitsB at h
  simp only [Bool.and_eq_true, List.all_eq_true, decide_eq_true_eq] at h
  obtain ⟨⟨⟨h1, h2⟩, h3⟩, h4⟩ := h
  exact ⟨h1, h2, h3, h4⟩
section
variable {P : Program} {w : World} {K : PySem.W.Frag} {mg : Str → Option Value} {base : Heap}
def sp_law (K : PySem.W.Frag) : Sp := fun vs H Q _ => ∃ (a : Addr) (ns : List Int), vs = [.ref a] ∧ SqL K H a (ns.map V.int) ∧ ns.length ≤ 63 ∧ ∀ H', Q (.bl true) H'
set_option maxHeartbeats 0 in
theorem ok_law {f : Addr} {fd : FuncData} (F : Fun K "law" "law" s_law f fd) (T0 : Txt0 K mg) (T : TxtL mg) (hmin : mg "min" = none) (hrepr : mg "repr" = none)
    (GF : OkF P w K mg base CX0 "_law_feed" p_law_feed 1 (sp_law_feed K)) (GNm : OkF P w K mg base CX0 "_law_names" p_law_names 3 sp_law_names) (GNd : OkF P w K mg base CX0 "_law_nodes" p_law_nodes 3 (sp_law_nodes K))
    (GX : OkF P w K mg base CX0 "_law_text" p_law_text 1 sp_law_text) (GS : OkF P w K mg base CX0 "_law_spoilt" p_law_spoilt 3 sp_law_spoilt)
    (GT : OkF P w K mg base CX0 "_law_told" p_law_told 7 (sp_law_told K)) (GD : OkF P w K mg base CX0 "_law_due" p_law_due 3 (sp_law_due K)) : FnG P w K mg base CX0 8 f fd p_law (sp_law K) := by
  refine Fun.okG F sc_law (fun vs H Q E h => ?_) (fun cdv A outer s H vs Q E hcm hr h => ?_)
  · obtain ⟨a, ns, rfl, _⟩ := h
    rfl
  · obtain ⟨a, ns, rfl, hS, hn63, k⟩ := h
    have hr3 : Room 3 _ := hr.mono (by decide)
    have hr1 : Room 1 _ := hr.mono (by decide)
    refine ⟨_, pss_cons (ps_set (i := 1) sc_law.nd rfl (Or.inl rfl) (pe_lst pa_nil))
      (pss_cons (ps_for PassesOwn.never rfl (pi_range1 (by rfl) T0.range (pa_cons pe_int pa_nil)) (pg_name (i := 2) sc_law.nd rfl (Or.inl rfl))
        (pss_one (ps_set (i := 1) sc_law.nd rfl (Or.inl rfl) (pe_lst (pa_cons (pv 1) pa_nil)))))
      (pss_cons (ps_for PassesOwn.never rfl (pi_tup (pe_tup (pa_cons pe_non (pa_cons pe_int (pa_cons pe_bl (pa_cons (pe_lst pa_nil) (pa_cons pe_dnewK (pa_cons (pe_tup pa_nil) (pa_cons (pe_lst (pa_cons pe_str pa_nil)) (pa_cons (pv 1) (pa_cons (pe_tup (pa_cons pe_str pa_nil))
            (pa_cons pe_str (pa_cons pe_str (pa_cons pe_str (pa_cons pe_int (pa_cons (pe_disp (pps_cons pe_str pe_int pps_nil) (by rfl) (by rfl) (fun z => by cases z) (by decide)) pa_nil)))))))))))))))) (pg_name (i := 3) sc_law.nd rfl (Or.inl rfl))
        (pss_cons (ps_set (i := 4) sc_law.nd rfl (Or.inl rfl) (pe_callB (cr_reprA hcm hr) (by rfl) hrepr boot_repr (pa_cons (pv 3) pa_nil)))
        (pss_one (ps_if (PW.pt (pw_or (pt_same (i := 3) hcm hr hrepr rfl rfl rfl GT GD rfl (Or.inl rfl) (by decide +kernel) (by decide +kernel) (fun _ => rfl) rfl rfl)
            (pw_or1 (pt_cmpR op_ne (pe_callB (cr_reprA hcm hr) (by rfl) hrepr boot_repr (pa_cons (pv 3) pa_nil)) (pv 4) (nomark _))))) (pss_one ps_never) pss_nil))))
      (pss_cons (ps_for PassesOwn.never rfl (pi_range1 (by rfl) T0.range (pa_cons (pe_callB (call_max2 rfl) (by rfl) T.max (by decide +kernel) (pa_cons pe_int (pa_cons (pe_callB (call_min2 rfl) (by rfl) hmin (by decide +kernel) (pa_cons pe_int (pa_cons (pe_callB call_len_seq (by rfl) T0.len PySem.boot_len (pa_cons (pv 0) pa_nil)) pa_nil))) pa_nil))) pa_nil)) (pg_name (i := 5) sc_law.nd rfl (Or.inl rfl))
        (pss_cons (ps_set (i := 6) sc_law.nd rfl (Or.inl rfl) (pe_fn GF hr1 rfl pass0 (pa_cons (pv 0) (pa_cons (pv 5) pa_nil))))
        (pss_one (ps_for PassesOwn.never rfl (pi_range1 (by rfl) T0.range (pa_cons pe_int pa_nil)) (pg_name (i := 2) sc_law.nd rfl (Or.inl rfl))
          (pss_cons (ps_set (i := 7) sc_law.nd rfl (Or.inl rfl) (pe_fn GX hr1 rfl pass0 (pa_cons (pe_fn GNd hr3 rfl pass0 (pa_cons (pv 6) (pa_cons (pe_fn GNm hr3 rfl pass0 (pa_cons (pv 6) pa_nil)) (pa_cons pe_int pa_nil)))) pa_nil)))
          (pss_one (ps_for PassesOwn.never rfl (pi_range1 (by rfl) T0.range (pa_cons pe_int pa_nil)) (pg_name (i := 8) sc_law.nd rfl (Or.inl rfl))
            (pss_cons (ps_if (pt_same (i := 7) hcm hr hrepr rfl rfl rfl GT GD rfl (Or.inl rfl) (by decide +kernel) (by decide +kernel) (fun _ => rfl) rfl rfl) (pss_one ps_never) pss_nil)
            (pss_one (ps_set (i := 7) sc_law.nd rfl (Or.inl rfl) (pe_fn GS hr3 rfl pass0 (pa_cons (pv 6) (pa_cons (pv 7) pa_nil)))))))))))))
      (pss_one (ps_ret pe_bl))))), ?_⟩
    refine ⟨Nat.zero_le _, fun p0 h0 => ?_⟩
    have s0 := same_new (o := .lst []) h0
    have e0 : (upd H p0 (.lst [])) p0 = some (.lst []) := upd_same
    refine ⟨45, rfl, by omega, by omega, ?_⟩
    refine for_it (walk_range (lo := 0) (n := 45)) (fun i σ H' => ∃ (p : Addr) (xs : List V) (v2 : Option V), σ = [some (.ref a), some (.ref p), v2, none, none, none, none, none, none] ∧ Same H H' ∧ H' p = some (.lst xs) ∧ ∀ H2, Same H' H2 → Dp K H2 (.ref p) (deepD i))
      ⟨p0, [], none, rfl, s0, e0, fun H2 s2 => .lst (SqL.of (s2 _ _ e0)) .nil⟩ (fun _ _ _ _ _ => trivial) ?_ ?_
    · rintro i x σ H3 H2 hi ⟨p, xs, v2, rfl, s2, e2, d2⟩ ⟨rfl, rfl⟩
      refine ⟨_, rfl, by show 1 ≤ sizeLine; decide, fun q hq => ?_⟩
      have sq := same_new (o := .lst [.ref p]) hq
      have eq : (upd H2 q (.lst [.ref p])) q = some (.lst [.ref p]) := upd_same
      exact ⟨q, _, _, rfl, s2.trans sq, eq, fun H3 s3 => .lst (SqL.of (s3 _ _ eq)) (.cons (d2 H3 (sq.trans s3)) .nil)⟩
    rintro σ H2 ⟨p, xs, v2, rfl, s2, e2, d2⟩
    -- the values
    refine ⟨Nat.zero_le _, fun a1 h1 => ?_⟩
    have t1 := same_new (o := .lst []) h1
    have v1 : (upd H2 a1 (.lst [])) a1 = some (.lst []) := upd_same
    generalize upd H2 a1 (.lst []) = G1 at t1 v1 ⊢
    refine fun a2 h2 => ?_
    have t2 := same_new (o := .dK []) h2
    have w2 : (upd G1 a2 (.dK [])) a2 = some (.dK []) := upd_same
    generalize upd G1 a2 (.dK []) = G2 at t2 w2 ⊢
    refine ⟨Nat.zero_le _, fun a3 h3 => ?_⟩
    have t3 := same_new (o := .tup []) h3
    have v3 : (upd G2 a3 (.tup [])) a3 = some (.tup []) := upd_same
    generalize upd G2 a3 (.tup []) = G3 at t3 v3 ⊢
    refine ⟨by show 1 ≤ sizeLine; decide, fun a4 h4 => ?_⟩
    have t4 : Same G3 (upd G3 a4 (.lst [.str "read x"])) := same_new h4
    have v4 : (upd G3 a4 (.lst [.str "read x"])) a4 = some (.lst [.str sRx]) := upd_same
    generalize upd G3 a4 (.lst [.str "read x"]) = G4 at t4 v4 ⊢
    refine ⟨_, rfl, by show 1 ≤ sizeLine; decide, fun a5 h5 => ?_⟩
    have t5 : Same G4 (upd G4 a5 (.tup [.str "read x"])) := same_new h5
    have v5 : (upd G4 a5 (.tup [.str "read x"])) a5 = some (.tup [.str sRx]) := upd_same
    generalize upd G4 a5 (.tup [.str "read x"]) = G5 at t5 v5 ⊢
    refine fun a6 h6 => ⟨upd_same, [(.inr sRx, .int 1)], rfl, by decide, by show 14 ≤ sizeLine; decide, fun t ht => ?_⟩
    have t6 : Same G5 (upd (upd G5 a6 (.dK [])) a6 (.dK (mergeK [] [(.inr sRx, .int 1)]))) := fun b o e => by
      rw [upd_ne (ne_of_none e h6), upd_ne (ne_of_none e h6)]
      exact e
    have v6 : (upd (upd G5 a6 (.dK [])) a6 (.dK (mergeK [] [(.inr sRx, .int 1)]))) a6 = some (.dK [(.inr sRx, .int 1)]) := upd_same
    generalize upd (upd G5 a6 (.dK [])) a6 (.dK (mergeK [] [(.inr sRx, .int 1)])) = G6 at t6 v6 ht ⊢
    have t7 := same_new (o := .tup [.non, .int 0, .bl true, .ref a1, .ref a2, .ref a3, .ref a4, .ref p, .ref a5, .str "", .str "\n", .str " ", .int 7, .ref a6]) ht
    have v7 : (upd G6 t (.tup [.non, .int 0, .bl true, .ref a1, .ref a2, .ref a3, .ref a4, .ref p, .ref a5, .str "", .str "\n", .str " ", .int 7, .ref a6])) t = some (.tup [.non, .int 0, .bl true, .ref a1, .ref a2, .ref a3, .ref a4, .ref p, .ref a5, .str "", .str "\n", .str " ", .int 7, .ref a6]) := upd_same
    generalize upd G6 t (.tup [.non, .int 0, .bl true, .ref a1, .ref a2, .ref a3, .ref a4, .ref p, .ref a5, .str "", .str "\n", .str " ", .int 7, .ref a6]) = G7 at t7 v7 ⊢
    have s27 : Same H2 G7 := (((t1.trans t2).trans (t3.trans t4)).trans (t5.trans t6)).trans t7
    have vals : ∀ v ∈ ([.non, .int 0, .bl true, .ref a1, .ref a2, .ref a3, .ref a4, .ref p, .ref a5, .str "", .str "\n", .str " ", .int 7, .ref a6] : List V), Val1 K G7 v := by
      intro v hv
      rcases List.mem_cons.mp hv with rfl | hv
      · exact ⟨⟨_, fun _ _ => .non⟩, .inr ⟨_, .base .non, kit_ty (by decide +kernel)⟩⟩
      rcases List.mem_cons.mp hv with rfl | hv
      · exact val_int (by decide)
      rcases List.mem_cons.mp hv with rfl | hv
      · exact ⟨⟨_, fun _ _ => .bl true⟩, .inr ⟨_, .base (.bl true), kit_ty (by decide +kernel)⟩⟩
      rcases List.mem_cons.mp hv with rfl | hv
      · have e := t7 _ _ (t6 _ _ (t5 _ _ (t4 _ _ (t3 _ _ (t2 _ _ v1)))))
        exact val_dat (d := .list []) (fun H' s => .lst (SqL.of (s _ _ e)) .nil) (sh_ok (by decide +kernel) (by decide +kernel) (by decide +kernel)) (no_lst e)
      rcases List.mem_cons.mp hv with rfl | hv
      · have e := t7 _ _ (t6 _ _ (t5 _ _ (t4 _ _ (t3 _ _ w2))))
        exact ⟨⟨_, fun H' s => .dic (ds := []) (s _ _ e) .nil (by decide +kernel) (by decide +kernel) (by decide +kernel)⟩, .inr (no_dK e)⟩
      rcases List.mem_cons.mp hv with rfl | hv
      · have e := t7 _ _ (t6 _ _ (t5 _ _ (t4 _ _ v3)))
        exact val_dat (d := .tuple []) (fun H' s => .tup (SqT.of (s _ _ e)) .nil) (sh_ok (by decide +kernel) (by decide +kernel) (by decide +kernel)) (no_tup e)
      rcases List.mem_cons.mp hv with rfl | hv
      · have e := t7 _ _ (t6 _ _ (t5 _ _ v4))
        exact val_dat (d := .list [.str sRx]) (fun H' s => .lst (SqL.of (s _ _ e)) (.cons (.str _) .nil)) (sh_ok (by decide +kernel) (by decide +kernel) (by decide +kernel)) (no_lst e)
      rcases List.mem_cons.mp hv with rfl | hv
      · exact val_dat (fun H' s => d2 H' (s27.trans s)) deep_show (no_lst (s27 _ _ e2))
      rcases List.mem_cons.mp hv with rfl | hv
      · have e := t7 _ _ (t6 _ _ v5)
        exact val_dat (d := .tuple [.str sRx]) (fun H' s => .tup (SqT.of (s _ _ e)) (.cons (.str _) .nil)) (sh_ok (by decide +kernel) (by decide +kernel) (by decide +kernel)) (no_tup e)
      rcases List.mem_cons.mp hv with rfl | hv
      · exact val_str (by decide +kernel) (fits_by (by decide +kernel))
      rcases List.mem_cons.mp hv with rfl | hv
      · exact val_str (by decide +kernel) (fits_by (by decide +kernel))
      rcases List.mem_cons.mp hv with rfl | hv
      · exact val_str (by decide +kernel) (fits_by (by decide +kernel))
      rcases List.mem_cons.mp hv with rfl | hv
      · exact val_int (by decide)
      · rw [List.mem_singleton.mp hv]
        have e := t7 _ _ v6
        exact ⟨⟨_, fun H' s => .dic (ds := [(.str sRx, .int 1)]) (s _ _ e) (.cons rfl .nil) (by decide +kernel) (by decide +kernel) (by decide +kernel)⟩, .inr (no_dK e)⟩
    refine ⟨t, rfl, ⟨_, SqT.of v7⟩, for_it (walk_tup (K := K) (a := t) (xs := [.non, .int 0, .bl true, .ref a1, .ref a2, .ref a3, .ref a4, .ref p, .ref a5, .str "", .str "\n", .str " ", .int 7, .ref a6])) (fun i σ H' => ∃ v3 v4, σ = [some (.ref a), some (.ref p), v2, v3, v4, none, none, none, none] ∧ Same G7 H')
      ⟨none, none, rfl, Same.refl _⟩ (fun i σ H' _ ⟨_, _, _, s⟩ => SqT.of (s _ _ v7)) ?_ ?_⟩
    · rintro i x σ H4 H3 hi ⟨v3, v4, rfl, s3⟩ ⟨rfl, hx⟩
      have vx := (vals x (List.mem_of_getElem? hx)).same s3
      obtain ⟨z, hz⟩ := vx.sh
      refine ⟨_, rfl, x, z, rfl, hz _ (Same.refl _), _, rfl, vx.ok, fun H5 s5 => iteF ⟨_, rfl, x, z, rfl, hz _ s5, _, rfl, rfl, _, rfl, ?_⟩⟩
      rw [decide_eq_true (rfl : V.str z = V.str z)]
      exact iteF ⟨_, _, rfl, s3.trans s5⟩
    rintro σ H3 ⟨v3, v4, rfl, s3⟩
    have s03 := (s2.trans s27).trans s3
    -- the drawn texts
    refine ⟨_, rfl, a, _, rfl, .inl (Vf.SqL.same hS s03), _, _, rfl, _, _, rfl, ?_⟩
    rw [List.length_map]
    obtain ⟨M, hM, hM5⟩ : ∃ M : Nat, (if (if ((ns.length : Nat) : Int) < 5 then ((ns.length : Nat) : Int) else 5) > 1 then (if ((ns.length : Nat) : Int) < 5 then ((ns.length : Nat) : Int) else 5) else 1) = (M : Int) ∧ M ≤ 5 := by
      by_cases h1 : ((ns.length : Nat) : Int) < 5
      · rw [if_pos h1]
        by_cases h2 : ((ns.length : Nat) : Int) > 1
        · rw [if_pos h2]
          exact ⟨ns.length, rfl, by omega⟩
        · rw [if_neg h2]
          exact ⟨1, rfl, by decide⟩
      · rw [if_neg h1]
        exact ⟨5, rfl, by decide⟩
    rw [hM]
    refine ⟨_, rfl, by omega, by omega, ?_⟩
    rw [Int.toNat_natCast]
    refine for_it (walk_range (lo := 0) (n := M)) (fun i σ H' => ∃ (v2 v5 v6 v7 v8 : Option V), σ = [some (.ref a), some (.ref p), v2, v3, v4, v5, v6, v7, v8] ∧ Same H H')
      ⟨_, _, _, _, _, rfl, s03⟩ (fun _ _ _ _ _ => trivial) ?_ ?_
    · rintro i x σ H5 H4 hi ⟨v2, v5, v6, v7, v8, rfl, s4⟩ ⟨rfl, rfl⟩
      refine ⟨_, rfl, _, rfl, a, ns, i, (by show [V.ref a, V.int (0 + (i : Int))] = _; rw [Int.zero_add]), Vf.SqL.same hS s4, by omega, fun pf Hf sf hp0 ff => ?_⟩
      refine ⟨5, rfl, by omega, by omega, ?_⟩
      refine for_it (walk_range (lo := 0) (n := 5)) (fun t σ H' => ∃ (v2 v7 v8 : Option V), σ = [some (.ref a), some (.ref p), v2, v3, v4, some (.int (0 + (i : Int))), some (.ref pf), v7, v8] ∧ But pf Hf H' ∧ FeedAt H' pf)
        ⟨_, _, _, rfl, But.refl _ _, ff⟩ (fun _ _ _ _ _ => trivial) ?_ ?_
      · rintro t x σ H7 H6 hti ⟨v2, v7, v8, rfl, b6, f6⟩ ⟨rfl, rfl⟩
        refine ⟨_, rfl, _, rfl, pf, rfl, f6, fun l nm H8 b8 f8 hl hpl hnl hne h8 hnames => ?_⟩
        refine ⟨pf, l, nm, 8, rfl, f8, hpl, SqL.of hnl, hne, h8, hnames, by decide, by decide, fun t7 nd H9 b9 f9 ht7 hnd g => ?_⟩
        refine ⟨t7, nd, rfl, hnd, g, fun H10 s10 => ?_⟩
        have b10 := ((b6.trans b8).trans b9).then s10
        have f10 := f9.same s10
        have x0 := text0 (rows_of false nd) g
        refine ⟨4, rfl, by omega, by omega, ?_⟩
        refine for_it (walk_range (lo := 0) (n := 4)) (fun m σ H' => ∃ (z : Str) (v8 : Option V), σ = [some (.ref a), some (.ref p), some (.int (0 + (t : Int))), v3, v4, some (.int (0 + (i : Int))), some (.ref pf), some (.str z), v8] ∧ But pf Hf H' ∧ FeedAt H' pf ∧ TextOk m z)
          ⟨_, _, rfl, b10, f10, x0⟩ (fun _ _ _ _ _ => trivial) ?_ ?_
        · rintro m x σ H12 H11 hm ⟨z, v8, rfl, b11, f11, x11⟩ ⟨rfl, rfl⟩
          refine ⟨.str z, rfl, .inl ⟨z, rfl, x11.fits (by omega)⟩, fun H13 s13 => iteF ?_⟩
          refine ⟨_, rfl, _, rfl, pf, m, z, rfl, f11.same s13, x11, by omega, fun z' H14 x14 b14 f14 => ?_⟩
          exact ⟨z', _, rfl, (b11.then s13).trans b14, f14, x14⟩
        · rintro σ H11 ⟨z, v8, rfl, b11, f11, _⟩
          exact ⟨_, _, _, rfl, b11, f11⟩
      · rintro σ H6 ⟨v2, v7, v8, rfl, b6, f6⟩
        exact ⟨_, _, _, _, _, rfl, s4.trans (b6.same sf hp0)⟩
    · rintro σ H4 ⟨v2, v5, v6, v7, v8, rfl, s4⟩
      exact k _
end
end Vf

set_option maxRecDepth 100000
set_option maxHeartbeats 8000000
namespace Vf
open PySem PySem.Spec PyProof.Rows L2 ClX NdefX
theorem exm_own {K : PySem.W.Frag} {S : Addr} (h1 : PySem.W.subIn K (.ref S) (.type "BaseException") = some true) (h2 : PySem.W.isClsIn K S = true) (h3 : PySem.W.typeIn K (.ref S) = some (.type "type")) (h4 : PySem.W.subIn K (.ref S) (.ref S) = some true) :
    PySem.W.exmOne K (.ref S) (.ref S) = some true := by
  have e1 : (PySem.W.subIn K (.ref S) (.type "BaseException") == some true) = true := by rw [h1] <;> rfl
  have e2 : ((PySem.W.clsIn K S).isSome && PySem.W.typeIn K (.ref S) == some (.type "type")) = true := by
    have h2' : (PySem.W.clsIn K S).isSome = true := h2
    rw [h2', h3] <;> rfl
  show (if (PySem.W.subIn K (.ref S) (.type "BaseException") == some true) = true then (if ((PySem.W.clsIn K S).isSome && PySem.W.typeIn K (.ref S) == some (.type "type")) = true then PySem.W.subIn K (.ref S) (.ref S) else none) else none) = some true
  rw [if_pos e1, if_pos e2]
  exact h4
theorem all_mk {l : PySem.W.OpenLaw} {w : World} {K : PySem.W.Frag} {h : Heap} {mg : Str → Option Value} {fa C pp aW : Addr} {mc : Value} {rest : List Value} (X : K.In h) (G : h.Ns mainGlobals mg) (hfa : mg "law" = some (.ref fa))
    {f1 f2 f3 f4 f5 f6 f7 f8 f9 f10 f11 f12 f13 f14 f15 f16 f17 f18 : Addr} {od1 an1 od2 an2 od3 an3 od4 an4 od5 an5 od6 an6 od7 an7 od8 an8 od9 an9 od10 an10 od11 an11 od12 an12 od13 an13 od14 an14 od15 an15 od16 an16 od17 an17 od18 an18 odW : Option Addr} {sl1 sl2 sl3 sl4 sl5 sl6 sl7 sl8 sl9 sl10 sl11 sl12 sl13 sl14 sl15 sl16 sl17 sl18 slW : Array (Option Value)} {oc1 kV1 dc1 pm1 cd1 ct1 oc2 kV2 dc2 pm2 cd2 ct2 oc3 kV3 dc3 pm3 cd3 ct3 oc4 kV4 dc4 pm4 cd4 ct4 oc5 kV5 dc5 pm5 cd5 ct5 oc6 kV6 dc6 pm6 cd6 ct6 oc7 kV7 dc7 pm7 cd7 ct7 oc8 kV8 dc8 pm8 cd8 ct8 oc9 kV9 dc9 pm9 cd9 ct9 oc10 kV10 dc10 pm10 cd10 ct10 oc11 kV11 dc11 pm11 cd11 ct11 oc12 kV12 dc12 pm12 cd12 ct12 oc13 kV13 dc13 pm13 cd13 ct13 oc14 kV14 dc14 pm14 cd14 ct14 oc15 kV15 dc15 pm15 cd15 ct15 oc16 kV16 dc16 pm16 cd16 ct16 oc17 kV17 dc17 pm17 cd17 ct17 oc18 kV18 dc18 pm18 cd18 ct18 : Value} {t1 t2 t3 t4 : Tok} {xA xE : Str} {itsW : Array Value} {nW : Nat}
    {CE fE c0 kE NE : Addr} {nmE qE flE : Str} {bsE bmE subE : List Value} {snE : List Str} {abE : Bool} {colE : Option Bool} {ddE odE cldE cddE : Option Addr} {m0 m1 m2 m3 m5 : Option Value} {ocE dcE pmE ctE clE cclE : Value} {slE cslE ccsE : Array (Option Value)} {vsE : Array Value} {tfE : Tok}
    (aC : PySem.W.nsIn K mainGlobals "Program" = some (some (.ref C)))
    (a1 : PySem.W.nsIn K mainGlobals "is_name" = some (some (.ref f1)))
    (l1 : K.lookup f1 = some ⟨oc1, od1, .func (PySem.W.fnOf "is_name" "is_name" (defArgs s_is_name) (defBody s_is_name) (defScope s_is_name) .none kV1 dc1 pm1 an1 cd1 ct1), sl1⟩) (c1 : PySem.W.codeIn K cd1 "is_name" = true) (k1 : PySem.W.keepIn K (.ref f1) = true)
    (a2 : PySem.W.nsIn K mainGlobals "_nodes_of" = some (some (.ref f2)))
    (l2 : K.lookup f2 = some ⟨oc2, od2, .func (PySem.W.fnOf "_nodes_of" "_nodes_of" (defArgs s_nodes_of) (defBody s_nodes_of) (defScope s_nodes_of) .none kV2 dc2 pm2 an2 cd2 ct2), sl2⟩) (c2 : PySem.W.codeIn K cd2 "_nodes_of" = true) (k2 : PySem.W.keepIn K (.ref f2) = true)
    (a3 : PySem.W.nsIn K mainGlobals "_node_of" = some (some (.ref f3)))
    (l3 : K.lookup f3 = some ⟨oc3, od3, .func (PySem.W.fnOf "_node_of" "_node_of" (defArgs s_node_of) (defBody s_node_of) (defScope s_node_of) .none kV3 dc3 pm3 an3 cd3 ct3), sl3⟩) (c3 : PySem.W.codeIn K cd3 "_node_of" = true) (k3 : PySem.W.keepIn K (.ref f3) = true)
    (a4 : PySem.W.nsIn K mainGlobals "_targets_of" = some (some (.ref f4)))
    (l4 : K.lookup f4 = some ⟨oc4, od4, .func (PySem.W.fnOf "_targets_of" "_targets_of" (defArgs s_targets_of) (defBody s_targets_of) (defScope s_targets_of) .none kV4 dc4 pm4 an4 cd4 ct4), sl4⟩) (c4 : PySem.W.codeIn K cd4 "_targets_of" = true) (k4 : PySem.W.keepIn K (.ref f4) = true)
    (a5 : PySem.W.nsIn K mainGlobals "_law_feed" = some (some (.ref f5)))
    (l5 : K.lookup f5 = some ⟨oc5, od5, .func (PySem.W.fnOf "_law_feed" "_law_feed" (defArgs s_law_feed) (defBody s_law_feed) (defScope s_law_feed) .none kV5 dc5 pm5 an5 cd5 ct5), sl5⟩) (c5 : PySem.W.codeIn K cd5 "_law_feed" = true) (k5 : PySem.W.keepIn K (.ref f5) = true)
    (a6 : PySem.W.nsIn K mainGlobals "_law_take" = some (some (.ref f6)))
    (l6 : K.lookup f6 = some ⟨oc6, od6, .func (PySem.W.fnOf "_law_take" "_law_take" (defArgs s_law_take) (defBody s_law_take) (defScope s_law_take) .none kV6 dc6 pm6 an6 cd6 ct6), sl6⟩) (c6 : PySem.W.codeIn K cd6 "_law_take" = true) (k6 : PySem.W.keepIn K (.ref f6) = true)
    (a7 : PySem.W.nsIn K mainGlobals "_law_pick" = some (some (.ref f7)))
    (l7 : K.lookup f7 = some ⟨oc7, od7, .func (PySem.W.fnOf "_law_pick" "_law_pick" (defArgs s_law_pick) (defBody s_law_pick) (defScope s_law_pick) .none kV7 dc7 pm7 an7 cd7 ct7), sl7⟩) (c7 : PySem.W.codeIn K cd7 "_law_pick" = true) (k7 : PySem.W.keepIn K (.ref f7) = true)
    (a8 : PySem.W.nsIn K mainGlobals "_law_nodes" = some (some (.ref f8)))
    (l8 : K.lookup f8 = some ⟨oc8, od8, .func (PySem.W.fnOf "_law_nodes" "_law_nodes" (defArgs s_law_nodes) (defBody s_law_nodes) (defScope s_law_nodes) .none kV8 dc8 pm8 an8 cd8 ct8), sl8⟩) (c8 : PySem.W.codeIn K cd8 "_law_nodes" = true) (k8 : PySem.W.keepIn K (.ref f8) = true)
    (a9 : PySem.W.nsIn K mainGlobals "_law_text" = some (some (.ref f9)))
    (l9 : K.lookup f9 = some ⟨oc9, od9, .func (PySem.W.fnOf "_law_text" "_law_text" (defArgs s_law_text) (defBody s_law_text) (defScope s_law_text) .none kV9 dc9 pm9 an9 cd9 ct9), sl9⟩) (c9 : PySem.W.codeIn K cd9 "_law_text" = true) (k9 : PySem.W.keepIn K (.ref f9) = true)
    (a10 : PySem.W.nsIn K mainGlobals "_law_names" = some (some (.ref f10)))
    (l10 : K.lookup f10 = some ⟨oc10, od10, .func (PySem.W.fnOf "_law_names" "_law_names" (defArgs s_law_names) (defBody s_law_names) (defScope s_law_names) .none kV10 dc10 pm10 an10 cd10 ct10), sl10⟩) (c10 : PySem.W.codeIn K cd10 "_law_names" = true) (k10 : PySem.W.keepIn K (.ref f10) = true)
    (a11 : PySem.W.nsIn K mainGlobals "_law_number" = some (some (.ref f11)))
    (l11 : K.lookup f11 = some ⟨oc11, od11, .func (PySem.W.fnOf "_law_number" "_law_number" (defArgs s_law_number) (defBody s_law_number) (defScope s_law_number) .none kV11 dc11 pm11 an11 cd11 ct11), sl11⟩) (c11 : PySem.W.codeIn K cd11 "_law_number" = true) (k11 : PySem.W.keepIn K (.ref f11) = true)
    (a12 : PySem.W.nsIn K mainGlobals "_law_node" = some (some (.ref f12)))
    (l12 : K.lookup f12 = some ⟨oc12, od12, .func (PySem.W.fnOf "_law_node" "_law_node" (defArgs s_law_node) (defBody s_law_node) (defScope s_law_node) .none kV12 dc12 pm12 an12 cd12 ct12), sl12⟩) (c12 : PySem.W.codeIn K cd12 "_law_node" = true) (k12 : PySem.W.keepIn K (.ref f12) = true)
    (a13 : PySem.W.nsIn K mainGlobals "_law_due" = some (some (.ref f13)))
    (l13 : K.lookup f13 = some ⟨oc13, od13, .func (PySem.W.fnOf "_law_due" "_law_due" (defArgs s_law_due) (defBody s_law_due) (defScope s_law_due) .none kV13 dc13 pm13 an13 cd13 ct13), sl13⟩) (c13 : PySem.W.codeIn K cd13 "_law_due" = true) (k13 : PySem.W.keepIn K (.ref f13) = true)
    (a14 : PySem.W.nsIn K mainGlobals "_law_told" = some (some (.ref f14)))
    (l14 : K.lookup f14 = some ⟨oc14, od14, .func (PySem.W.fnOf "_law_told" "_law_told" (defArgs s_law_told) (defBody s_law_told) (defScope s_law_told) .none kV14 dc14 pm14 an14 cd14 ct14), sl14⟩) (c14 : PySem.W.codeIn K cd14 "_law_told" = true) (k14 : PySem.W.keepIn K (.ref f14) = true)
    (a15 : PySem.W.nsIn K mainGlobals "_law_spoilt" = some (some (.ref f15)))
    (l15 : K.lookup f15 = some ⟨oc15, od15, .func (PySem.W.fnOf "_law_spoilt" "_law_spoilt" (defArgs s_law_spoilt) (defBody s_law_spoilt) (defScope s_law_spoilt) .none kV15 dc15 pm15 an15 cd15 ct15), sl15⟩) (c15 : PySem.W.codeIn K cd15 "_law_spoilt" = true) (k15 : PySem.W.keepIn K (.ref f15) = true)
    (a16 : PySem.W.nsIn K mainGlobals "law" = some (some (.ref f16)))
    (l16 : K.lookup f16 = some ⟨oc16, od16, .func (PySem.W.fnOf "law" "law" (defArgs s_law) (defBody s_law) (defScope s_law) .none kV16 dc16 pm16 an16 cd16 ct16), sl16⟩) (c16 : PySem.W.codeIn K cd16 "law" = true) (k16 : PySem.W.keepIn K (.ref f16) = true)
    (a17 : PySem.W.findIn K (.ref C) "__init__" = some (some (.ref f17))) (i17 : PySem.W.isFn K (.ref f17) = true)
    (l17 : K.lookup f17 = some ⟨oc17, od17, .func (PySem.W.fnOf "__init__" "Program.__init__" (defArgs s_Program_init) (defBody s_Program_init) (defScope s_Program_init) .none kV17 dc17 pm17 an17 cd17 ct17), sl17⟩) (c17 : PySem.W.codeIn K cd17 "Program.__init__" = true) (k17 : PySem.W.keepIn K (.ref f17) = true)
    (tc : PySem.W.typeIn K (.ref C) = some mc) (rd : PySem.W.readsIn K C mc = true) (ga : PySem.W.specialIn K (.ref C) "__getattribute__" = some (some (.builtin "type.__getattribute__")))
    (fc : PySem.W.findCls K (.ref C) mc "parse" = some (.get (.builtin "staticmethod.__get__") (.ref pp) .none (.ref C))) (a18 : PySem.W.recIn K pp "staticmethod" = some (.ref f18 :: rest))
    (l18 : K.lookup f18 = some ⟨oc18, od18, .func (PySem.W.fnOf "parse" "Program.parse" (defArgs s_Program_parse) (defBody s_Program_parse) (defScope s_Program_parse) .none kV18 dc18 pm18 an18 cd18 ct18), sl18⟩) (c18 : PySem.W.codeIn K cd18 "Program.parse" = true) (k18 : PySem.W.keepIn K (.ref f18) = true)
    (pg : PySem.W.plainGet K C Str.empty = true) (hd : PySem.W.hasDictIn K C = true) (po : PySem.W.plainOver K C = true) (sa : PySem.W.findIn K (.ref C) "__setattr__" = some (some (.builtin "object.__setattr__"))) (mk : PySem.W.makesIn K C = true) (kc : PySem.W.keepIn K (.ref C) = true)
    (nN : PySem.W.findIn K (.ref C) "nodes" = some none) (nT : PySem.W.findIn K (.ref C) "_text" = some none)
    (cL : PySem.W.nsIn K mainGlobals "LONGEST_NAME" = some (some (.int 8 t1))) (cM : PySem.W.nsIn K mainGlobals "MOST_NODES" = some (some (.int 8 t2))) (cA : PySem.W.nsIn K mainGlobals "ARROW" = some (some (.str xA t3))) (cE : PySem.W.nsIn K mainGlobals "END" = some (some (.str xE t4)))
    (cW : PySem.W.nsIn K mainGlobals "WORDS" = some (some (.ref aW))) (lW : K.lookup aW = some ⟨.type "tuple", odW, .seq itsW nW, slW⟩)
    (eA : PySem.W.nsIn K mainGlobals "InvalidText" = some (some (.ref CE))) (eX : K.lookup CE = some (excClassObj nmE qE CE NE bsE bmE true snE subE abE colE ddE m0 m1 m2 m3 m5 "ValueError.__new__"))
    (eI : PySem.W.findIn K (.ref CE) "__init__" = some (some (.ref fE))) (eT : PySem.W.typeIn K (.ref fE) = some (.type "function"))
    (eL : K.lookup fE = some ⟨ocE, odE, .func (PySem.W.fnX "__init__" "InvalidText.__init__" (defArgs s_InvalidText_init) (defBody s_InvalidText_init) (defScope s_InvalidText_init) [(("__class__" : Str), c0)] .none .none dcE pmE none (.ref kE) ctE), slE⟩) (eC : PySem.W.codeIn K (.ref kE) "InvalidText.__init__" = true)
    (e0 : K.lookup c0 = some ⟨clE, cldE, .cell (some (.ref CE)), cslE⟩) (eK : K.lookup kE = some ⟨cclE, cddE, .fields vsE, ccsE⟩)
    (e1 : PySem.W.findIn K (.ref CE) "__setattr__" = some (some (.builtin "object.__setattr__"))) (e2 : PySem.W.findIn K (.ref CE) "__getattribute__" = some (some (.builtin "BaseException.__getattribute__"))) (e3 : PySem.W.findIn K (.ref CE) "__getattr__" = some none) (e4 : PySem.W.findIn K (.ref CE) "row" = some none)
    (e5 : PySem.W.keepIn K (.ref CE) = true) (e6 : PySem.W.subIn K (.ref CE) (.type "BaseException") = some true) (e7 : PySem.W.typeIn K (.ref CE) = some (.type "type")) (e8 : PySem.W.hasDictIn K CE = true) (e9 : PySem.W.isClsIn K CE = true) (e10 : PySem.W.subIn K (.ref CE) (.ref CE) = some true)
    (e11 : PySem.W.mroIn K CE (.ref CE) = some true) (e12 : PySem.W.ks_superIn K CE CE "__init__" = some (some (.builtin "ValueError.__init__"))) (e13 : PySem.W.subIn K (.ref CE) (.type "ValueError") = some true) (e14 : PySem.W.nsIn K cStatics "thirdparty.any" = some none)
    (z1 : PySem.W.nsIn K mainGlobals "len" = some none) (z2 : PySem.W.nsIn K mainGlobals "isinstance" = some none) (z3 : PySem.W.nsIn K mainGlobals "all" = some none) (z4 : PySem.W.nsIn K mainGlobals "str" = some none) (z5 : PySem.W.nsIn K mainGlobals "range" = some none) (z6 : PySem.W.nsIn K mainGlobals "enumerate" = some none) (z7 : PySem.W.nsIn K mainGlobals "set" = some none) (z8 : PySem.W.nsIn K mainGlobals "sorted" = some none) (z9 : PySem.W.nsIn K mainGlobals "tuple" = some none) (z10 : PySem.W.nsIn K mainGlobals "int" = some none) (z11 : PySem.W.nsIn K mainGlobals "repr" = some none) (z12 : PySem.W.nsIn K mainGlobals "super" = some none) (z13 : PySem.W.nsIn K mainGlobals "list" = some none) (z14 : PySem.W.nsIn K mainGlobals "max" = some none) (z15 : PySem.W.nsIn K mainGlobals "abs" = some none) (z16 : PySem.W.nsIn K mainGlobals "min" = some none)
    (hA : xA = sArrow) (hE : xE = sEnd) (vW : Vals [V.str sRead, V.str sWrite] itsW.toList) (vB : PySem.HandSPX.refsVE bmE = true) (vF : vsE[2]? = some (.str flE tfE)) (vG : ((l.prog.main.file : Str) == flE) = true) (vT : (l.prog.main.scope.names.lookup ("super" : Str)).isSome = false) :
    ∃ fd : FuncData, (∀ (s : Shared) (v : Value), BindsTo s fd ⟨[v], []⟩ [("script", v)]) ∧ ∀ base : Heap, K.In base → base.Ns mainGlobals mg → FnG l.prog w K mg base CX0 8 fa fd ["script"] (sp_law K) := by
  have e := hfa.symm.trans (PySem.W.mg_of X G a16)
  cases e
  subst hA hE
  have hz : itsW.size ≤ sizeLine := by
    have h2 := vW.length
    have e : itsW.toList.length = itsW.size := Array.length_toList
    rw [← e, ← h2, sizeLine_eq]
    decide
  have T0 : Txt0 K mg := ⟨(PySem.W.mg_none_of X G z1), (PySem.W.mg_none_of X G z2), (PySem.W.mg_none_of X G z3), (PySem.W.mg_none_of X G z4), ⟨t1, PySem.W.mg_of X G cL⟩, ⟨t2, PySem.W.mg_of X G cM⟩, ⟨t3, PySem.W.mg_of X G cA⟩, ⟨t4, PySem.W.mg_of X G cE⟩, ⟨aW, PySem.W.mg_of X G cW, fun _ => .inr ⟨_, itsW, nW, lW, rfl, rfl, hz, vW⟩⟩, (PySem.W.mg_none_of X G z5), (PySem.W.mg_none_of X G z6), (PySem.W.mg_none_of X G z7), (PySem.W.mg_none_of X G z8), (PySem.W.mg_none_of X G z9)⟩
  have TL : TxtL mg := ⟨(PySem.W.mg_none_of X G z13), (PySem.W.mg_none_of X G z14), (PySem.W.mg_none_of X G z15), (PySem.W.mg_none_of X G z10)⟩
  have TP : TxtP K mg C := ⟨⟨pg, hd, po, sa⟩, nN, nT, PySem.W.mg_of X G aC⟩
  have OE : OexC K CE := ⟨⟨nmE, qE, NE, bsE, bmE, snE, subE, abE, colE, ddE, m0, m1, m2, m3, m5, eX, vB⟩, e1, e6, e7, e5⟩
  have EC : ErrC K mg "InvalidText" CE fE "row" := ⟨OE, ⟨e2, e3, e6, e8⟩, eI, eT, PySem.W.mg_of X G eA, e5, e4, exm_own e6 e9 e7 e10⟩
  have SC : SupC l.prog K mg ⟨"__init__", "InvalidText.__init__", defArgs s_InvalidText_init, defBody s_InvalidText_init, defScope s_InvalidText_init, [(("__class__" : Str), c0)], kE⟩ CE c0 := ⟨OE, rfl, ⟨_, _, _, e0⟩, ⟨_, _, _, _, _, _, eK, vF, vG⟩, e11, e12, e13, e14, vT, (PySem.W.mg_none_of X G z12)⟩
  have bE : L2.Binds K (PySem.W.fnX "__init__" "InvalidText.__init__" (defArgs s_InvalidText_init) (defBody s_InvalidText_init) (defScope s_InvalidText_init) [(("__class__" : Str), c0)] .none .none dcE pmE none (.ref kE) ctE) ["self", "row"] [] := .all fun us hl => match us, hl with | [_, _], _ => rfl
  have F1 := fun_mk (st := s_is_name) l1 c1 k1
  have b1 := F1.binds (ps := p_is_name) fun _ _ _ _ _ _ us hl => match us, hl with | [_], _ => rfl
  have F2 := fun_mk (st := s_nodes_of) l2 c2 k2
  have b2 := F2.binds (ps := p_nodes_of) fun _ _ _ _ _ _ us hl => match us, hl with | [_], _ => rfl
  have F3 := fun_mk (st := s_node_of) l3 c3 k3
  have b3 := F3.binds (ps := p_node_of) fun _ _ _ _ _ _ us hl => match us, hl with | [_, _], _ => rfl
  have F4 := fun_mk (st := s_targets_of) l4 c4 k4
  have b4 := F4.binds (ps := p_targets_of) fun _ _ _ _ _ _ us hl => match us, hl with | [_, _], _ => rfl
  have F5 := fun_mk (st := s_law_feed) l5 c5 k5
  have b5 := F5.binds (ps := p_law_feed) fun _ _ _ _ _ _ us hl => match us, hl with | [_, _], _ => rfl
  have F6 := fun_mk (st := s_law_take) l6 c6 k6
  have b6 := F6.binds (ps := p_law_take) fun _ _ _ _ _ _ us hl => match us, hl with | [_, _], _ => rfl
  have F7 := fun_mk (st := s_law_pick) l7 c7 k7
  have b7 := F7.binds (ps := p_law_pick) fun _ _ _ _ _ _ us hl => match us, hl with | [_, _], _ => rfl
  have F8 := fun_mk (st := s_law_nodes) l8 c8 k8
  have b8 := F8.binds (ps := p_law_nodes) fun _ _ _ _ _ _ us hl => match us, hl with | [_, _, _], _ => rfl
  have F9 := fun_mk (st := s_law_text) l9 c9 k9
  have b9 := F9.binds (ps := p_law_text) fun _ _ _ _ _ _ us hl => match us, hl with | [_], _ => rfl
  have F10 := fun_mk (st := s_law_names) l10 c10 k10
  have b10 := F10.binds (ps := p_law_names) fun _ _ _ _ _ _ us hl => match us, hl with | [_], _ => rfl
  have F11 := fun_mk (st := s_law_number) l11 c11 k11
  have b11 := F11.binds (ps := p_law_number) fun _ _ _ _ _ _ us hl => match us, hl with | [_], _ => rfl
  have F12 := fun_mk (st := s_law_node) l12 c12 k12
  have b12 := F12.binds (ps := p_law_node) fun _ _ _ _ _ _ us hl => match us, hl with | [_, _], _ => rfl
  have F13 := fun_mk (st := s_law_due) l13 c13 k13
  have b13 := F13.binds (ps := p_law_due) fun _ _ _ _ _ _ us hl => match us, hl with | [_], _ => rfl
  have F14 := fun_mk (st := s_law_told) l14 c14 k14
  have b14 := F14.binds (ps := p_law_told) fun _ _ _ _ _ _ us hl => match us, hl with | [_], _ => rfl
  have F15 := fun_mk (st := s_law_spoilt) l15 c15 k15
  have b15 := F15.binds (ps := p_law_spoilt) fun _ _ _ _ _ _ us hl => match us, hl with | [_, _], _ => rfl
  have F16 := fun_mk (st := s_law) l16 c16 k16
  have b16 := F16.binds (ps := p_law) fun _ _ _ _ _ _ us hl => match us, hl with | [_], _ => rfl
  have F17 := fun_mk (st := s_Program_init) l17 c17 k17
  have b17 := F17.binds (ps := p_Program_init) fun _ _ _ _ _ _ us hl => match us, hl with | [_, _], _ => rfl
  have F18 := fun_mk (st := s_Program_parse) l18 c18 k18
  have b18 := F18.binds (ps := p_Program_parse) fun _ _ _ _ _ _ us hl => match us, hl with | [_], _ => rfl
  refine ⟨PySem.W.fnOf "law" "law" (defArgs s_law) (defBody s_law) (defScope s_law) .none kV16 dc16 pm16 an16 cd16 ct16, fun s v => .of_eq rfl, fun base _ _ => ?_⟩
  have EF : ErrF l.prog w K mg base "InvalidText" CE "row" := ⟨fE, _, _, EC, bE, ok_err (N := ["self", "row", "__class__"]) (sx := "self") (sy := "row") SC eL eC rfl (show ((defArgs s_InvalidText_init).posonlyargs ++ (defArgs s_InvalidText_init).args).head?.map (·.arg) = some ("self" : Str) from by decide +kernel) rfl rfl
    (show (defScope s_InvalidText_init).names.lookup ("self" : Str) = some .local from by decide +kernel) (show (defScope s_InvalidText_init).names.lookup ("row" : Str) = some .local from by decide +kernel)
    (show (defScope s_InvalidText_init).names.lookup ("super" : Str) = some .globalImplicit from by decide +kernel) (show (defScope s_InvalidText_init).names.lookup ("__class__" : Str) = some .free from by decide +kernel)
    (by decide +kernel) (by decide +kernel) (by decide +kernel) (by decide +kernel) (fun _ => rfl) (fun _ => rfl) (fun _ => rfl) (fun _ => rfl) (show NScope ["self", "row", "__class__"] ["self", "row"] ["__class__"] (defScope s_InvalidText_init) from nscope_by (by decide +kernel)) e4⟩
  have G1 : OkF l.prog w K mg base CX0 "is_name" p_is_name 1 sp_is_name := ⟨f1, _, PySem.W.mg_of X G a1, k1, b1, ok_is_name F1 T0⟩
  have G2 : OkF l.prog w K mg base CX0 "_targets_of" p_targets_of 1 (sp_targets_of K) := ⟨f4, _, PySem.W.mg_of X G a4, k4, b4, ok_targets_of F4 T0⟩
  have G3 : OkF l.prog w K mg base CX0 "_node_of" p_node_of 2 sp_node_of := ⟨f3, _, PySem.W.mg_of X G a3, k3, b3, ok_node_of F3 T0 G1 G2⟩
  have G4 : OkF l.prog w K mg base (L2.CX l.prog w) "_nodes_of" p_nodes_of 3 (sp_nodesX K CE) := ⟨f2, _, PySem.W.mg_of X G a2, k2, b2, ok_nodesX F2 T0 EF G3⟩
  have G5 : OkF l.prog w K mg base CX0 "_law_number" p_law_number 1 sp_law_number := ⟨f11, _, PySem.W.mg_of X G a11, k11, b11, ok_law_number F11 T0 (PySem.W.mg_none_of X G z10)⟩
  have G6 : OkF l.prog w K mg base CX0 "_law_node" p_law_node 2 sp_law_node := ⟨f12, _, PySem.W.mg_of X G a12, k12, b12, ok_law_node F12 T0 G5⟩
  have G7 : OkF l.prog w K mg base CX0 "_law_due" p_law_due 3 (sp_law_due K) := ⟨f13, _, PySem.W.mg_of X G a13, k13, b13, ok_law_due F13 T0 G6⟩
  have GI := ok_initX (P := l.prog) (w := w) (base := base) F17 TP G4
  have PP := ok_parseX F18 TP ⟨mk, a17, i17, kc⟩ GI b17
  have G8 : OkF l.prog w K mg base CX0 "_law_told" p_law_told 7 (sp_law_told K) := ⟨f14, _, PySem.W.mg_of X G a14, k14, b14, ok_law_told F14 TP EF ⟨rd, ga⟩ ⟨fc, ⟨rest, a18⟩, k18⟩ PP b18⟩
  have D1 : OkF l.prog w K mg base CX0 "_law_feed" p_law_feed 1 (sp_law_feed K) := ⟨f5, _, PySem.W.mg_of X G a5, k5, b5, ok_law_feed F5 TL⟩
  have D2 : OkF l.prog w K mg base CX0 "_law_take" p_law_take 1 sp_law_take := ⟨f6, _, PySem.W.mg_of X G a6, k6, b6, ok_law_take F6 TL⟩
  have D3 : OkF l.prog w K mg base CX0 "_law_pick" p_law_pick 2 (sp_law_pick K) := ⟨f7, _, PySem.W.mg_of X G a7, k7, b7, ok_law_pick F7 T0 D2⟩
  have D4 : OkF l.prog w K mg base CX0 "_law_names" p_law_names 3 sp_law_names := ⟨f10, _, PySem.W.mg_of X G a10, k10, b10, ok_law_names F10 T0 TL D2 D3⟩
  have D5 : OkF l.prog w K mg base CX0 "_law_nodes" p_law_nodes 3 (sp_law_nodes K) := ⟨f8, _, PySem.W.mg_of X G a8, k8, b8, ok_law_nodes F8 T0 TL D2 D3⟩
  have D6 : OkF l.prog w K mg base CX0 "_law_text" p_law_text 1 sp_law_text := ⟨f9, _, PySem.W.mg_of X G a9, k9, b9, ok_law_text F9 T0⟩
  have D7 : OkF l.prog w K mg base CX0 "_law_spoilt" p_law_spoilt 3 sp_law_spoilt := ⟨f15, _, PySem.W.mg_of X G a15, k15, b15, ok_law_spoilt F15 T0 TL D2 D3⟩
  exact ok_law F16 T0 TL (PySem.W.mg_none_of X G z16) (PySem.W.mg_none_of X G z11) D1 D4 D5 D6 D7 G8 G7
theorem walk {l : PySem.W.OpenLaw} {q : Program} {loose : List Str} {XP : (Str → Option Value) → Heap → Prop} {YP : World → Heap → Prop} {d : DefRec} {K : Params → PySem.W.Frag} (hn : l.most = some 63) (hdf : d.params.defaults = [])
    (hY : ∀ (w : World) (h : Heap), YP w h → (K w.params).In h)
    (F : ∀ (w : World) (mg : Str → Option Value) (fa : Addr) (h : Heap), (K w.params).In h → h.Ns mainGlobals mg → mg d.name = some (.ref fa) →
      ∃ fd : FuncData, (∀ (s : Shared) (u : Value), BindsTo s fd ⟨[u], []⟩ [("script", u)]) ∧ ∀ base : Heap, (K w.params).In base → base.Ns mainGlobals mg → FnG l.prog w (K w.params) mg base CX0 8 fa fd ["script"] (sp_law (K w.params))) :
    PySem.W.WalkO q loose XP YP l.row.toRowW d [] (fun f vs => PySem.call f vs) :=
  walk_ofG (n := 63) (k := 8) (x := "script") (CX := fun _ => CX0) (sp := fun w => sp_law (K w.params)) hn (by decide) hdf ⟨rfl, by decide, by decide⟩ hY F (fun _ _ a ns hl _ hS => ⟨a, ns, rfl, hS, hl, fun _ => rfl⟩) fun _ _ _ _ _ z => z
end Vf

open PySem PySem.W PyProof.Rows
set_option maxRecDepth 100000 in
set_option maxHeartbeats 0 in
theorem PySem.Challenge.cw_sharedlines_k11_texts_of_programs_judged_holds : PySem.Challenge.rw_sharedlines_k11_texts_of_programs_judged.Holds := by
  w_on; o_law; k_head; (case hw => w_witness2)
  k_fill
  refine Vf.walk (l := PySem.Challenge.rw_sharedlines_k11_texts_of_programs_judged) rfl rfl (fun w h Y => PySem.W.kIn_of Y) ?F
  case F =>
    intro w mg fa h KX G hmg
    refine' Vf.all_mk KX G hmg ?aC ?a1 ?l1 ?c1 ?k1 ?a2 ?l2 ?c2 ?k2 ?a3 ?l3 ?c3 ?k3 ?a4 ?l4 ?c4 ?k4 ?a5 ?l5 ?c5 ?k5 ?a6 ?l6 ?c6 ?k6 ?a7 ?l7 ?c7 ?k7 ?a8 ?l8 ?c8 ?k8 ?a9 ?l9 ?c9 ?k9 ?a10 ?l10 ?c10 ?k10 ?a11 ?l11 ?c11 ?k11 ?a12 ?l12 ?c12 ?k12 ?a13 ?l13 ?c13 ?k13 ?a14 ?l14 ?c14 ?k14 ?a15 ?l15 ?c15 ?k15 ?a16 ?l16 ?c16 ?k16 ?a17 ?i17 ?l17 ?c17 ?k17 ?tc ?rd ?ga ?fc ?a18 ?l18 ?c18 ?k18 ?pg ?hd ?po ?sa ?mk ?kc ?nN ?nT ?cL ?cM ?cA ?cE ?cW ?lW ?eA ?eX ?eI ?eT ?eL ?eC ?e0 ?eK ?e1 ?e2 ?e3 ?e4 ?e5 ?e6 ?e7 ?e8 ?e9 ?e10 ?e11 ?e12 ?e13 ?e14 ?z1 ?z2 ?z3 ?z4 ?z5 ?z6 ?z7 ?z8 ?z9 ?z10 ?z11 ?z12 ?z13 ?z14 ?z15 ?z16 ?hA ?hE ?vW ?vB ?vF ?vG ?vT
    (case aC => k_is); (case a1 => k_is); (case l1 => k_is); (case c1 => k_is); (case k1 => k_is); (case a2 => k_is)
    (case l2 => k_is); (case c2 => k_is); (case k2 => k_is); (case a3 => k_is); (case l3 => k_is); (case c3 => k_is)
    (case k3 => k_is); (case a4 => k_is); (case l4 => k_is); (case c4 => k_is); (case k4 => k_is); (case a5 => k_is)
    (case l5 => k_is); (case c5 => k_is); (case k5 => k_is); (case a6 => k_is); (case l6 => k_is); (case c6 => k_is)
    (case k6 => k_is); (case a7 => k_is); (case l7 => k_is); (case c7 => k_is); (case k7 => k_is); (case a8 => k_is)
    (case l8 => k_is); (case c8 => k_is); (case k8 => k_is); (case a9 => k_is); (case l9 => k_is); (case c9 => k_is)
    (case k9 => k_is); (case a10 => k_is); (case l10 => k_is); (case c10 => k_is); (case k10 => k_is); (case a11 => k_is)
    (case l11 => k_is); (case c11 => k_is); (case k11 => k_is); (case a12 => k_is); (case l12 => k_is); (case c12 => k_is)
    (case k12 => k_is); (case a13 => k_is); (case l13 => k_is); (case c13 => k_is); (case k13 => k_is); (case a14 => k_is)
    (case l14 => k_is); (case c14 => k_is); (case k14 => k_is); (case a15 => k_is); (case l15 => k_is); (case c15 => k_is)
    (case k15 => k_is); (case a16 => k_is); (case l16 => k_is); (case c16 => k_is); (case k16 => k_is); (case a17 => k_is)
    (case i17 => k_is); (case l17 => k_is); (case c17 => k_is); (case k17 => k_is); (case tc => k_is); (case rd => k_is)
    (case ga => k_is); (case fc => k_is); (case a18 => k_is); (case l18 => k_is); (case c18 => k_is); (case k18 => k_is)
    (case pg => k_is); (case hd => k_is); (case po => k_is); (case sa => k_is); (case mk => k_is); (case kc => k_is)
    (case nN => k_is); (case nT => k_is); (case cL => k_is); (case cM => k_is); (case cA => k_is); (case cE => k_is)
    (case cW => k_is); (case lW => k_is); (case eA => k_is); (case eX => k_is); (case eI => k_is); (case eT => k_is)
    (case eL => k_is); (case eC => k_is); (case e0 => k_is); (case eK => k_is); (case e1 => k_is); (case e2 => k_is)
    (case e3 => k_is); (case e4 => k_is); (case e5 => k_is); (case e6 => k_is); (case e7 => k_is); (case e8 => k_is)
    (case e9 => k_is); (case e10 => k_is); (case e11 => k_is); (case e12 => ks_is); (case e13 => k_is); (case e14 => k_is)
    (case z1 => k_is); (case z2 => k_is); (case z3 => k_is); (case z4 => k_is); (case z5 => k_is); (case z6 => k_is)
    (case z7 => k_is); (case z8 => k_is); (case z9 => k_is); (case z10 => k_is); (case z11 => k_is); (case z12 => k_is)
    (case z13 => k_is); (case z14 => k_is); (case z15 => k_is); (case z16 => k_is)
    (case hA => decide +kernel); (case hE => decide +kernel); (case vB => rfl); (case vF => rfl); (case vG => decide +kernel); (case vT => decide +kernel)
    case vW => exact .cons ⟨_, rfl⟩ (.cons ⟨_, rfl⟩ .nil)
#print axioms PySem.Challenge.cw_sharedlines_k11_texts_of_programs_judged_holds
