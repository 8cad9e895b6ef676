/- Of what the proof is made: 4 texts, one behind the other. -/
import Derived.Test.YtkdlcomfpffhhaaGreatDoorM26
import Derived.Defers
import Derived.Recover
import Derived.OwnWalk
import Derived.Test.YtkdlcomfpffhhaaGreatDoorM22
namespace Go.Proofs.YtkdlcomfpffhhaaGreatDoor
open Go.RowKit Corb
theorem catch_idle (w:World) :
  CallsD Tryz.prog 223 #[] .returning w fun e u' w'=>e = .returned (.tuple #[])∧u' = .returning∧w'=w:=by
 refine callsD_of_wpS Tryz.func223 rfl fun c₀ cs hu=>?_
 apply wpS_seq
 apply wpS_region
 simp [wpOpsS,go_sem,recoverD,hu,Tryz.ntmps223,Exit.thenS]
 refine wpS_of_wp ?_
 go_wp2_with fail
 cases c₀
 simp_all [bodyPostS,results,Tryz.results223]
set_option maxRecDepth 100000 in
theorem catch_fault (w:World) :
  CallsD Tryz.prog 223 #[] (.panicking [{ v:=.iface 306 (.agg #[]),recovered:=false }]) w fun e u' w'=>e = .returned (.tuple #[])∧u' = .panicking [{ v:=.iface 306 (.agg #[]),recovered:=true }]∧Below w.heap.size w w':=by
 refine callsD_of_wpS Tryz.func223 rfl fun c₀ cs hu=>?_
 apply wpS_seq
 apply wpS_region
 simp [wpOpsS,go_sem,recoverD,hu,Tryz.ntmps223,Exit.thenS]
 have hAs:(Instr.typeAssert (.iface 306 (.agg #[])) 20 306 true).run Tryz.prog w = .ok (.tuple #[.agg #[],.bool true]) w:=by kernel_rfl
 refine wpS_of_wp ?_
 go_wp2_with fail
 simp [bodyPostS,results,Tryz.results223]
 exact (Below.refl _ _).alloc (Nat.le_refl _) _
def UnP (w:World) (b:Nat) (s:ByteArray) (d:Option (List UInt8×Nat)) (e:Ending) (w':World):Prop:=
 KU b w w'∧match d with
  | none=>e = .returned (.bool false)
  | some (T,q)=>e = .returned (.bool true)∧Sou w' b s q T
set_option maxRecDepth 100000 in
theorem unpacked_any (b p:Nat) (s:ByteArray) (T:List UInt8) (w:World) (h:Sou w b s p T) (hT:T.length≤300) (hp:p≤8*s.size) (hs:s.size≤2000000) (hO:OrdC w) (hb:1<b) :
  Calls Tryz.prog 201 #[.pointer (some ⟨b,0,none⟩)] w (UnP w b s (wholeG (numB s) (8*s.size) p T)):=by
 have HP:=hide (parts_any b p s T w h hT hp hs hO hb)
 have hlt:=h.lt
 clear h hT hp hs hO hb
 generalize wholeG (numB s) (8*s.size) p T=d at *
 unfold LayP at HP
 unfold UnP
 rcases d with _ | ⟨T',q⟩
 ·
  go_enter_defers Tryz.func201,Tryz.ntmps201
  go_wp2_with fail
  refine (unhide HP).mono ?_
  rintro e x1 ⟨k1,rfl⟩
  have HY:=hide (And.intro k1 (show b<x1.heap.size from Nat.lt_of_lt_of_le hlt k1.1.size))
  clear k1 HP
  unfold faultE
  refine leaves_cons (f:=223) (args:=#[]) (by simp) (by simp [go_sem]) ?_
  refine (catch_fault x1).mono ?_
  rintro e u' w'' ⟨rfl,rfl,b2⟩
  have hk:=(unhide HY).1.later b2 (unhide HY).2
  simp [Leaves,settle,results,Tryz.results201,go_sem]
  exact hk
 ·
  go_enter_defers Tryz.func201,Tryz.ntmps201
  go_wp2_with fail
  refine (unhide HP).mono ?_
  rintro e x1 ⟨k1,rfl,s1⟩
  have HY:=hide (And.intro k1 s1)
  clear k1 s1 HP
  go_wp2_with fail
  refine leaves_cons (f:=223) (args:=#[]) (by simp) (by simp [go_sem]) ?_
  refine (catch_idle x1).mono ?_
  rintro e u' w'' ⟨rfl,rfl,rfl⟩
  simp [Leaves,settle,results,Tryz.results201,go_sem]
  exact unhide HY
def flateG (s:ByteArray):Option (List UInt8×Nat):=if s.size≤700 then wholeG (numB s) (8*s.size) 0 [] else none
def getV (d:Option (List UInt8×Nat)):Value:=match d with
 | none=>.tuple #[.string ⟨#[]⟩,.int .i64 0,.bool false]
 | some (T,q)=>.tuple #[.string ⟨T.toArray⟩,.int .i64 ((q/8:Nat):Int),.bool true]
theorem wholeG_bd {V sz p q:Nat} {T T':List UInt8} (h:wholeG V sz p T=some (T',q)) (h8:sz%8=0):q≤sz∧p<q∧q%8=0∧(T.length≤300→T'.length≤300):=by
 unfold wholeG at h
 rcases h1:partsG V sz p T with _ | ⟨T1,q1⟩
 ·
  rw [h1] at h; cases h
 rw [h1] at h
 simp only [Option.bind_some] at h
 rcases h2:restG V q1 with _ | q2
 ·
  rw [h2] at h; cases h
 rw [h2] at h
 simp only [Option.bind_some,Option.some.injEq,Prod.mk.injEq] at h
 obtain ⟨rfl,rfl⟩:=h
 have b1:=partsG_bd h1
 have b2:=restG_bd h2
 exact ⟨by omega,by omega,by omega,b1.2.2⟩
theorem sou_new (w:World) (s:ByteArray) (t:TypeId):Sou (w.alloc (.cells #[.string s,.int .i64 0,.bool false,.slice none 0 0] t)) w.heap.size s 0 []:=by
 refine ⟨?_,.slice none 0 0,by simp,by simp,World.ownsRow_nil _ _ _ _⟩
 unfold Rdr
 simp only [Nat.zero_min,Nat.not_lt_zero,decide_false]
 exact ⟨by simp,by simp,by simp,by simp,by simp,by simp,by simp⟩
set_option maxRecDepth 100000 in
set_option maxHeartbeats 1600000 in
theorem implFlateGet_any (s:ByteArray) (w:World) (hs:s.size≤9223372036854775807) (hO:OrdC w) :
  Calls Tryz.prog 162 #[.string s] w fun e w'=>e = .returned (getV (flateG s))∧Below w.heap.size w w':=by
 have hA:Below w.heap.size w (w.alloc (.cells #[.string s,.int .i64 0,.bool false,.slice none 0 0] 284)):=(Below.refl _ _).alloc (Nat.le_refl _) _
 by_cases hc:s.size≤700
 ·
  have hU:=unpacked_any w.heap.size 0 s [] _ (sou_new w s 284) (by simp) (Nat.zero_le _) (by omega) (hO.later hA) hO.2
  have e:flateG s=wholeG (numB s) (8*s.size) 0 []:=if_pos hc
  rw [←e] at hU
  have hq:∀ T q,flateG s=some (T,q)→q≤8*s.size∧q≤5600:=fun T q h=>by
   rw [e] at h
   have:=wholeG_bd h (by omega)
   omega
  clear e
  generalize flateG s=d at *
  have HU:=hide hU
  have HA:=hide hA
  have hcI:(s.size:Int)≤700:=by omega
  clear hU hA hO hs hc
  unfold UnP at HU
  rcases d with _ | ⟨T,q⟩
  ·
   unfold getV
   simp only
   clear hq
   go_enter Tryz.func162,Tryz.ntmps162
   go_wp2_with fail
   refine (unhide HU).mono ?_
   rintro e x1 ⟨k1,rfl⟩
   have HK:=hide k1.1
   clear k1 HU
   go_wp2
   go_ret3
   exact ⟨rfl,(unhide HA).trans (unhide HK)⟩
  ·
   unfold getV
   simp only
   obtain ⟨hq1,hq2⟩:=hq T q rfl
   have hqI:(q:Int)≤5600:=by omega
   have Hq:=hide hq1
   clear hq hq1 hq2
   go_enter Tryz.func162,Tryz.ntmps162
   go_wp2_with fail
   refine (unhide HU).mono ?_
   rintro e x1 ⟨k1,rfl,r1,v,c3,f3,o3⟩
   have HK:=hide k1.1
   have c1:=(r1.at (unhide Hq)).2.1
   have hT':(convert 22 9 v).run Tryz.prog x1.drew = .ok (.string ⟨T.toArray⟩) x1.drew:=BOwn.text (w:=x1.drew) o3
   clear k1 HU r1 f3 o3 Hq
   go_wp2_with fail
   have hmix:Tryz.prog.follows .mixedOrders=true:=by kernel_rfl
   have c1':x1.drew.cell? ⟨w.heap.size,1,none⟩=some (.int .i64 (q:Int)):=c1
   have c3':x1.drew.cell? ⟨w.heap.size,3,none⟩=some v:=c3
   refine wp_region_held_drew (S:=fun W=>W=x1.drew) hmix rfl (fun hS=>?_)
   refine wpAnyH_take (i:=0) (v:=.pointer (some ⟨w.heap.size,0,none⟩)) rfl (by kernel_rfl) (by kernel_rfl) (by kernel_rfl) (fun _ _ _ h=>h) (Or.inl ⟨by rfl,fun W hSw=>by subst hSw; go_simp⟩) hS ?_
   refine wpAnyH_take (i:=1) (v:=.pointer (some ⟨w.heap.size,0,none⟩)) rfl (by kernel_rfl) (by kernel_rfl) (by kernel_rfl) (fun _ _ _ h=>h) (Or.inl ⟨by rfl,fun W hSw=>by subst hSw; go_simp⟩) hS ?_
   refine wpAnyH_take (i:=2) (v:=.pointer (some ⟨w.heap.size,3,none⟩)) rfl (by kernel_rfl) (by kernel_rfl) (by kernel_rfl) (fun _ _ _ h=>h) (Or.inl ⟨by rfl,fun W hSw=>by subst hSw; go_simp⟩) hS ?_
   refine wpAnyH_take (i:=3) (v:=v) rfl (by kernel_rfl) (by kernel_rfl) (by kernel_rfl) (fun _ _ _ h=>h) (Or.inl ⟨by rfl,fun W hSw=>by subst hSw; go_simp⟩) hS ?_
   refine wpAnyH_take (i:=4) (v:=.string ⟨T.toArray⟩) rfl (by kernel_rfl) (by kernel_rfl) (by kernel_rfl) (fun _ _ _ h=>h) (Or.inl ⟨by rfl,fun W hSw=>by subst hSw; go_simp⟩) hS ?_
   refine wpAnyH_take (i:=5) (v:=.pointer (some ⟨w.heap.size,0,none⟩)) rfl (by kernel_rfl) (by kernel_rfl) (by kernel_rfl) (fun _ _ _ h=>h) (Or.inl ⟨by rfl,fun W hSw=>by subst hSw; go_simp⟩) hS ?_
   refine wpAnyH_take (i:=6) (v:=.pointer (some ⟨w.heap.size,0,none⟩)) rfl (by kernel_rfl) (by kernel_rfl) (by kernel_rfl) (fun _ _ _ h=>h) (Or.inl ⟨by rfl,fun W hSw=>by subst hSw; go_simp⟩) hS ?_
   refine wpAnyH_take (i:=7) (v:=.pointer (some ⟨w.heap.size,0,none⟩)) rfl (by kernel_rfl) (by kernel_rfl) (by kernel_rfl) (fun _ _ _ h=>h) (Or.inl ⟨by rfl,fun W hSw=>by subst hSw; go_simp⟩) hS ?_
   refine wpAnyH_take (i:=8) (v:=.pointer (some ⟨w.heap.size,1,none⟩)) rfl (by kernel_rfl) (by kernel_rfl) (by kernel_rfl) (fun _ _ _ h=>h) (Or.inl ⟨by rfl,fun W hSw=>by subst hSw; go_simp⟩) hS ?_
   refine wpAnyH_take (i:=9) (v:=.int .i64 (q:Int)) rfl (by kernel_rfl) (by kernel_rfl) (by kernel_rfl) (fun _ _ _ h=>h) (Or.inl ⟨by rfl,fun W hSw=>by subst hSw; go_simp⟩) hS ?_
   refine wpAnyH_take (i:=10) (v:=.int .i64 ((q/8:Nat):Int)) rfl (by kernel_rfl) (by kernel_rfl) (by kernel_rfl) (fun _ _ _ h=>h) (Or.inl ⟨by rfl,fun W hSw=>by subst hSw; go_simp; rw [IntKind.wrap_i64]; omega⟩) hS ?_
   refine wpAnyH_ready (rs:=[11]) (by kernel_rfl) (by simp) ?_
   refine AllReadyH.cons rfl (fun K hK=>?_) AllReadyH.nil
   go_simp
   refine Shut.out hK _ _ rfl (fun hS=>?_)
   clear hK K
   refine wpAnyH_ready (rs:=[12]) (by kernel_rfl) (by simp) ?_
   refine AllReadyH.cons rfl (fun K hK=>?_) AllReadyH.nil
   go_simp
   refine Shut.out hK _ _ rfl (fun hS=>?_)
   clear hK K
   refine wpAnyH_ready (rs:=[13]) (by kernel_rfl) (by simp) ?_
   refine AllReadyH.cons rfl (fun K hK=>?_) AllReadyH.nil
   go_simp
   refine Shut.out hK _ _ rfl (fun hS=>?_)
   clear hK K
   refine wpAnyH_done (by kernel_rfl) ?_ _
   go_wp2
   go_ret3
   exact ⟨rfl,(unhide HA).trans (unhide HK).drew⟩
 ·
  have e:flateG s=none:=if_neg hc
  rw [e]
  have hcI:(700:Int)<(s.size:Int):=by omega
  have HA:=hide hA
  clear hA hO hs hc e
  unfold getV
  simp only
  go_enter Tryz.func162,Tryz.ntmps162
  go_wp2
  go_ret3
  exact ⟨rfl,unhide HA⟩
theorem parts_part {V sz p:Nat} {T:List UInt8} : partsG V sz p T=(partD V sz p T).bind fun r=>if V/2 ^ p%2=1 then some r else partsG V sz r.2 r.1:=by
 rw [partsG_step]
 unfold partD
 by_cases h1:p+1≤sz
 ·
  rw [rdN_yes h1]
  simp only [Option.bind_some]
  rcases rdN V sz (p+1) 2 with _ | ⟨k,q⟩
  ·
   rfl
  ·
   rfl
 ·
  rw [rdN_no h1]
  rfl
def GmI (sz V:Nat) (D:Option (List UInt8×Nat)) (T:List UInt8) (q:Nat) (f l:Bool):Prop:=
 (f=false→q≤sz∧T.length≤300+q)∧(f=false→T.length≤300→l=false→partsG V sz q T=D)∧(f=false→T.length≤300→l=true→D=some (T,q))∧((f=true∨300<T.length)→D=none)
theorem GmI.next {sz V q q':Nat} {D:Option (List UInt8×Nat)} {T T':List UInt8} {f':Bool} (h:GmI sz V D T q false false) (hm:MR sz (q+1+2) T (partD V sz q T) T' q' f'):GmI sz V D T' q' f' (decide (((V/2 ^ q%2:Nat):Int)=1)):=by
 obtain ⟨h1,h2,_,h4⟩:=h
 obtain ⟨m1,m2,m3,m4⟩:=hm
 have hdone:(f'=true∨300<T'.length)→D=none:=fun hc=>by
  by_cases hT:T.length≤300
  ·
   rw [←h2 rfl hT rfl,parts_part,m3 hT hc]
   rfl
  ·
   exact h4 (.inr (by omega))
 have hT3:f'=false→T'.length≤300→T.length≤300:=fun hf hT'=>by
  by_cases hT:T.length≤300
  ·
   exact hT
  ·
   rcases m4 (by omega) with h | h
   ·
    rw [h] at hf; cases hf
   ·
    omega
 refine ⟨fun hf=>⟨(m1 hf).1,(m1 hf).2.2⟩,fun hf hT' hl=>?_,fun hf hT' hl=>?_,hdone⟩
 ·
  have hT:=hT3 hf hT'
  have hx:=of_decide_eq_false hl
  rw [←h2 rfl hT rfl,parts_part (V:=V) (sz:=sz) (p:=q) (T:=T),m2 hT hf hT']
  simp only [Option.bind_some]
  rw [if_neg (by omega)]
 ·
  have hT:=hT3 hf hT'
  have hx:=of_decide_eq_true hl
  rw [←h2 rfl hT rfl,parts_part (V:=V) (sz:=sz) (p:=q) (T:=T),m2 hT hf hT']
  simp only [Option.bind_some]
  rw [if_pos (by omega)]
theorem rf_new (w:World) (s:ByteArray) (t:TypeId):RF (w.alloc (.cells #[.string s,.int .i64 0,.bool false] t)) w.heap.size s 0 false:=by
 unfold RF
 simp only [Nat.zero_min]
 exact ⟨by simp,by simp,by simp,by simp,by simp,by simp,by simp⟩
set_option maxRecDepth 100000 in
set_option maxHeartbeats 3200000 in
theorem l5Get_any (s:ByteArray) (w:World) (hs:s.size≤2000) :
  Calls Tryz.prog 192 #[.string s] w fun e w'=>e = .returned (getV (wholeG (numB s) (8*s.size) 0 []))∧Below w.heap.size w w':=by
 have hmix:Tryz.prog.follows .mixedOrders=true:=by kernel_rfl
 obtain ⟨D,hD⟩:∃ D,partsG (numB s) (8*s.size) 0 []=D:=⟨_,rfl⟩
 have HG:Hid (wholeG (numB s) (8*s.size) 0 []=D.bind fun r=>(restG (numB s) r.2).bind fun q=>some (r.1,q)):=by
  show _=_
  unfold wholeG
  rw [hD]
 have HD:=hide hD
 have HN:=hide hs
 have hsI:(s.size:Int)≤2000:=by omega
 have R0:=rf_new w s 302
 have A0:Below w.heap.size w (w.alloc (.cells #[.string s,.int .i64 0,.bool false] 302)):=(Below.refl _ _).alloc (Nat.le_refl _) _
 have hlt0:w.heap.size+1=(w.alloc (.cells #[.string s,.int .i64 0,.bool false] 302)).heap.size:=by simp
 have H0:=hide (And.intro R0 (And.intro A0 hlt0))
 clear hs hD R0 A0 hlt0
 go_enter Tryz.func192,Tryz.ntmps192
 go_wp2_with fail
 obtain ⟨R0,A0,hlt0⟩:=unhide H0
 have hR1:World.ownsRow ((w.alloc (.cells #[.string s,.int .i64 0,.bool false] 302)).alloc (.cells #[] 5)) (w.heap.size+1) 5 1 (.slice (some ⟨w.heap.size+1,0,none⟩) 0 0) 0 []:=by
  have h:World.ownsRow ((w.alloc (.cells #[.string s,.int .i64 0,.bool false] 302)).alloc (.cells #[] 5)) (w.alloc (.cells #[.string s,.int .i64 0,.bool false] 302)).heap.size 5 1 (.slice (some ⟨(w.alloc (.cells #[.string s,.int .i64 0,.bool false] 302)).heap.size,0,none⟩) 0 0) 0 []:=World.ownsRow_lit _ #[] 0 (Nat.le_refl _) (by unfold maxLen; omega) rfl
  rwa [←hlt0] at h
 have A1:Below (w.heap.size+1) (w.alloc (.cells #[.string s,.int .i64 0,.bool false] 302)) ((w.alloc (.cells #[.string s,.int .i64 0,.bool false] 302)).alloc (.cells #[] 5)):=(Below.refl _ _).alloc (Nat.le_of_eq hlt0) _
 have R1:=R0.kept A1
 have B1:=hide (A0.trans (A1.mono (Nat.le_succ _)))
 have HMS1:Hid (BOwn ((w.alloc (.cells #[.string s,.int .i64 0,.bool false] 302)).alloc (.cells #[] 5)) (w.heap.size+1) (.slice (some ⟨w.heap.size+1,0,none⟩) 0 0) []∧RF ((w.alloc (.cells #[.string s,.int .i64 0,.bool false] 302)).alloc (.cells #[] 5)) w.heap.size s 0 false):=⟨hR1,R1⟩
 clear hR1 A1 R1 A0 R0 hlt0 H0
 generalize (w.alloc (.cells #[.string s,.int .i64 0,.bool false] 302)).alloc (.cells #[] 5)=x1 at *
 go_loopw [6,7,8,9] (fun v l _ _ wr=>∃ (T:List UInt8) (q:Nat) (f l':Bool),l = .bool l'∧BOwn wr (w.heap.size+1) v T∧RF wr w.heap.size s q f∧Below w.heap.size w wr∧GmI (8*s.size) (numB s) D T q f l') (fun _ l _ _ wr=>match l with | .bool true=>0 | _=>farN w.heap.size (8*s.size) wr)
 case atStart=>exact ⟨[],0,false,false,rfl,(unhide HMS1).1,(unhide HMS1).2,unhide B1,⟨fun _=>⟨Nat.zero_le _,Nat.zero_le _⟩,fun _ _ _=>unhide HD,fun _ _=>nofun,fun h=>by rcases h with h | h <;> simp at h⟩⟩
 case round=>
  obtain ⟨T,q,f,l,rfl,ho,hr,hbel,hI⟩:=hrel
  clear HMS1 B1
  obtain ⟨m,hm⟩:∃ m,T.length=m:=⟨_,rfl⟩
  obtain ⟨va,vc,rfl⟩:=ho.formN hm
  obtain ⟨c2,f2⟩:=hr.bad
  have Hm:=hide hm
  have HO:=hide ho
  have HR:=hide hr
  have HB:=hide hbel
  have HI:=hide hI
  have HFar:=hide hr.far
  clear hm ho hr hbel hI
  cases f
  ·
   cases l
   ·
    have hq:=(unhide HI).1 rfl
    have HC:=hide (partM_any w.heap.size q m vc va s T wr (unhide Hm) (unhide HO) (rf_rdr (unhide HR) hq.1) hq.1 (unhide HN) (by have:=unhide Hm; omega))
    have Hq:=hide hq
    clear hq
    go_wp2_with fail
    refine (unhide HC).mono ?_
    rintro e x2 ⟨k2,v2,T2,q2,f2',rfl,o2,r2,m2⟩
    have hI2:=(unhide HI).next m2
    have HF2:Hid ((match (Value.bool (decide (((numB s/2 ^ q%2:Nat):Int)=1))) with | .bool true=>0 | _=>farN w.heap.size (8*s.size) x2)<farN w.heap.size (8*s.size) wr):=by
     show _<_
     rw [unhide HFar]
     have:=(unhide Hq).1
     simp only [Bool.false_eq_true,if_false]
     cases hl:decide (((numB s/2 ^ q%2:Nat):Int)=1)
     ·
      simp only
      rw [r2.far]
      cases f2'
      ·
       have:=m2.1 rfl
       simp only [Bool.false_eq_true,if_false]
       omega
      ·
       simp only [if_true]
       omega
     ·
      simp only
      omega
    generalize decide (((numB s/2 ^ q%2:Nat):Int)=1)=l2 at *
    have HY:Hid (BOwn x2 (w.heap.size+1) v2 T2∧RF x2 w.heap.size s q2 f2'∧Below w.heap.size w x2∧GmI (8*s.size) (numB s) D T2 q2 f2' l2):=⟨o2,r2,(unhide HB).trans k2.1,hI2⟩
    clear k2 o2 r2 m2 hI2 HC
    go_wp2_with fail
    go_roundw
    case rel=>exact ⟨T2,q2,f2',l2,rfl,(unhide HY).1,(unhide HY).2.1,(unhide HY).2.2.1,(unhide HY).2.2.2⟩
    case measure=>exact unhide HF2
   ·
    have hq:=(unhide HI).1 rfl
    have HW:=hide (whole_rf w.heap.size q false s wr (unhide HR) hq.1 (by have:=unhide HN; omega))
    have Hq:=hide hq
    have hmI:(m:Int)≤100000:=by have:=unhide Hm; have:=unhide HN; omega
    have hR:Hid (restG (numB s) q=if numB s/2 ^ q%2 ^ ((8-q%8)%8)=0 then some (q+(8-q%8)%8) else none):=rfl
    obtain ⟨Q,hQ⟩:∃ Q,q+(8-q%8)%8=Q:=⟨_,rfl⟩
    have hQs:Q≤8*s.size:=by omega
    rw [hQ] at HW hR
    clear hq hQ
    by_cases hc1:numB s/2 ^ q%2 ^ ((8-q%8)%8)=0
    ·
     rw [decide_eq_true hc1] at HW
     rw [if_pos hc1] at hR
     clear hc1
     by_cases hm3:m≤300
     ·
      have HV:Hid (wholeG (numB s) (8*s.size) 0 []=some (T,Q)):=by
       show _=_
       rw [unhide HG,(unhide HI).2.2.1 rfl (by rw [unhide Hm]; exact hm3) rfl]
       simp only [Option.bind_some]
       rw [unhide hR]
       rfl
      go_wp2_with fail
      refine (unhide HW).mono ?_
      rintro e x2 ⟨rfl,r2,k2⟩
      obtain ⟨c3,f3⟩:=r2.bad
      have c1:x2.cell? ⟨w.heap.size,1,none⟩=some (.int .i64 (Q:Int)):=by have:=r2.2.1; rwa [Nat.min_eq_left hQs] at this
      have o2:=(unhide HO).keep1 k2 (Nat.lt_succ_self _)
      have hT':(convert 22 9 (.slice va m vc)).run Tryz.prog x2.drew = .ok (.string ⟨T.toArray⟩) x2.drew:=BOwn.text (w:=x2.drew) o2
      have c1':x2.drew.cell? ⟨w.heap.size,1,none⟩=some (.int .i64 (Q:Int)):=c1
      have hQI:(Q:Int)≤16000:=by have:=unhide HN; omega
      have HB2:=hide ((unhide HB).trans k2.1)
      clear HW r2 k2 o2 HR HO
      go_wp2_with fail
      refine wp_region_held_drew (S:=fun W=>W=x2.drew) hmix rfl (fun hS=>?_)
      refine wpAnyH_take (i:=0) (v:=.slice va m vc) rfl (by kernel_rfl) (by kernel_rfl) (by kernel_rfl) (fun _ _ _ h=>h) (Or.inl ⟨by rfl,fun W hSw=>by subst hSw; go_simp⟩) hS ?_
      refine wpAnyH_take (i:=1) (v:=.string ⟨T.toArray⟩) rfl (by kernel_rfl) (by kernel_rfl) (by kernel_rfl) (fun _ _ _ h=>h) (Or.inl ⟨by rfl,fun W hSw=>by subst hSw; go_simp⟩) hS ?_
      refine wpAnyH_take (i:=2) (v:=.pointer (some ⟨w.heap.size,0,none⟩)) rfl (by kernel_rfl) (by kernel_rfl) (by kernel_rfl) (fun _ _ _ h=>h) (Or.inl ⟨by rfl,fun W hSw=>by subst hSw; go_simp⟩) hS ?_
      refine wpAnyH_take (i:=3) (v:=.pointer (some ⟨w.heap.size,0,none⟩)) rfl (by kernel_rfl) (by kernel_rfl) (by kernel_rfl) (fun _ _ _ h=>h) (Or.inl ⟨by rfl,fun W hSw=>by subst hSw; go_simp⟩) hS ?_
      refine wpAnyH_take (i:=4) (v:=.pointer (some ⟨w.heap.size,1,none⟩)) rfl (by kernel_rfl) (by kernel_rfl) (by kernel_rfl) (fun _ _ _ h=>h) (Or.inl ⟨by rfl,fun W hSw=>by subst hSw; go_simp⟩) hS ?_
      refine wpAnyH_take (i:=5) (v:=.int .i64 (Q:Int)) rfl (by kernel_rfl) (by kernel_rfl) (by kernel_rfl) (fun _ _ _ h=>h) (Or.inl ⟨by rfl,fun W hSw=>by subst hSw; go_simp⟩) hS ?_
      refine wpAnyH_take (i:=6) (v:=.int .i64 ((Q/8:Nat):Int)) rfl (by kernel_rfl) (by kernel_rfl) (by kernel_rfl) (fun _ _ _ h=>h) (Or.inl ⟨by rfl,fun W hSw=>by subst hSw; go_simp; rw [IntKind.wrap_i64]; omega⟩) hS ?_
      refine wpAnyH_ready (rs:=[7]) (by kernel_rfl) (by simp) ?_
      refine AllReadyH.cons rfl (fun K hK=>?_) AllReadyH.nil
      go_simp
      refine Shut.out hK _ _ rfl (fun hS=>?_)
      clear hK K
      refine wpAnyH_ready (rs:=[8]) (by kernel_rfl) (by simp) ?_
      refine AllReadyH.cons rfl (fun K hK=>?_) AllReadyH.nil
      go_simp
      refine Shut.out hK _ _ rfl (fun hS=>?_)
      clear hK K
      refine wpAnyH_ready (rs:=[9]) (by kernel_rfl) (by simp) ?_
      refine AllReadyH.cons rfl (fun K hK=>?_) AllReadyH.nil
      go_simp
      refine Shut.out hK _ _ rfl (fun hS=>?_)
      clear hK K
      refine wpAnyH_done (by kernel_rfl) ?_ _
      go_wp2
      go_ret3
      exact ⟨by rw [unhide HV]; rfl,(unhide HB2).drew⟩
     ·
      have hm3I:(300:Int)<(m:Int):=by omega
      have HV:Hid (wholeG (numB s) (8*s.size) 0 []=none):=by
       show _=_
       rw [unhide HG,(unhide HI).2.2.2 (.inr (by rw [unhide Hm]; omega))]
       rfl
      go_wp2_with fail
      refine (unhide HW).mono ?_
      rintro e x2 ⟨rfl,r2,k2⟩
      obtain ⟨c3,f3⟩:=r2.bad
      have HB2:=hide ((unhide HB).trans k2.1)
      clear HW r2 k2
      go_wp2
      go_ret3
      exact ⟨by rw [unhide HV]; rfl,unhide HB2⟩
    ·
     rw [decide_eq_false hc1] at HW
     rw [if_neg hc1] at hR
     clear hc1
     have HV:Hid (wholeG (numB s) (8*s.size) 0 []=none):=by
      show _=_
      rw [unhide HG]
      by_cases hm3:m≤300
      ·
       rw [(unhide HI).2.2.1 rfl (by rw [unhide Hm]; exact hm3) rfl]
       simp only [Option.bind_some]
       rw [unhide hR]
       rfl
      ·
       rw [(unhide HI).2.2.2 (.inr (by rw [unhide Hm]; omega))]
       rfl
     go_wp2_with fail
     refine (unhide HW).mono ?_
     rintro e x2 ⟨rfl,r2,k2⟩
     obtain ⟨c3,f3⟩:=r2.bad
     have HB2:=hide ((unhide HB).trans k2.1)
     clear HW r2 k2
     go_wp2
     go_ret3
     exact ⟨by rw [unhide HV]; rfl,unhide HB2⟩
  ·
   have HV:Hid (wholeG (numB s) (8*s.size) 0 []=none):=by
    show _=_
    rw [unhide HG,(unhide HI).2.2.2 (.inl rfl)]
    rfl
   obtain ⟨q0,hq0,hr0⟩:=(unhide HR).cut
   have HW:=hide (whole_rf w.heap.size q0 true s wr hr0 hq0 (by have:=unhide HN; omega))
   clear hr0 hq0
   cases l
   ·
    go_wp2_with fail
    refine (unhide HW).mono ?_
    rintro e x2 ⟨rfl,r2,k2⟩
    obtain ⟨c3,f3⟩:=r2.bad
    have HB2:=hide ((unhide HB).trans k2.1)
    clear HW r2 k2
    go_wp2
    go_ret3
    exact ⟨by rw [unhide HV]; rfl,unhide HB2⟩
   ·
    go_wp2_with fail
    refine (unhide HW).mono ?_
    rintro e x2 ⟨rfl,r2,k2⟩
    obtain ⟨c3,f3⟩:=r2.bad
    have HB2:=hide ((unhide HB).trans k2.1)
    clear HW r2 k2
    go_wp2
    go_ret3
    exact ⟨by rw [unhide HV]; rfl,unhide HB2⟩
set_option maxRecDepth 100000 in
theorem specFlateGet_any (s:ByteArray) (w:World) (hs:s.size≤9223372036854775807) :
  Calls Tryz.prog 151 #[.string s] w fun e w'=>e = .returned (getV (flateG s))∧Below w.heap.size w w':=by
 by_cases hc:s.size≤700
 ·
  have HU:=hide (l5Get_any s w (by omega))
  have e:flateG s=wholeG (numB s) (8*s.size) 0 []:=if_pos hc
  rw [←e] at HU
  have hcI:¬ (700:Int)<(s.size:Int):=by omega
  clear e hs hc
  generalize flateG s=d at *
  rcases d with _ | ⟨T,q⟩
  ·
   unfold getV at HU ⊢
   simp only at HU ⊢
   go_enter Tryz.func151,Tryz.ntmps151
   go_wp2_with fail
   refine (unhide HU).mono ?_
   rintro e x1 ⟨rfl,b1⟩
   have HB:=hide b1
   clear b1 HU
   go_wp2
   go_ret3
   exact ⟨rfl,unhide HB⟩
  ·
   unfold getV at HU ⊢
   simp only at HU ⊢
   go_enter Tryz.func151,Tryz.ntmps151
   go_wp2_with fail
   refine (unhide HU).mono ?_
   rintro e x1 ⟨rfl,b1⟩
   have HB:=hide b1
   clear b1 HU
   go_wp2
   go_ret3
   exact ⟨rfl,unhide HB⟩
 ·
  have e:flateG s=none:=if_neg hc
  rw [e]
  have hcI:(700:Int)<(s.size:Int):=by omega
  clear hs hc e
  unfold getV
  simp only
  go_enter Tryz.func151,Tryz.ntmps151
  go_wp2
  go_ret3
  exact ⟨rfl,Below.refl _ _⟩
end Go.Proofs.YtkdlcomfpffhhaaGreatDoor
