/- Unpacking, the program's: all parts. -/
import Derived.Test.YtemjckkocljgnaaGreatDoorM24
import Derived.Test.YtemjckkocljgnaaGreatDoorM20
import Derived.Test.YtemjckkocljgnaaGreatDoorM5
namespace Go.Proofs.YtemjckkocljgnaaGreatDoor
open Go.RowKit Corb
theorem MapB.ku {w w':World} {b g:Nat} {es:List (Int×Value)} (h:MapB w g es) (hk:KU b w w') (hne:g≠b):MapB w' g es:=by
 unfold MapB at h ⊢
 have hlt:g<w.heap.size:=(Array.getElem?_eq_some_iff.1 h).1
 rw [hk.2 g hlt hne (by intro cur fr hc; rw [h] at hc; cases hc)]
 exact h
def kindsM:List (Int×Value):=[(0,.func (.func 153) #[] #[]),(1,.func (.func 154) #[] #[]),(2,.func (.func 155) #[] #[])]
theorem storeG_bd' {V sz p q:Nat} {T T':List UInt8} (h:storeG V sz p T=some (T',q)):q≤sz∧p≤q∧(T.length≤300→T'.length≤300):=storeG_bd h
theorem fixG_bd' {V sz p q:Nat} {T T':List UInt8} (h:fixG V sz p T=some (T',q)):q≤sz∧p≤q∧(T.length≤300→T'.length≤300):=by
 have:=tokG_bd h
 exact ⟨this.1,by omega,this.2.2⟩
theorem ownG_bd' {V sz p q:Nat} {T T':List UInt8} (h:ownG V sz p T=some (T',q)):q≤sz∧p≤q∧(T.length≤300→T'.length≤300):=ownG_bd h
def zeroF:Value:=.nilFunc
theorem zero_func (W:World):(zeroValue 217).run Tryz.prog W = .ok zeroF W:=by kernel_rfl
def PtI (b:Nat) (s:ByteArray) (d:Option (List UInt8×Nat)) (w:World) (v:Value) (wr:World):Prop:=
 ∃ (l:Bool) (p:Nat) (T:List UInt8),v = .bool l∧KU b w wr∧Sou wr b s p T∧T.length≤300∧p≤8*s.size∧MapB wr w.heap.size kindsM∧(if l=true then some (T,p) else partsG (numB s) (8*s.size) p T)=d
theorem below_putObj' {B:Nat} {a w:World} {b:Nat} (h:Below B a w) (hb:B≤b) (o:Obj):Below B a (w.putObj b o):=by
 refine h.trans ⟨rfl,rfl,rfl,by simp [World.putObj],fun k hk=>?_⟩
 have:k≠b:=by omega
 simp [World.putObj,Ne.symm this]
set_option maxRecDepth 100000 in
set_option maxHeartbeats 3200000 in
theorem parts_any (b p:Nat) (s:ByteArray) (T:List UInt8) (w:World) (h:Sou w b s p T) (hT:T.length≤300) (hp:p≤8*s.size) (hs:s.size≤2000000) (hO:OrdC w) (hb:5<b) :
  Calls Tryz.prog 138 #[.pointer (some ⟨b,0,none⟩)] w (LayP w b s (wholeG (numB s) (8*s.size) p T)):=by
 have hmm:=@run_makeMap Tryz.prog
 have hu:=Tryz.underlying218
 have hk:=Tryz.underlying3
 obtain ⟨d,hd⟩:∃ d,partsG (numB s) (8*s.size) p T=d:=⟨_,rfl⟩
 unfold wholeG
 rw [hd]
 have hlt:=h.lt
 have hne:w.heap.size≠b:=by omega
 have m0:=map_new w
 obtain ⟨w1,r1,m1,e1⟩:=map_put hu hk _ _ _ 0 (.func (.func 153) #[] #[]) m0 (by simp)
 obtain ⟨w2,r2,m2,e2⟩:=map_put hu hk _ _ _ 1 (.func (.func 154) #[] #[]) m1 (by simp)
 obtain ⟨w3,r3,m3,e3⟩:=map_put hu hk _ _ _ 2 (.func (.func 155) #[] #[]) m2 (by simp)
 have z1:w1.heap.size=w.heap.size+1:=by rw [e1]; simp [World.putObj]
 have z2:w2.heap.size=w.heap.size+1:=by rw [e2]; simpa [World.putObj] using z1
 have hB1:Below w.heap.size w w1:=by rw [e1]; exact below_putObj' ((Below.refl _ w).alloc (Nat.le_refl _) _) (Nat.le_refl _) _
 have hB2:Below w.heap.size w w2:=by rw [e2]; exact below_putObj' hB1 (Nat.le_refl _) _
 have hB3:Below w.heap.size w w3:=by rw [e3]; exact below_putObj' hB2 (Nat.le_refl _) _
 simp only [List.nil_append,List.cons_append] at m3
 have HI:Hid (PtI b s d w (.bool false) w3):=⟨false,p,T,rfl,(KU.refl b w).later hB3 hlt,h.later hB3,hT,hp,m3,by simpa using hd⟩
 have HG:=hide (fun W k v (h:MapB W w.heap.size kindsM) hm=>map_get hu hk W w.heap.size _ k v true h hm (by decide))
 have HGn:=hide (fun W (h:MapB W w.heap.size kindsM)=>map_none hu hk W w.heap.size _ 3 _ h (by decide) (zero_func W))
 have HN:=hide (And.intro hs (And.intro hO (And.intro hb hlt)))
 clear e1 e2 e3 z1 z2 hB1 hB2 hB3 m0 m1 m2 m3 hu hk hs hO hb hT hp h hd
 go_enter Tryz.func138,Tryz.ntmps138
 go_wp2_with fail
 clear r1 r2 r3 hmm
 go_loopw [3,4,5] (fun v _ _ wr=>PtI b s d w v wr) (fun _ _ _ wr=>8*s.size-placeN b wr)
 case atStart=>exact unhide HI
 case round=>
  obtain ⟨l,p,T,rfl,hku,hsou,hT,hp,hM,hd⟩:=hrel
  clear HI
  have HX:=hide (And.intro hku (And.intro hsou (And.intro hT (And.intro hp hM))))
  have HPl:=hide (hsou.place hp)
  have HD:=hide hd
  clear hku hsou hT hp hM hd
  cases l
  ·
   simp only [Bool.false_eq_true,if_false] at HD
   rw [partsG_step] at HD
   have HM:=hide (number_any b p 1 s wr (unhide HX).2.1.1 (unhide HN).1 (by omega))
   unfold NumP at HM
   rcases h1:rdN (numB s) (8*s.size) p 1 with _ | ⟨a,q1⟩
   ·
    rw [h1] at HM HD
    have Hn:Hid (d=none):=by show d=none; rw [←unhide HD]; rfl
    clear h1 HD
    go_wp2_with fail
    refine (unhide HM).mono ?_
    rintro e x1 ⟨k1,rfl⟩
    refine ⟨rfl,?_⟩; unfold LayP; rw [unhide Hn]; exact ⟨(unhide HX).1.trans k1.ku,rfl⟩
   rw [h1] at HM HD
   simp only [Option.bind_some] at HD
   have Hb1:=hide (rdN_bd h1)
   have HA:Hid (((a:Int) == 1)=decide (a=1)):=by show _=_; rw [Bool.eq_iff_iff]; simp; omega
   clear h1
   go_wp2_with fail
   refine (unhide HM).mono ?_
   rintro e x1 ⟨k1,rfl,r1⟩
   have HX1:=hide (And.intro ((unhide HX).1.trans k1.ku) (And.intro ((unhide HX).2.1.keep1 k1 r1) ((unhide HX).2.2.2.2.ku k1.ku hne)))
   clear k1 r1 HM
   obtain ⟨l,hl⟩:∃ l,((a:Int) == 1)=l:=⟨_,rfl⟩
   have Hl:Hid (l=decide (a=1)):=by show _=_; rw [←hl]; exact unhide HA
   have HM:=hide (number_any b q1 2 s x1 (unhide HX1).2.1.1 (unhide HN).1 (by omega))
   unfold NumP at HM
   rcases h2:rdN (numB s) (8*s.size) q1 2 with _ | ⟨k,q2⟩
   ·
    rw [h2] at HM HD
    have Hn:Hid (d=none):=by show d=none; rw [←unhide HD]; rfl
    clear h2 HD
    go_wp2_with fail
    refine (unhide HM).mono ?_
    rintro e x2 ⟨k2,rfl⟩
    refine ⟨rfl,?_⟩; unfold LayP; rw [unhide Hn]; exact ⟨(unhide HX1).1.trans k2.ku,rfl⟩
   rw [h2] at HM HD
   simp only [Option.bind_some] at HD
   have Hb2:=hide (rdN_bd h2)
   have hk4:k<4:=by have:=(rdN_bd h2).2.2.2; omega
   clear h2
   go_wp2_with fail
   refine (unhide HM).mono ?_
   rintro e x2 ⟨k2,rfl,r2⟩
   have HX2:=hide (And.intro ((unhide HX1).1.trans k2.ku) (And.intro ((unhide HX1).2.1.keep1 k2 r2) ((unhide HX1).2.2.ku k2.ku hne)))
   have HO2:Hid (OrdC x2):=(unhide HN).2.1.below (unhide HX2).1.1 (unhide HN).2.2.1
   clear k2 r2 HM HX1 hl HA
   have e4:k=0∨k=1∨k=2∨k=3:=by omega
   clear hk4
   rcases e4 with hk | hk | hk | hk
   ·
    have hkI:(k:Int)=0:=by omega
    have g1:(Instr.lookup 218 (.map (some w.heap.size)) (.int .i64 (k:Int)) true).run Tryz.prog x2 = .ok (.tuple #[.func (.func 153) #[] #[],.bool true]) x2:=by rw [hkI]; exact unhide HG x2 0 (.func (.func 153) #[] #[]) (unhide HX2).2.2 (by unfold kindsM; simp)
    have HK:Hid (kindG (numB s) (8*s.size) k q2 T=storeG (numB s) (8*s.size) q2 T):=by show _=_; rw [hk]; unfold kindG; simp
    rw [unhide HK] at HD
    have HC:=hide (storePart_any b q2 s T x2 (unhide HX2).2.1 (unhide HX).2.2.1 (unhide Hb2).1 (unhide HN).1)
    unfold LayP at HC
    clear hkI HK hk
    go_wp2_with fail
    refine (need_yes _).mono ?_
    rintro e x3 ⟨rfl,hx3⟩
    rw [hx3]
    clear hx3 x3 g1
    rcases h3:storeG (numB s) (8*s.size) q2 T with _ | ⟨T',q3⟩
    ·
     rw [h3] at HC HD
     have Hn:Hid (d=none):=by show d=none; rw [←unhide HD]; rfl
     clear h3 HD
     go_wp2_with fail
     refine (unhide HC).mono ?_
     rintro e x4 ⟨k4,rfl⟩
     refine ⟨rfl,?_⟩; unfold LayP; rw [unhide Hn]; exact ⟨(unhide HX2).1.trans k4,rfl⟩
    rw [h3] at HC HD
    simp only [Option.bind_some] at HD
    have Hb3:Hid (q3≤8*s.size∧q2≤q3∧(T.length≤300→T'.length≤300)):=storeG_bd' h3
    clear h3
    go_wp2_with fail
    refine (unhide HC).mono ?_
    rintro e x4 ⟨k4,rfl,s4⟩
    have HI:Hid (PtI b s d w (.bool l) x4):=⟨l,q3,T',rfl,(unhide HX2).1.trans k4,s4,(unhide Hb3).2.2 (unhide HX).2.2.1,(unhide Hb3).1,(unhide HX2).2.2.ku k4 hne,by rw [unhide Hl]; simpa using unhide HD⟩
    have HP4:=hide (s4.place (unhide Hb3).1)
    have Hlt:Hid (p<q3∧q3≤8*s.size):=⟨by have:=unhide Hb1; have:=unhide Hb2; have:=unhide Hb3; omega,(unhide Hb3).1⟩
    clear k4 s4 HC HX2 HX
    go_wp2_with fail
    go_roundw
    case rel=>exact unhide HI
    case measure=>rw [unhide HP4,unhide HPl]; have:=unhide Hlt; omega
   ·
    have hkI:(k:Int)=1:=by omega
    have g1:(Instr.lookup 218 (.map (some w.heap.size)) (.int .i64 (k:Int)) true).run Tryz.prog x2 = .ok (.tuple #[.func (.func 154) #[] #[],.bool true]) x2:=by rw [hkI]; exact unhide HG x2 1 (.func (.func 154) #[] #[]) (unhide HX2).2.2 (by unfold kindsM; simp)
    have HK:Hid (kindG (numB s) (8*s.size) k q2 T=fixG (numB s) (8*s.size) q2 T):=by show _=_; rw [hk]; unfold kindG; simp
    rw [unhide HK] at HD
    have HC:=hide (fixedPart_any b q2 s T x2 (unhide HX2).2.1 (unhide HX).2.2.1 (unhide Hb2).1 (unhide HN).1)
    unfold LayP at HC
    clear hkI HK hk
    go_wp2_with fail
    refine (need_yes _).mono ?_
    rintro e x3 ⟨rfl,hx3⟩
    rw [hx3]
    clear hx3 x3 g1
    rcases h3:fixG (numB s) (8*s.size) q2 T with _ | ⟨T',q3⟩
    ·
     rw [h3] at HC HD
     have Hn:Hid (d=none):=by show d=none; rw [←unhide HD]; rfl
     clear h3 HD
     go_wp2_with fail
     refine (unhide HC).mono ?_
     rintro e x4 ⟨k4,rfl⟩
     refine ⟨rfl,?_⟩; unfold LayP; rw [unhide Hn]; exact ⟨(unhide HX2).1.trans k4,rfl⟩
    rw [h3] at HC HD
    simp only [Option.bind_some] at HD
    have Hb3:Hid (q3≤8*s.size∧q2≤q3∧(T.length≤300→T'.length≤300)):=fixG_bd' h3
    clear h3
    go_wp2_with fail
    refine (unhide HC).mono ?_
    rintro e x4 ⟨k4,rfl,s4⟩
    have HI:Hid (PtI b s d w (.bool l) x4):=⟨l,q3,T',rfl,(unhide HX2).1.trans k4,s4,(unhide Hb3).2.2 (unhide HX).2.2.1,(unhide Hb3).1,(unhide HX2).2.2.ku k4 hne,by rw [unhide Hl]; simpa using unhide HD⟩
    have HP4:=hide (s4.place (unhide Hb3).1)
    have Hlt:Hid (p<q3∧q3≤8*s.size):=⟨by have:=unhide Hb1; have:=unhide Hb2; have:=unhide Hb3; omega,(unhide Hb3).1⟩
    clear k4 s4 HC HX2 HX
    go_wp2_with fail
    go_roundw
    case rel=>exact unhide HI
    case measure=>rw [unhide HP4,unhide HPl]; have:=unhide Hlt; omega
   ·
    have hkI:(k:Int)=2:=by omega
    have g1:(Instr.lookup 218 (.map (some w.heap.size)) (.int .i64 (k:Int)) true).run Tryz.prog x2 = .ok (.tuple #[.func (.func 155) #[] #[],.bool true]) x2:=by rw [hkI]; exact unhide HG x2 2 (.func (.func 155) #[] #[]) (unhide HX2).2.2 (by unfold kindsM; simp)
    have HK:Hid (kindG (numB s) (8*s.size) k q2 T=ownG (numB s) (8*s.size) q2 T):=by show _=_; rw [hk]; unfold kindG; simp
    rw [unhide HK] at HD
    have HC:=hide (ownPart_any b q2 s T x2 (unhide HX2).2.1 (unhide HX).2.2.1 (unhide HN).1 (unhide HO2) (unhide HN).2.2.1)
    unfold LayP at HC
    clear hkI HK hk
    go_wp2_with fail
    refine (need_yes _).mono ?_
    rintro e x3 ⟨rfl,hx3⟩
    rw [hx3]
    clear hx3 x3 g1
    rcases h3:ownG (numB s) (8*s.size) q2 T with _ | ⟨T',q3⟩
    ·
     rw [h3] at HC HD
     have Hn:Hid (d=none):=by show d=none; rw [←unhide HD]; rfl
     clear h3 HD
     go_wp2_with fail
     refine (unhide HC).mono ?_
     rintro e x4 ⟨k4,rfl⟩
     refine ⟨rfl,?_⟩; unfold LayP; rw [unhide Hn]; exact ⟨(unhide HX2).1.trans k4,rfl⟩
    rw [h3] at HC HD
    simp only [Option.bind_some] at HD
    have Hb3:Hid (q3≤8*s.size∧q2≤q3∧(T.length≤300→T'.length≤300)):=ownG_bd' h3
    clear h3
    go_wp2_with fail
    refine (unhide HC).mono ?_
    rintro e x4 ⟨k4,rfl,s4⟩
    have HI:Hid (PtI b s d w (.bool l) x4):=⟨l,q3,T',rfl,(unhide HX2).1.trans k4,s4,(unhide Hb3).2.2 (unhide HX).2.2.1,(unhide Hb3).1,(unhide HX2).2.2.ku k4 hne,by rw [unhide Hl]; simpa using unhide HD⟩
    have HP4:=hide (s4.place (unhide Hb3).1)
    have Hlt:Hid (p<q3∧q3≤8*s.size):=⟨by have:=unhide Hb1; have:=unhide Hb2; have:=unhide Hb3; omega,(unhide Hb3).1⟩
    clear k4 s4 HC HX2 HX
    go_wp2_with fail
    go_roundw
    case rel=>exact unhide HI
    case measure=>rw [unhide HP4,unhide HPl]; have:=unhide Hlt; omega
   ·
    have hkI:(k:Int)=3:=by omega
    have g1:(Instr.lookup 218 (.map (some w.heap.size)) (.int .i64 (k:Int)) true).run Tryz.prog x2 = .ok (.tuple #[zeroF,.bool false]) x2:=by rw [hkI]; exact unhide HGn x2 (unhide HX2).2.2
    have Hn:Hid (d=none):=by show d=none; rw [←unhide HD,hk]; unfold kindG; simp
    clear hkI hk HD
    unfold zeroF at g1
    go_wp2_with fail
    refine (need_no _).mono ?_
    rintro e x3 ⟨rfl,hx3⟩
    rw [hx3]
    clear hx3 x3
    refine ⟨rfl,?_⟩; unfold LayP; rw [unhide Hn]; exact ⟨(unhide HX2).1,rfl⟩
  ·
   simp only [if_true] at HD
   have HC:=hide (wholeByte_any b p s wr (unhide HX).2.1.1 (unhide HN).1 (unhide HX).2.2.2.1)
   rcases h1:restG (numB s) p with _ | q
   ·
    rw [h1] at HC
    have H1:=hide h1
    clear h1
    go_wp2_with fail
    refine (unhide HC).mono ?_
    rintro e x1 ⟨k1,rfl⟩
    refine ⟨rfl,?_⟩; unfold LayP; rw [←unhide HD]; simp only [Option.bind_some]; rw [unhide H1]; exact ⟨(unhide HX).1.trans k1.ku,rfl⟩
   ·
    rw [h1] at HC
    have H1:=hide h1
    clear h1
    go_wp2_with fail
    refine (unhide HC).mono ?_
    rintro e x1 ⟨k1,rfl,r1⟩
    have HY:=hide (And.intro ((unhide HX).1.trans k1.ku) ((unhide HX).2.1.keep1 k1 r1))
    clear k1 r1 HC HX
    go_wp2
    go_end0
    unfold LayP
    rw [←unhide HD]
    simp only [Option.bind_some]
    rw [unhide H1]
    exact ⟨(unhide HY).1,trivial,(unhide HY).2⟩
end Go.Proofs.YtemjckkocljgnaaGreatDoor
