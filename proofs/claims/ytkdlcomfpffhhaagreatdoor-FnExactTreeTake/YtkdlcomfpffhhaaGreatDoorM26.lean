/- Of what the proof is made: 4 texts, one behind the other. -/
import Derived.Test.YtkdlcomfpffhhaaGreatDoorM22
import Derived.Test.YtkdlcomfpffhhaaGreatDoorM19
import Derived.Test.YtkdlcomfpffhhaaGreatDoorM4
import Derived.Test.YtkdlcomfpffhhaaGreatDoorM8
import Derived.Test.YtkdlcomfpffhhaaGreatDoorM18
import Derived.Test.YtkdlcomfpffhhaaGreatDoorM3
import Derived.Sort.Walk0
namespace Go.Proofs.YtkdlcomfpffhhaaGreatDoor
open Go.RowKit Corb
theorem MapB.ku {w w':World} {b g:Nat} {es:List (Int×Value)} (h:MapB w g es) (hk:KU b w w') (hne:g≠b):MapB w' g es:=by
 unfold MapB at h ⊢
 have hlt:g<w.heap.size:=(Array.getElem?_eq_some_iff.1 h).1
 rw [hk.2 g hlt hne (by intro cur fr hc; rw [h] at hc; cases hc)]
 exact h
def kindsM:List (Int×Value):=[(0,.func (.func 246) #[] #[]),(1,.func (.func 247) #[] #[]),(2,.func (.func 248) #[] #[])]
theorem storeG_bd' {V sz p q:Nat} {T T':List UInt8} (h:storeG V sz p T=some (T',q)):q≤sz∧p≤q∧(T.length≤300→T'.length≤300):=storeG_bd h
theorem fixG_bd' {V sz p q:Nat} {T T':List UInt8} (h:fixG V sz p T=some (T',q)):q≤sz∧p≤q∧(T.length≤300→T'.length≤300):=by
 have:=tokG_bd h
 exact ⟨this.1,by omega,this.2.2⟩
theorem ownG_bd' {V sz p q:Nat} {T T':List UInt8} (h:ownG V sz p T=some (T',q)):q≤sz∧p≤q∧(T.length≤300→T'.length≤300):=ownG_bd h
def zeroF:Value:=.nilFunc
theorem zero_func (W:World):(zeroValue 332).run Tryz.prog W = .ok zeroF W:=by kernel_rfl
def PtI (b:Nat) (s:ByteArray) (d:Option (List UInt8×Nat)) (w:World) (v:Value) (wr:World):Prop:=
 ∃ (l:Bool) (p:Nat) (T:List UInt8),v = .bool l∧KU b w wr∧Sou wr b s p T∧T.length≤300∧p≤8*s.size∧MapB wr w.heap.size kindsM∧(if l=true then some (T,p) else partsG (numB s) (8*s.size) p T)=d
theorem below_putObj' {B:Nat} {a w:World} {b:Nat} (h:Below B a w) (hb:B≤b) (o:Obj):Below B a (w.putObj b o):=by
 refine h.trans ⟨rfl,rfl,rfl,by simp [World.putObj],fun k hk=>?_⟩
 have:k≠b:=by omega
 simp [World.putObj,Ne.symm this]
set_option maxRecDepth 100000 in
set_option maxHeartbeats 3200000 in
theorem parts_any (b p:Nat) (s:ByteArray) (T:List UInt8) (w:World) (h:Sou w b s p T) (hT:T.length≤300) (hp:p≤8*s.size) (hs:s.size≤2000000) (hO:OrdC w) (hb:1<b) :
  Calls Tryz.prog 224 #[.pointer (some ⟨b,0,none⟩)] w (LayP w b s (wholeG (numB s) (8*s.size) p T)):=by
 have hmm:=@run_makeMap Tryz.prog
 have hu:=Tryz.underlying333
 have hk:=Tryz.underlying3
 obtain ⟨d,hd⟩:∃ d,partsG (numB s) (8*s.size) p T=d:=⟨_,rfl⟩
 unfold wholeG
 rw [hd]
 have hlt:=h.lt
 have hne:w.heap.size≠b:=by omega
 have m0:=map_new w
 obtain ⟨w1,r1,m1,e1⟩:=map_put hu hk _ _ _ 0 (.func (.func 246) #[] #[]) m0 (by simp)
 obtain ⟨w2,r2,m2,e2⟩:=map_put hu hk _ _ _ 1 (.func (.func 247) #[] #[]) m1 (by simp)
 obtain ⟨w3,r3,m3,e3⟩:=map_put hu hk _ _ _ 2 (.func (.func 248) #[] #[]) m2 (by simp)
 have hB1:Below w.heap.size w w1:=by rw [e1]; exact below_putObj' ((Below.refl _ w).alloc (Nat.le_refl _) _) (Nat.le_refl _) _
 have hB2:Below w.heap.size w w2:=by rw [e2]; exact below_putObj' hB1 (Nat.le_refl _) _
 have hB3:Below w.heap.size w w3:=by rw [e3]; exact below_putObj' hB2 (Nat.le_refl _) _
 simp only [List.nil_append,List.cons_append] at m3
 have HI:Hid (PtI b s d w (.bool false) w3):=⟨false,p,T,rfl,(KU.refl b w).later hB3 hlt,h.later hB3,hT,hp,m3,by simpa using hd⟩
 have HG:=hide (fun W k v (h:MapB W w.heap.size kindsM) hm=>map_get hu hk W w.heap.size _ k v true h hm (by decide))
 have HGn:=hide (fun W (h:MapB W w.heap.size kindsM)=>map_none hu hk W w.heap.size _ 3 _ h (by decide) (zero_func W))
 have HN:=hide (And.intro hs (And.intro hO (And.intro hb hlt)))
 clear e1 e2 e3 hB1 hB2 hB3 m0 m1 m2 m3 hu hk hs hO hb hT hp h hd
 go_enter Tryz.func224,Tryz.ntmps224
 go_wp2_with fail
 clear r1 r2 r3 hmm
 go_loopw [3,4,5] (fun v _ _ wr=>PtI b s d w v wr) (fun _ _ _ wr=>8*s.size-placeN b wr)
 case atStart=>exact unhide HI
 case round=>
  obtain ⟨l,p,T,rfl,hku,hsou,hT,hp,hM,hd⟩:=hrel
  clear HI
  have HX:=hide (And.intro hku (And.intro hsou (And.intro hT (And.intro hp hM))))
  have HPl:=hide (hsou.place hp)
  have HD:=hide hd
  clear hku hsou hT hp hM hd
  cases l
  ·
   simp only [Bool.false_eq_true,if_false] at HD
   rw [partsG_step] at HD
   have HM:=hide (number_any b p 1 s wr (unhide HX).2.1.1 (unhide HN).1 (by omega))
   unfold NumP at HM
   rcases h1:rdN (numB s) (8*s.size) p 1 with _ | ⟨a,q1⟩
   ·
    rw [h1] at HM HD
    have Hn:Hid (d=none):=by show d=none; rw [←unhide HD]; rfl
    clear h1 HD
    go_wp2_with fail
    refine (unhide HM).mono ?_
    rintro e x1 ⟨k1,rfl⟩
    refine ⟨rfl,?_⟩; unfold LayP; rw [unhide Hn]; exact ⟨(unhide HX).1.trans k1.ku,rfl⟩
   rw [h1] at HM HD
   simp only [Option.bind_some] at HD
   have Hb1:=hide (rdN_bd h1)
   have HA:Hid (((a:Int) == 1)=decide (a=1)):=by show _=_; rw [Bool.eq_iff_iff]; simp; omega
   clear h1
   go_wp2_with fail
   refine (unhide HM).mono ?_
   rintro e x1 ⟨k1,rfl,r1⟩
   have HX1:=hide (And.intro ((unhide HX).1.trans k1.ku) (And.intro ((unhide HX).2.1.keep1 k1 r1) ((unhide HX).2.2.2.2.ku k1.ku hne)))
   clear k1 r1 HM
   obtain ⟨l,hl⟩:∃ l,((a:Int) == 1)=l:=⟨_,rfl⟩
   have Hl:Hid (l=decide (a=1)):=by show _=_; rw [←hl]; exact unhide HA
   have HM:=hide (number_any b q1 2 s x1 (unhide HX1).2.1.1 (unhide HN).1 (by omega))
   unfold NumP at HM
   rcases h2:rdN (numB s) (8*s.size) q1 2 with _ | ⟨k,q2⟩
   ·
    rw [h2] at HM HD
    have Hn:Hid (d=none):=by show d=none; rw [←unhide HD]; rfl
    clear h2 HD
    go_wp2_with fail
    refine (unhide HM).mono ?_
    rintro e x2 ⟨k2,rfl⟩
    refine ⟨rfl,?_⟩; unfold LayP; rw [unhide Hn]; exact ⟨(unhide HX1).1.trans k2.ku,rfl⟩
   rw [h2] at HM HD
   simp only [Option.bind_some] at HD
   have Hb2:=hide (rdN_bd h2)
   have hk4:k<4:=by have:=(rdN_bd h2).2.2.2; omega
   clear h2
   go_wp2_with fail
   refine (unhide HM).mono ?_
   rintro e x2 ⟨k2,rfl,r2⟩
   have HX2:=hide (And.intro ((unhide HX1).1.trans k2.ku) (And.intro ((unhide HX1).2.1.keep1 k2 r2) ((unhide HX1).2.2.ku k2.ku hne)))
   have HO2:Hid (OrdC x2):=(unhide HN).2.1.below (unhide HX2).1.1 (unhide HN).2.2.1
   clear k2 r2 HM HX1 hl HA
   have e4:k=0∨k=1∨k=2∨k=3:=by omega
   clear hk4
   rcases e4 with hk | hk | hk | hk
   ·
    have hkI:(k:Int)=0:=by omega
    have g1:(Instr.lookup 333 (.map (some w.heap.size)) (.int .i64 (k:Int)) true).run Tryz.prog x2 = .ok (.tuple #[.func (.func 246) #[] #[],.bool true]) x2:=by rw [hkI]; exact unhide HG x2 0 (.func (.func 246) #[] #[]) (unhide HX2).2.2 (by unfold kindsM; simp)
    have HK:Hid (kindG (numB s) (8*s.size) k q2 T=storeG (numB s) (8*s.size) q2 T):=by show _=_; rw [hk]; unfold kindG; simp
    rw [unhide HK] at HD
    have HC:=hide (storePart_any b q2 s T x2 (unhide HX2).2.1 (unhide HX).2.2.1 (unhide Hb2).1 (unhide HN).1)
    unfold LayP at HC
    clear hkI HK hk
    go_wp2_with fail
    refine (need_yes _).mono ?_
    rintro e x3 ⟨rfl,hx3⟩
    rw [hx3]
    clear hx3 x3 g1
    rcases h3:storeG (numB s) (8*s.size) q2 T with _ | ⟨T',q3⟩
    ·
     rw [h3] at HC HD
     have Hn:Hid (d=none):=by show d=none; rw [←unhide HD]; rfl
     clear h3 HD
     go_wp2_with fail
     refine (unhide HC).mono ?_
     rintro e x4 ⟨k4,rfl⟩
     refine ⟨rfl,?_⟩; unfold LayP; rw [unhide Hn]; exact ⟨(unhide HX2).1.trans k4,rfl⟩
    rw [h3] at HC HD
    simp only [Option.bind_some] at HD
    have Hb3:Hid (q3≤8*s.size∧q2≤q3∧(T.length≤300→T'.length≤300)):=storeG_bd' h3
    clear h3
    go_wp2_with fail
    refine (unhide HC).mono ?_
    rintro e x4 ⟨k4,rfl,s4⟩
    have HI:Hid (PtI b s d w (.bool l) x4):=⟨l,q3,T',rfl,(unhide HX2).1.trans k4,s4,(unhide Hb3).2.2 (unhide HX).2.2.1,(unhide Hb3).1,(unhide HX2).2.2.ku k4 hne,by rw [unhide Hl]; simpa using unhide HD⟩
    have HP4:=hide (s4.place (unhide Hb3).1)
    have Hlt:Hid (p<q3∧q3≤8*s.size):=⟨by have:=unhide Hb1; have:=unhide Hb2; have:=unhide Hb3; omega,(unhide Hb3).1⟩
    clear k4 s4 HC HX2 HX
    go_wp2_with fail
    go_roundw
    case rel=>exact unhide HI
    case measure=>rw [unhide HP4,unhide HPl]; have:=unhide Hlt; omega
   ·
    have hkI:(k:Int)=1:=by omega
    have g1:(Instr.lookup 333 (.map (some w.heap.size)) (.int .i64 (k:Int)) true).run Tryz.prog x2 = .ok (.tuple #[.func (.func 247) #[] #[],.bool true]) x2:=by rw [hkI]; exact unhide HG x2 1 (.func (.func 247) #[] #[]) (unhide HX2).2.2 (by unfold kindsM; simp)
    have HK:Hid (kindG (numB s) (8*s.size) k q2 T=fixG (numB s) (8*s.size) q2 T):=by show _=_; rw [hk]; unfold kindG; simp
    rw [unhide HK] at HD
    have HC:=hide (fixedPart_any b q2 s T x2 (unhide HX2).2.1 (unhide HX).2.2.1 (unhide Hb2).1 (unhide HN).1)
    unfold LayP at HC
    clear hkI HK hk
    go_wp2_with fail
    refine (need_yes _).mono ?_
    rintro e x3 ⟨rfl,hx3⟩
    rw [hx3]
    clear hx3 x3 g1
    rcases h3:fixG (numB s) (8*s.size) q2 T with _ | ⟨T',q3⟩
    ·
     rw [h3] at HC HD
     have Hn:Hid (d=none):=by show d=none; rw [←unhide HD]; rfl
     clear h3 HD
     go_wp2_with fail
     refine (unhide HC).mono ?_
     rintro e x4 ⟨k4,rfl⟩
     refine ⟨rfl,?_⟩; unfold LayP; rw [unhide Hn]; exact ⟨(unhide HX2).1.trans k4,rfl⟩
    rw [h3] at HC HD
    simp only [Option.bind_some] at HD
    have Hb3:Hid (q3≤8*s.size∧q2≤q3∧(T.length≤300→T'.length≤300)):=fixG_bd' h3
    clear h3
    go_wp2_with fail
    refine (unhide HC).mono ?_
    rintro e x4 ⟨k4,rfl,s4⟩
    have HI:Hid (PtI b s d w (.bool l) x4):=⟨l,q3,T',rfl,(unhide HX2).1.trans k4,s4,(unhide Hb3).2.2 (unhide HX).2.2.1,(unhide Hb3).1,(unhide HX2).2.2.ku k4 hne,by rw [unhide Hl]; simpa using unhide HD⟩
    have HP4:=hide (s4.place (unhide Hb3).1)
    have Hlt:Hid (p<q3∧q3≤8*s.size):=⟨by have:=unhide Hb1; have:=unhide Hb2; have:=unhide Hb3; omega,(unhide Hb3).1⟩
    clear k4 s4 HC HX2 HX
    go_wp2_with fail
    go_roundw
    case rel=>exact unhide HI
    case measure=>rw [unhide HP4,unhide HPl]; have:=unhide Hlt; omega
   ·
    have hkI:(k:Int)=2:=by omega
    have g1:(Instr.lookup 333 (.map (some w.heap.size)) (.int .i64 (k:Int)) true).run Tryz.prog x2 = .ok (.tuple #[.func (.func 248) #[] #[],.bool true]) x2:=by rw [hkI]; exact unhide HG x2 2 (.func (.func 248) #[] #[]) (unhide HX2).2.2 (by unfold kindsM; simp)
    have HK:Hid (kindG (numB s) (8*s.size) k q2 T=ownG (numB s) (8*s.size) q2 T):=by show _=_; rw [hk]; unfold kindG; simp
    rw [unhide HK] at HD
    have HC:=hide (ownPart_any b q2 s T x2 (unhide HX2).2.1 (unhide HX).2.2.1 (unhide HN).1 (unhide HO2) (unhide HN).2.2.1)
    unfold LayP at HC
    clear hkI HK hk
    go_wp2_with fail
    refine (need_yes _).mono ?_
    rintro e x3 ⟨rfl,hx3⟩
    rw [hx3]
    clear hx3 x3 g1
    rcases h3:ownG (numB s) (8*s.size) q2 T with _ | ⟨T',q3⟩
    ·
     rw [h3] at HC HD
     have Hn:Hid (d=none):=by show d=none; rw [←unhide HD]; rfl
     clear h3 HD
     go_wp2_with fail
     refine (unhide HC).mono ?_
     rintro e x4 ⟨k4,rfl⟩
     refine ⟨rfl,?_⟩; unfold LayP; rw [unhide Hn]; exact ⟨(unhide HX2).1.trans k4,rfl⟩
    rw [h3] at HC HD
    simp only [Option.bind_some] at HD
    have Hb3:Hid (q3≤8*s.size∧q2≤q3∧(T.length≤300→T'.length≤300)):=ownG_bd' h3
    clear h3
    go_wp2_with fail
    refine (unhide HC).mono ?_
    rintro e x4 ⟨k4,rfl,s4⟩
    have HI:Hid (PtI b s d w (.bool l) x4):=⟨l,q3,T',rfl,(unhide HX2).1.trans k4,s4,(unhide Hb3).2.2 (unhide HX).2.2.1,(unhide Hb3).1,(unhide HX2).2.2.ku k4 hne,by rw [unhide Hl]; simpa using unhide HD⟩
    have HP4:=hide (s4.place (unhide Hb3).1)
    have Hlt:Hid (p<q3∧q3≤8*s.size):=⟨by have:=unhide Hb1; have:=unhide Hb2; have:=unhide Hb3; omega,(unhide Hb3).1⟩
    clear k4 s4 HC HX2 HX
    go_wp2_with fail
    go_roundw
    case rel=>exact unhide HI
    case measure=>rw [unhide HP4,unhide HPl]; have:=unhide Hlt; omega
   ·
    have hkI:(k:Int)=3:=by omega
    have g1:(Instr.lookup 333 (.map (some w.heap.size)) (.int .i64 (k:Int)) true).run Tryz.prog x2 = .ok (.tuple #[zeroF,.bool false]) x2:=by rw [hkI]; exact unhide HGn x2 (unhide HX2).2.2
    have Hn:Hid (d=none):=by show d=none; rw [←unhide HD,hk]; unfold kindG; simp
    clear hkI hk HD
    unfold zeroF at g1
    go_wp2_with fail
    refine (need_no _).mono ?_
    rintro e x3 ⟨rfl,hx3⟩
    rw [hx3]
    clear hx3 x3
    refine ⟨rfl,?_⟩; unfold LayP; rw [unhide Hn]; exact ⟨(unhide HX2).1,rfl⟩
  ·
   simp only [if_true] at HD
   have HC:=hide (wholeByte_any b p s wr (unhide HX).2.1.1 (unhide HN).1 (unhide HX).2.2.2.1)
   rcases h1:restG (numB s) p with _ | q
   ·
    rw [h1] at HC
    have H1:=hide h1
    clear h1
    go_wp2_with fail
    refine (unhide HC).mono ?_
    rintro e x1 ⟨k1,rfl⟩
    refine ⟨rfl,?_⟩; unfold LayP; rw [←unhide HD]; simp only [Option.bind_some]; rw [unhide H1]; exact ⟨(unhide HX).1.trans k1.ku,rfl⟩
   ·
    rw [h1] at HC
    have H1:=hide h1
    clear h1
    go_wp2_with fail
    refine (unhide HC).mono ?_
    rintro e x1 ⟨k1,rfl,r1⟩
    have HY:=hide (And.intro ((unhide HX).1.trans k1.ku) ((unhide HX).2.1.keep1 k1 r1))
    clear k1 r1 HC HX
    go_wp2
    go_end0
    unfold LayP
    rw [←unhide HD]
    simp only [Option.bind_some]
    rw [unhide H1]
    exact ⟨(unhide HY).1,trivial,(unhide HY).2⟩
end Go.Proofs.YtkdlcomfpffhhaaGreatDoor
namespace Go.Proofs.YtkdlcomfpffhhaaGreatDoor
open Go.RowKit
structure Fl where
 p:ByteArray
 t:ByteArray
instance:Inhabited Fl:=⟨⟨ByteArray.empty,ByteArray.empty⟩⟩
def encF (e:Fl):List Value:=[.string e.p,.string e.t]
theorem encF_len (e:Fl):(encF e).length=2:=rfl
theorem encF_one (e:Fl):∀ u∈encF e,u.oneCell'=true:=by
 intro u hu
 simp only [encF,List.mem_cons,List.not_mem_nil,or_false] at hu
 rcases hu with rfl | rfl <;> rfl
def FlAt (w:World) (g o:Nat) (e:Fl):Prop:=w.cell? ⟨g,o,none⟩=some (.string e.p)∧w.cell? ⟨g,o+1,none⟩=some (.string e.t)
def FRow (w:World) (a:Option Addr) (l:List Fl):Prop:=0<l.length→∃ g o,a=some ⟨g,o,none⟩∧g<w.heap.size∧∀ i,i<l.length→FlAt w g (o+i*2) (l.getD i default)
theorem FRow.later {w w':World} {a:Option Addr} {l:List Fl} (h:FRow w a l) (hb:Below w.heap.size w w'):FRow w' a l:=by
 intro h0
 obtain ⟨g,o,e,hg,hc⟩:=h h0
 refine ⟨g,o,e,Nat.lt_of_lt_of_le hg hb.size,fun i hi=>?_⟩
 obtain ⟨c0,c1⟩:=hc i hi
 exact ⟨(hb.cell (p:=⟨g,o+i*2,none⟩) hg).trans c0,(hb.cell (p:=⟨g,o+i*2+1,none⟩) hg).trans c1⟩
theorem FRow.at {w:World} {g o:Nat} {l:List Fl} (h:FRow w (some ⟨g,o,none⟩) l) (i:Nat) (hi:i<l.length):FlAt w g (o+i*2) (l.getD i default):=by
 obtain ⟨g',o',e,_,hc⟩:=h (by omega)
 simp only [Option.some.injEq,Addr.mk.injEq,and_true] at e
 obtain ⟨rfl,rfl⟩:=e
 exact hc i hi
abbrev FOwn (w:World) (base:Nat) (v:Value) (l:List Fl):Prop:=GOwn 28 2 encF w base v l
theorem fl_at {w:World} {g o:Nat} {e:Fl} (h:∀ j,j<2→w.cell? ⟨g,o+j,none⟩=(encF e)[j]?):FlAt w g o e:=⟨h 0 (by omega),h 1 (by omega)⟩
theorem fown_at {w:World} {base g cap n:Nat} {l:List Fl} (hn:l.length=n) (h:FOwn w base (.slice (some ⟨g,0,none⟩) n cap) l) (i:Nat) (hi:i<n):FlAt w g (i*2) (l.getD i default):=
 fl_at fun j hj=>(GOwn.at encF_len default hn h i j hi hj).1
theorem fown_froz {w:World} {base g cap n:Nat} {l:List Fl} (hn:l.length=n) (h:FOwn w base (.slice (some ⟨g,0,none⟩) n cap) l) (i:Nat) (hi:i<n):w.frozen? ⟨g,i*2,none⟩=false∧w.frozen? ⟨g,i*2+1,none⟩=false:=
 ⟨(GOwn.at encF_len default hn h i 0 hi (by omega)).2,(GOwn.at encF_len default hn h i 1 hi (by omega)).2⟩
theorem fown_row {w:World} {base cap n:Nat} {a:Option Addr} {l:List Fl} (hn:l.length=n) (h:FOwn w base (.slice a n cap) l):FRow w a l:=by
 intro h0
 obtain ⟨g,rfl⟩:=h.somes h0
 refine ⟨g,0,rfl,h.below.2,fun i hi=>?_⟩
 rw [Nat.zero_add]
 exact fown_at hn h i (by omega)
theorem Tryz.infoFile:(Tryz.prog.info? 28).map (fun i=>(i.zero,i.size,i.bytes))=some (some (.agg #[.string ⟨#[]⟩,.string ⟨#[]⟩]),2,32):=by kernel_rfl
def pA (l:List Fl) (i:Nat):ByteArray:=(l.getD i default).p
def ltP (a b:ByteArray):Bool:=Op.bytesLess a.toList b.toList
theorem ltP_iff (a b:ByteArray):ltP a b=true↔a.data.toList<b.data.toList:=by
 unfold ltP; rw [bytesLess_eq,Lib.toList_data,Lib.toList_data]; simp
def upT (l:List Fl) (i:Nat):Bool:=decide (i=0) || ltP (pA l (i-1)) (pA l i)
def freeT (l:List Fl) (i:Nat):Bool:=(List.range l.length).all fun k=>!undL (pA l i).data.toList (pA l k).data.toList
def selfT (l:List Fl) (i:Nat):Bool:=nameB (pA l i).data.toList&&decide ((l.getD i default).t.size≤300)
def oneT (l:List Fl) (i:Nat):Bool:=selfT l i&&(upT l i&&freeT l i)
def treeB (l:List Fl):Bool:=(List.range l.length).all (oneT l)&&decide (l.length≤8)
def pairI (l:List Fl) (i j:Nat):Bool:=(ltP (pA l j) (pA l i) || (pA l j).toList == (pA l i).toList)&&!clashL (pA l j).data.toList (pA l i).data.toList
def oneQ (l:List Fl) (i:Nat):Bool:=selfT l i&&(List.range i).all (pairI l i)
theorem tree_no {l:List Fl} {i:Nat} (hi:i<l.length) (h:oneT l i=false):treeB l=false:=by
 unfold treeB
 have:(List.range l.length).all (oneT l)=false:=by
  rw [List.all_eq_false]; exact ⟨i,List.mem_range.2 hi,by simp [h]⟩
 rw [this]; rfl
theorem tree_yes {l:List Fl} (h:∀ i,i<l.length→oneT l i=true):treeB l=decide (l.length≤8):=by
 unfold treeB
 have:(List.range l.length).all (oneT l)=true:=List.all_eq_true.2 fun i hi=>h i (List.mem_range.1 hi)
 rw [this]; rfl
theorem freeT_no {l:List Fl} {i k:Nat} (hk:k<l.length) (h:undL (pA l i).data.toList (pA l k).data.toList=true):freeT l i=false:=by
 unfold freeT
 rw [List.all_eq_false]; exact ⟨k,List.mem_range.2 hk,by simp [h]⟩
theorem freeT_yes {l:List Fl} {i:Nat} (h:∀ k,k<l.length→undL (pA l i).data.toList (pA l k).data.toList=false):freeT l i=true:=by
 unfold freeT
 rw [List.all_eq_true]; exact fun k hk=>by rw [h k (List.mem_range.1 hk)]; rfl
theorem und_selfT (a:List UInt8):undL a a=false:=by
 unfold undL
 cases h:(a++[47]).isPrefixOf a
 ·
  rfl
 ·
  have:=(List.isPrefixOf_iff_prefix.1 h).length_le
  simp at this; omega
theorem lst_irrefl (a:List UInt8):¬ a<a:=List.lt_irrefl a
theorem up_all {l:List Fl} (n:Nat) (h:∀ i,i<n→upT l i=true):∀ i,i<n→∀ j,j<i→ltP (pA l j) (pA l i)=true:=by
 intro i
 induction i with
 | zero=>intro _ j hj; omega
 | succ i ih=>
  intro hi j hj
  have h1:=h (i+1) hi
  unfold upT at h1
  simp only [Nat.add_eq_zero_iff,Nat.one_ne_zero,and_false,decide_false,Bool.false_or,Nat.add_sub_cancel] at h1
  by_cases e:j=i
  ·
   rw [e]; exact h1
  ·
   have h2:=ih (by omega) j (by omega)
   rw [ltP_iff] at *
   exact List.lt_trans h2 h1
theorem pair_iff {l:List Fl} {i j:Nat} : pairI l i j=true↔ltP (pA l j) (pA l i)=true∧undL (pA l i).data.toList (pA l j).data.toList=false∧undL (pA l j).data.toList (pA l i).data.toList=false:=by
 unfold pairI clashL
 simp only [Bool.and_eq_true,Bool.or_eq_true,Bool.not_eq_true',Bool.or_eq_false_iff,beq_iff_eq,beq_eq_false_iff_ne,ne_eq]
 constructor
 ·
  rintro ⟨h1,h2,h3,h4⟩
  rcases h1 with h1 | h1
  ·
   exact ⟨h1,h3,h4⟩
  ·
   exact absurd (by rw [Lib.toList_data,Lib.toList_data] at h1; exact h1) h2
 ·
  rintro ⟨h1,h3,h4⟩
  refine ⟨.inl h1,?_,h3,h4⟩
  intro e
  rw [ltP_iff,e] at h1
  exact lst_irrefl _ h1
theorem tree_same (l:List Fl):((List.range l.length).all (oneT l))=((List.range l.length).all (oneQ l)):=by
 rw [Bool.eq_iff_iff,List.all_eq_true,List.all_eq_true]
 simp only [List.mem_range,oneT,oneQ,Bool.and_eq_true,List.all_eq_true]
 constructor
 ·
  intro h i hi
  refine ⟨(h i hi).1,fun j hj=>pair_iff.2 ?_⟩
  have hf:∀ i,i<l.length→∀ k,k<l.length→undL (pA l i).data.toList (pA l k).data.toList=false:=by
   intro i hi k hk
   have:=(h i hi).2.2
   unfold freeT at this
   rw [List.all_eq_true] at this
   simpa using this k (List.mem_range.2 hk)
  exact ⟨up_all l.length (fun i hi=>(h i hi).2.1) i hi j hj,hf i hi j (by omega),hf j (by omega) i hi⟩
 ·
  intro h i hi
  refine ⟨(h i hi).1,?_,?_⟩
  ·
   unfold upT
   by_cases e:i=0
   ·
    simp [e]
   ·
    simp only [e,decide_false,Bool.false_or]
    exact (pair_iff.1 ((h i hi).2 (i-1) (by omega))).1
  ·
   refine freeT_yes fun k hk=>?_
   rcases Nat.lt_trichotomy k i with hlt | rfl | hgt
   ·
    exact (pair_iff.1 ((h i hi).2 k hlt)).2.1
   ·
    exact und_selfT _
   ·
    exact (pair_iff.1 ((h k hk).2 i hgt)).2.2
theorem treeI_no {l:List Fl} {i:Nat} (hi:i<l.length) (h:oneQ l i=false):treeB l=false:=by
 unfold treeB
 rw [tree_same]
 have:(List.range l.length).all (oneQ l)=false:=by
  rw [List.all_eq_false]; exact ⟨i,List.mem_range.2 hi,by simp [h]⟩
 rw [this]; rfl
theorem treeI_yes {l:List Fl} (h:∀ i,i<l.length→oneQ l i=true):treeB l=decide (l.length≤8):=by
 unfold treeB
 rw [tree_same]
 have:(List.range l.length).all (oneQ l)=true:=List.all_eq_true.2 fun i hi=>h i (List.mem_range.1 hi)
 rw [this]; rfl
theorem oneI_no {l:List Fl} {i j:Nat} (hj:j<i) (h:pairI l i j=false):oneQ l i=false:=by
 unfold oneQ
 have:(List.range i).all (pairI l i)=false:=by
  rw [List.all_eq_false]; exact ⟨j,List.mem_range.2 hj,by simp [h]⟩
 rw [this]; simp
theorem oneI_yes {l:List Fl} {i:Nat} (h:∀ j,j<i→pairI l i j=true):oneQ l i=selfT l i:=by
 unfold oneQ
 have:(List.range i).all (pairI l i)=true:=List.all_eq_true.2 fun j hj=>h j (List.mem_range.1 hj)
 rw [this]; simp
def posP:List Fl→ByteArray→Nat
 | [],_=>0
 | e :: l,x=>if ltP e.p x=true then posP l x+1 else 0
def putF:List Fl→Fl→List Fl
 | [],f=>[f]
 | e :: l,f=>if ltP e.p f.p=true then e :: putF l f else if e.p=f.p then f :: l else f :: e :: l
def SortP (l:List Fl):Prop:=l.Pairwise fun a b=>ltP a.p b.p=true
theorem ltP_irrefl (a:ByteArray):ltP a a=false:=by
 cases h:ltP a a
 ·
  rfl
 ·
  exact absurd ((ltP_iff _ _).1 h) (lst_irrefl _)
theorem ltP_trans {a b c:ByteArray} (h:ltP a b=true) (k:ltP b c=true):ltP a c=true:=by
 rw [ltP_iff] at *; exact List.lt_trans h k
theorem ltP_tri {a b:ByteArray} (h:ltP a b=false) (hne:a≠b):ltP b a=true:=by
 rw [ltP_iff]
 have h1:¬ a.data.toList<b.data.toList:=fun e=>by rw [(ltP_iff a b).2 e] at h; cases h
 rcases Std.le_iff_lt_or_eq.1 (List.not_lt.1 h1) with h2 | h2
 ·
  exact h2
 ·
  exact absurd (ByteArray.ext (Array.toList_inj.1 h2.symm)) hne
theorem posP_le (l:List Fl) (x:ByteArray):posP l x≤l.length:=by
 induction l with
 | nil=>exact Nat.le_refl _
 | cons e l ih=>unfold posP; split <;> simp; exact ih
theorem posP_eq {l:List Fl} {x:ByteArray} {k:Nat} (hk:k≤l.length) (h1:∀ i,i<k→ltP (l.getD i default).p x=true) (h2:k<l.length→ltP (l.getD k default).p x=false):posP l x=k:=by
 induction l generalizing k with
 | nil=>simp at hk; simp [posP,hk]
 | cons e l ih=>
  unfold posP
  cases k with
  | zero=>
   have:=h2 (by simp)
   simp only [List.getD_cons_zero] at this
   rw [if_neg (by simp [this])]
  | succ k=>
   have:=h1 0 (by omega)
   simp only [List.getD_cons_zero] at this
   rw [if_pos this,ih (by simpa using hk) (fun i hi=>by simpa using h1 (i+1) (by omega)) (fun h=>by simpa using h2 (by simpa using h))]
theorem putF_here {l:List Fl} {f:Fl} (h:posP l f.p<l.length) (he:(l.getD (posP l f.p) default).p=f.p):putF l f=l.take (posP l f.p)++f :: l.drop (posP l f.p+1):=by
 induction l with
 | nil=>simp at h
 | cons e l ih=>
  unfold posP at h he ⊢
  unfold putF
  split at h
  ·
   rename_i h1
   rw [if_pos h1,if_pos h1]
   rw [if_pos h1] at he
   simp only [List.take_succ_cons,List.cons_append,List.drop_succ_cons]
   rw [ih (by simpa using h) (by simpa using he)]
  ·
   rename_i h1
   rw [if_neg h1,if_neg h1]
   rw [if_neg h1] at he
   rw [if_pos (by simpa using he)]
   simp
theorem putF_new {l:List Fl} {f:Fl} (he:posP l f.p<l.length→(l.getD (posP l f.p) default).p≠f.p):putF l f=l.take (posP l f.p)++f :: l.drop (posP l f.p):=by
 induction l with
 | nil=>rfl
 | cons e l ih=>
  unfold posP at he ⊢
  unfold putF
  by_cases h1:ltP e.p f.p=true
  ·
   rw [if_pos h1,if_pos h1]
   rw [if_pos h1] at he
   simp only [List.take_succ_cons,List.cons_append,List.drop_succ_cons]
   rw [ih (fun h=>by have:=he (by simpa using h); simpa using this)]
  ·
   rw [if_neg h1,if_neg h1]
   rw [if_neg h1] at he
   rw [if_neg (by simpa using he (by simp))]
   simp
theorem putF_len (l:List Fl) (f:Fl):(putF l f).length≤l.length+1:=by
 induction l with
 | nil=>simp [putF]
 | cons e l ih=>
  unfold putF
  split
  ·
   simpa using ih
  ·
   split <;> simp
theorem putF_mem {l:List Fl} {f e:Fl} (h:e∈putF l f):e=f∨e∈l:=by
 induction l with
 | nil=>simpa [putF] using h
 | cons d l ih=>
  unfold putF at h
  split at h
  ·
   rcases List.mem_cons.1 h with rfl | h
   ·
    exact .inr (by simp)
   ·
    rcases ih h with rfl | h
    ·
     exact .inl rfl
    ·
     exact .inr (List.mem_cons_of_mem _ h)
  ·
   split at h
   ·
    rcases List.mem_cons.1 h with rfl | h
    ·
     exact .inl rfl
    ·
     exact .inr (List.mem_cons_of_mem _ h)
   ·
    rcases List.mem_cons.1 h with rfl | h
    ·
     exact .inl rfl
    ·
     exact .inr h
theorem putF_sort {l:List Fl} (f:Fl) (h:SortP l):SortP (putF l f):=by
 unfold SortP at *
 induction l with
 | nil=>simp [putF]
 | cons e l ih=>
  obtain ⟨h1,h2⟩:=List.pairwise_cons.1 h
  unfold putF
  split
  ·
   rename_i h3
   refine List.pairwise_cons.2 ⟨fun x hx=>?_,ih h2⟩
   rcases putF_mem hx with rfl | hx
   ·
    exact h3
   ·
    exact h1 x hx
  ·
   rename_i h3
   split
   ·
    rename_i h4
    exact List.pairwise_cons.2 ⟨fun x hx=>by rw [←h4]; exact h1 x hx,h2⟩
   ·
    rename_i h4
    have h5:=ltP_tri (by simpa using h3) h4
    refine List.pairwise_cons.2 ⟨fun x hx=>?_,h⟩
    rcases List.mem_cons.1 hx with rfl | hx
    ·
     exact h5
    ·
     exact ltP_trans h5 (h1 x hx)
theorem putF_last {l:List Fl} {f:Fl} (h:∀ e∈l,ltP e.p f.p=true):putF l f=l++[f]:=by
 induction l with
 | nil=>rfl
 | cons e l ih=>
  unfold putF
  rw [if_pos (h e (by simp)),ih fun x hx=>h x (List.mem_cons_of_mem _ hx)]
  rfl
theorem puts_sort {a l:List Fl} (h:SortP (a++l)):l.foldl putF a=a++l:=by
 induction l generalizing a with
 | nil=>simp
 | cons f l ih=>
  have h1:∀ e∈a,ltP e.p f.p=true:=fun e he=>(List.pairwise_append.1 h).2.2 e he f (by simp)
  rw [List.foldl_cons,putF_last h1,ih (by simpa using h)]
  simp
set_option maxRecDepth 100000
theorem isNaN_any (x:ByteArray) (w:World):Calls Tryz.prog 98 #[.string x] w fun e w'=>e = .returned (.bool false)∧w'=w:=by
 go_enter Tryz.func98,Tryz.ntmps98
 go_wp2
 go_ret
 exact ⟨by simp,rfl⟩
theorem cmpNaN_any (x:ByteArray) (w:World):Calls Tryz.prog 148 #[.string x] w fun e w'=>e = .returned (.bool false)∧w'=w:=by
 go_enter Tryz.func148,Tryz.ntmps148
 go_wp2
 go_ret
 exact ⟨by simp,rfl⟩
theorem cmpLess_any (x y:ByteArray) (w:World):Calls Tryz.prog 97 #[.string x,.string y] w fun e w'=>e = .returned (.bool (ltP x y))∧w'=w:=by
 go_enter Tryz.func97,Tryz.ntmps97
 go_wp2_with fail
 refine (cmpNaN_any x w).mono ?_
 rintro e w1 ⟨rfl,rfl⟩
 go_wp2
 go_ret
 exact ⟨by simp [ltP],rfl⟩
def TRow (w:World) (a:Option Addr) (l:List ByteArray):Prop:=0<l.length→∃ g,a=some ⟨g,0,none⟩∧g<w.heap.size∧∀ i,i<l.length→w.cell? ⟨g,i,none⟩=some (.string (l.getD i default))
def posB:List ByteArray→ByteArray→Nat
 | [],_=>0
 | e :: l,x=>if ltP e x=true then posB l x+1 else 0
theorem posB_eq {l:List ByteArray} {x:ByteArray} {k:Nat} (hk:k≤l.length) (h1:∀ i,i<k→ltP (l.getD i default) x=true) (h2:k<l.length→ltP (l.getD k default) x=false):posB l x=k:=by
 induction l generalizing k with
 | nil=>simp at hk; simp [posB,hk]
 | cons e l ih=>
  unfold posB
  cases k with
  | zero=>
   have:=h2 (by simp)
   simp only [List.getD_cons_zero] at this
   rw [if_neg (by simp [this])]
  | succ k=>
   have:=h1 0 (by omega)
   simp only [List.getD_cons_zero] at this
   rw [if_pos this,ih (by simpa using hk) (fun i hi=>by simpa using h1 (i+1) (by omega)) (fun h=>by simpa using h2 (by simpa using h))]
theorem sort_up {l:List ByteArray} (h:l.Pairwise fun a b=>ltP a b=true) {i j:Nat} (hij:i<j) (hj:j<l.length):ltP (l.getD i default) (l.getD j default)=true:=by
 have:=List.pairwise_iff_getElem.1 h i j (by omega) hj hij
 have e1:l.getD i default=l[i]:=by simp [show i<l.length by omega]
 have e2:l.getD j default=l[j]:=by simp [hj]
 rw [e1,e2]; exact this
set_option maxHeartbeats 1600000 in
theorem binSearch_any (a:Option Addr) (cap n:Nat) (l:List ByteArray) (x:ByteArray) (w:World) (hn:l.length=n) (h:TRow w a l) (hl:n≤1000) (hs:l.Pairwise fun a b=>ltP a b=true) :
  Calls Tryz.prog 66 #[.slice a n cap,.string x] w fun e w'=>e = .returned (.tuple #[.int .i64 (posB l x:Nat),.bool (decide (posB l x<n∧l.getD (posB l x) default=x))])∧w'=w:=by
 have HN:=hide hn
 have HR:=hide h
 have HS:=hide hs
 have hnI:(n:Int)≤1000:=by omega
 clear h hs hn
 go_enter Tryz.func66,Tryz.ntmps66
 go_wp2_with fail
 go_loopw [7,8,9] (fun i j _ wr=>∃ p q:Nat,i = .int .i64 p∧j = .int .i64 q∧p≤q∧q≤n∧(∀ k,k<p→ltP (l.getD k default) x=true)∧(∀ k,q≤k→k<n→ltP (l.getD k default) x=false)∧wr=w) (fun i j _ _=>(intOf j).toNat-(intOf i).toNat)
 case atStart=>exact ⟨0,n,rfl,rfl,Nat.zero_le _,Nat.le_refl _,fun k hk=>absurd hk (by omega),fun k h1 h2=>absurd h2 (by omega),rfl⟩
 case round=>
  obtain ⟨p,q,rfl,rfl,hpq,hq,hlo,hhi,rfl⟩:=hrel
  have HLo:=hide hlo
  have HHi:=hide hhi
  clear hlo hhi
  have hpI:(p:Int)≤1000:=by omega
  have hqI:(q:Int)≤1000:=by omega
  by_cases hlt:p<q
  ·
   have hltI:(p:Int)<(q:Int):=by omega
   obtain ⟨g,rfl,hg,hc⟩:=unhide HR (by have:=unhide HN; omega)
   obtain ⟨m,hm⟩:∃ m,m=(p+q)/2:=⟨_,rfl⟩
   have hmI:((p:Int)+(q:Int))/2=((m:Nat):Int):=by omega
   have hm1:p≤m∧m<q:=by omega
   have hmn:(m:Int)<(n:Int):=by omega
   have hmB:(m:Int)≤1000:=by omega
   have cm:=hc m (by have:=unhide HN; omega)
   have HC:=hide hc
   clear hc hm
   obtain ⟨y,hy⟩:∃ y,l.getD m default=y:=⟨_,rfl⟩
   rw [hy] at cm
   have HY:=hide hy
   clear hy
   go_wp2_with fail
   refine (cmpLess_any y x _).mono ?_
   rintro e w1 ⟨rfl,rfl⟩
   cases hb:ltP y x
   ·
    have HB:=hide hb
    clear hb
    go_wp2_with fail
    go_roundw
    case rel=>
     refine ⟨p,m,rfl,rfl,hm1.1,by omega,unhide HLo,fun k h1 h2=>?_,trivial⟩
     by_cases e:k=m
     ·
      rw [e,unhide HY]; exact unhide HB
     ·
      cases hk:ltP (l.getD k default) x
      ·
       rfl
      ·
       have:=ltP_trans (sort_up (unhide HS) (show m<k by omega) (by have:=unhide HN; omega)) hk
       rw [unhide HY,unhide HB] at this
       cases this
    case measure=>simp [intOf]; omega
   ·
    have HB:=hide hb
    clear hb
    go_wp2_with fail
    go_roundw
    case rel=>
     refine ⟨m+1,q,by go_num,rfl,hm1.2,hq,fun k hk=>?_,unhide HHi,trivial⟩
     by_cases e:k=m
     ·
      rw [e,unhide HY]; exact unhide HB
     ·
      exact ltP_trans (sort_up (unhide HS) (show k<m by omega) (by have:=unhide HN; omega)) (by rw [unhide HY]; exact unhide HB)
    case measure=>simp [intOf]; omega
  ·
   have hge:(q:Int)≤(p:Int):=by omega
   obtain rfl:p=q:=by omega
   have HP:=hide (posB_eq (l:=l) (x:=x) (k:=p) (by have:=unhide HN; omega) (unhide HLo) (fun h=>unhide HHi p (Nat.le_refl _) (by have:=unhide HN; omega)))
   by_cases hpn:p<n
   ·
    have hpnI:(p:Int)<(n:Int):=by omega
    obtain ⟨g,rfl,hg,hc⟩:=unhide HR (by have:=unhide HN; omega)
    obtain ⟨y,hy⟩:∃ y,l.getD p default=y:=⟨_,rfl⟩
    have cy:wr.cell? ⟨g,p,none⟩=some (.string y):=by rw [←hy]; exact hc p (by have:=unhide HN; omega)
    have HY:=hide hy
    clear hy hc
    by_cases he:y.toList=x.toList
    ·
     have hb:(y.toList == x.toList)=true:=by simpa using he
     have HE:=hide he
     go_wp2_with fail
     go_ret2
     have hyx:y=x:=ByteArray.ext (Array.toList_inj.1 (by have:=unhide HE; rw [Lib.toList_data,Lib.toList_data] at this; exact this))
     exact ⟨by rw [unhide HP,unhide HY]; simp [hpn,hyx],rfl⟩
    ·
     have hb:(y.toList == x.toList)=false:=by simpa using he
     have HE:=hide he
     go_wp2_with fail
     refine (isNaN_any y _).mono ?_
     rintro e w1 ⟨rfl,rfl⟩
     go_wp2_with fail
     go_ret2
     have hxy:y≠x:=fun h=>unhide HE (by rw [h])
     exact ⟨by rw [unhide HP,unhide HY]; simp [hxy],rfl⟩
   ·
    have hge2:(n:Int)≤(p:Int):=by omega
    go_wp2_with fail
    go_ret2
    exact ⟨by rw [unhide HP]; simp [hpn],rfl⟩
end Go.Proofs.YtkdlcomfpffhhaaGreatDoor
