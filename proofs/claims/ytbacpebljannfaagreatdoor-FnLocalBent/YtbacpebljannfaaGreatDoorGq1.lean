/- Unpacking, the program's: all parts. -/
import Derived.Test.YtbacpebljannfaaGreatDoorM22
import Derived.Test.YtbacpebljannfaaGreatDoorM20
import Derived.Test.YtbacpebljannfaaGreatDoorMp1
set_option linter.unusedSimpArgs false
set_option maxHeartbeats 3200000
namespace Go.Proofs.YtbacpebljannfaaGreatDoor
open Go.RowKit Corb
theorem iM.ku{w w':World}{b g:Nat}{es:List (Int×Value)}(h:iM w g es)(hk:KU b w w')(hne:g≠b):iM w' g es:=by
 unfold iM at h ⊢;have hlt:g<w.heap.size:=(Array.getElem?_eq_some_iff.1 h).1;rw[hk.2 g hlt hne (by intro cur fr hc;rw[h]at hc;cases hc)];exact h
def oH:List (Int×Value):=[(0,.func (.func 189) #[] #[]),(1,.func (.func 190) #[] #[]),(2,.func (.func 191) #[] #[])]
theorem yV{V sz p q:Nat}{T T':List UInt8}(h:jV V sz p T=some (T',q)):q<=sz/\p<=q/\(T.length<=300->T'.length<=300):=tq h
theorem Dj{V sz p q:Nat}{T T':List UInt8}(h:AJ V sz p T=some (T',q)):q<=sz/\p<=q/\(T.length<=300->T'.length<=300):=by
 have:=uJ h;exact⟨this.1,by omega,this.2.2⟩
theorem Er{V sz p q:Nat}{T T':List UInt8}(h:uB V sz p T=some (T',q)):q<=sz/\p<=q/\(T.length<=300->T'.length<=300):=zQ h
def FE:Value:=.nilFunc
theorem Cv(W:World):(zeroValue 236).run Tryz.prog W = .ok FE W:=by kernel_rfl
def PtI(b:Nat)(s:ByteArray)(d:Option (List UInt8×Nat))(w:World)(v:Value)(wr:World):Prop:=
 ∃(l:Bool) (p:Nat) (T:List UInt8),v = .bool l/\KU b w wr/\Sou wr b s p T/\T.length<=300/\p<=8*s.size/\iM wr w.heap.size oH/\(if l=true then some (T,p)else jR (ap s) (8*s.size) p T)=d
theorem iN{B:Nat}{a w:World}{b:Nat}(h:Below B a w)(hb:B<=b)(o:Obj):Below B a (w.putObj b o):=by
 refine h.trans ⟨rfl,rfl,rfl,by simp[World.putObj],fun k hk=>?_⟩;have:k≠b:=by omega
 simp[World.putObj,Ne.symm this]
set_option maxRecDepth 100000 in
theorem BR(b p:Nat)(s:ByteArray)(T:List UInt8)(w:World)(h:Sou w b s p T)(hT:T.length<=300)(hp:p<=8*s.size)(hs:s.size<=2000000)(hO:dT w)(hb:0<b) :
  Calls Tryz.prog 154 #[.pointer (some ⟨b,0,none⟩)] w (cR w b s (lv (ap s) (8*s.size) p T)):=by
 have hmm:=@run_makeMap Tryz.prog;have hu:=Tryz.underlying237;have hk:=a1K;obtain⟨d,hd⟩:∃d,jR (ap s) (8*s.size) p T=d:=⟨_,rfl⟩;unfold lv;rw[hd];have hlt:=h.lt;have hne:w.heap.size≠b:=by omega
 have m0:=zK w;obtain⟨w1,r1,m1,e1⟩:=lO hu hk _ _ _ 0 (.func (.func 189) #[] #[]) m0 (by simp);obtain⟨w2,r2,m2,e2⟩:=lO hu hk _ _ _ 1 (.func (.func 190) #[] #[]) m1 (by simp);obtain⟨w3,r3,m3,e3⟩:=lO hu hk _ _ _ 2 (.func (.func 191) #[] #[]) m2 (by simp);have z1:w1.heap.size=w.heap.size+1:=by rw[e1];simp[World.putObj]
 have z2:w2.heap.size=w.heap.size+1:=by rw[e2];simpa[World.putObj]using z1
 have hB1:Below w.heap.size w w1:=by rw[e1];exact iN ((a0c _ w).alloc (a0a _) _) (a0a _) _
 have hB2:Below w.heap.size w w2:=by rw[e2];exact iN hB1 (a0a _) _
 have hB3:Below w.heap.size w w3:=by rw[e3];exact iN hB2 (a0a _) _
 simp only[a1d,a1I]at m3;have HI:Hid (PtI b s d w (.bool false) w3):=⟨false,p,T,rfl,(KU.refl b w).later hB3 hlt,h.later hB3,hT,hp,m3,by simpa using hd⟩;have HG:=af (fun W k v (h:iM W w.heap.size oH) hm=>zJ hu hk W w.heap.size _ k v true h hm (by decide));have HGn:=af (fun W (h:iM W w.heap.size oH)=>map_none hu hk W w.heap.size _ 3 _ h (by decide) (Cv W));have HN:=af (a0b hs (a0b hO (a0b hb hlt)));clear e1 e2 e3 z1 z2 hB1 hB2 hB3 m0 m1 m2 m3 hu hk hs hO hb hT hp h hd;go_enter Tryz.func154,Tryz.ntmps154;go_wp2_with fail;clear r1 r2 r3 hmm
 go_loopw [3,4,5] (fun v _ _ wr=>PtI b s d w v wr) (fun _ _ _ wr=>8*s.size-mP b wr)
 case atStart=>exact ae HI
 case round=>
  obtain⟨l,p,T,rfl,hku,hsou,hT,hp,hM,hd⟩:=hrel;clear HI;have HX:=af (a0b hku (a0b hsou (a0b hT (a0b hp hM))));have HPl:=af (hsou.place hp);have HD:=af hd;clear hku hsou hT hp hM hd;cases l
  ·
   simp only[a1n,a1o]at HD;rw[wK]at HD;have HM:=af (bV b p 1 s wr (ae HX).2.1.1 (ae HN).1 (by omega));unfold gZ at HM;rcases h1:rdN (ap s) (8*s.size) p 1 with _|⟨a,q1⟩
   ·
    rw[h1]at HM HD;have Hn:Hid (d=none):=by show d=none;rw[←ae HD];rfl
    clear h1 HD;go_wp2_with fail;refine(ae HM).mono ?_;rintro e x1 ⟨k1,rfl⟩;refine⟨rfl,?_⟩;unfold cR;rw[ae Hn];exact⟨(ae HX).1.trans k1.ku,rfl⟩
   rw[h1]at HM HD;simp only[a0g]at HD;have Hb1:=af (bH h1);have HA:Hid (((a:Int) == 1)=decide (a=1)):=by show _=_;rw[a2P];simp;omega
   clear h1;go_wp2_with fail;refine(ae HM).mono ?_;rintro e x1 ⟨k1,rfl,r1⟩;have HX1:=af (a0b ((ae HX).1.trans k1.ku) (a0b ((ae HX).2.1.keep1 k1 r1) ((ae HX).2.2.2.2.ku k1.ku hne)));clear k1 r1 HM;obtain⟨l,hl⟩:∃l,((a:Int) == 1)=l:=⟨_,rfl⟩;have Hl:Hid (l=decide (a=1)):=by show _=_;rw[←hl];exact ae HA
   have HM:=af (bV b q1 2 s x1 (ae HX1).2.1.1 (ae HN).1 (by omega));unfold gZ at HM;rcases h2:rdN (ap s) (8*s.size) q1 2 with _|⟨k,q2⟩
   ·
    rw[h2]at HM HD;have Hn:Hid (d=none):=by show d=none;rw[←ae HD];rfl
    clear h2 HD;go_wp2_with fail;refine(ae HM).mono ?_;rintro e x2 ⟨k2,rfl⟩;refine⟨rfl,?_⟩;unfold cR;rw[ae Hn];exact⟨(ae HX1).1.trans k2.ku,rfl⟩
   rw[h2]at HM HD;simp only[a0g]at HD;have Hb2:=af (bH h2);have hk4:k<4:=by have:=(bH h2).2.2.2;omega
   clear h2;go_wp2_with fail;refine(ae HM).mono ?_;rintro e x2 ⟨k2,rfl,r2⟩;have HX2:=af (a0b ((ae HX1).1.trans k2.ku) (a0b ((ae HX1).2.1.keep1 k2 r2) ((ae HX1).2.2.ku k2.ku hne)));have HO2:Hid (dT x2):=(ae HN).2.1.below (ae HX2).1.1 (ae HN).2.2.1;clear k2 r2 HM HX1 hl HA;have e4:k=0∨k=1∨k=2∨k=3:=by omega
   clear hk4;rcases e4 with hk|hk|hk|hk
   ·
    have hkI:(k:Int)=0:=by omega
    have g1:(Instr.lookup 237 (.map (some w.heap.size)) (.int .i64 (k:Int)) true).run Tryz.prog x2 = .ok (.tuple #[.func (.func 189) #[] #[],.bool true]) x2:=by rw[hkI];exact ae HG x2 0 (.func (.func 189) #[] #[]) (ae HX2).2.2 (by unfold oH;simp)
    have HK:Hid (iC (ap s) (8*s.size) k q2 T=jV (ap s) (8*s.size) q2 T):=by show _=_;rw[hk];unfold iC;simp
    rw[ae HK]at HD;have HC:=af (sj b q2 s T x2 (ae HX2).2.1 (ae HX).2.2.1 (ae Hb2).1 (ae HN).1);unfold cR at HC;clear hkI HK hk;go_wp2_with fail;refine(bU _).mono ?_;rintro e x3 ⟨rfl,hx3⟩;rw[hx3];clear hx3 x3 g1;rcases h3:jV (ap s) (8*s.size) q2 T with _|⟨T',q3⟩
    ·
     rw[h3]at HC HD;have Hn:Hid (d=none):=by show d=none;rw[←ae HD];rfl
     clear h3 HD;go_wp2_with fail;refine(ae HC).mono ?_;rintro e x4 ⟨k4,rfl⟩;refine⟨rfl,?_⟩;unfold cR;rw[ae Hn];exact⟨(ae HX2).1.trans k4,rfl⟩
    rw[h3]at HC HD;simp only[a0g]at HD;have Hb3:Hid (q3<=8*s.size/\q2<=q3/\(T.length<=300->T'.length<=300)):=yV h3;clear h3;go_wp2_with fail;refine(ae HC).mono ?_;rintro e x4 ⟨k4,rfl,s4⟩;have HI:Hid (PtI b s d w (.bool l) x4):=⟨l,q3,T',rfl,(ae HX2).1.trans k4,s4,(ae Hb3).2.2 (ae HX).2.2.1,(ae Hb3).1,(ae HX2).2.2.ku k4 hne,by rw[ae Hl];simpa using ae HD⟩;have HP4:=af (s4.place (ae Hb3).1);have Hlt:Hid (p<q3/\q3<=8*s.size):=⟨by have:=ae Hb1;have:=ae Hb2;have:=ae Hb3;omega,(ae Hb3).1⟩;clear k4 s4 HC HX2 HX;go_wp2_with fail;go_roundw
    case rel=>exact ae HI
    case measure=>rw[ae HP4,ae HPl];have:=ae Hlt;omega
   ·
    have hkI:(k:Int)=1:=by omega
    have g1:(Instr.lookup 237 (.map (some w.heap.size)) (.int .i64 (k:Int)) true).run Tryz.prog x2 = .ok (.tuple #[.func (.func 190) #[] #[],.bool true]) x2:=by rw[hkI];exact ae HG x2 1 (.func (.func 190) #[] #[]) (ae HX2).2.2 (by unfold oH;simp)
    have HK:Hid (iC (ap s) (8*s.size) k q2 T=AJ (ap s) (8*s.size) q2 T):=by show _=_;rw[hk];unfold iC;simp
    rw[ae HK]at HD;have HC:=af (rY b q2 s T x2 (ae HX2).2.1 (ae HX).2.2.1 (ae Hb2).1 (ae HN).1);unfold cR at HC;clear hkI HK hk;go_wp2_with fail;refine(bU _).mono ?_;rintro e x3 ⟨rfl,hx3⟩;rw[hx3];clear hx3 x3 g1;rcases h3:AJ (ap s) (8*s.size) q2 T with _|⟨T',q3⟩
    ·
     rw[h3]at HC HD;have Hn:Hid (d=none):=by show d=none;rw[←ae HD];rfl
     clear h3 HD;go_wp2_with fail;refine(ae HC).mono ?_;rintro e x4 ⟨k4,rfl⟩;refine⟨rfl,?_⟩;unfold cR;rw[ae Hn];exact⟨(ae HX2).1.trans k4,rfl⟩
    rw[h3]at HC HD;simp only[a0g]at HD;have Hb3:Hid (q3<=8*s.size/\q2<=q3/\(T.length<=300->T'.length<=300)):=Dj h3;clear h3;go_wp2_with fail;refine(ae HC).mono ?_;rintro e x4 ⟨k4,rfl,s4⟩;have HI:Hid (PtI b s d w (.bool l) x4):=⟨l,q3,T',rfl,(ae HX2).1.trans k4,s4,(ae Hb3).2.2 (ae HX).2.2.1,(ae Hb3).1,(ae HX2).2.2.ku k4 hne,by rw[ae Hl];simpa using ae HD⟩;have HP4:=af (s4.place (ae Hb3).1);have Hlt:Hid (p<q3/\q3<=8*s.size):=⟨by have:=ae Hb1;have:=ae Hb2;have:=ae Hb3;omega,(ae Hb3).1⟩;clear k4 s4 HC HX2 HX;go_wp2_with fail;go_roundw
    case rel=>exact ae HI
    case measure=>rw[ae HP4,ae HPl];have:=ae Hlt;omega
   ·
    have hkI:(k:Int)=2:=by omega
    have g1:(Instr.lookup 237 (.map (some w.heap.size)) (.int .i64 (k:Int)) true).run Tryz.prog x2 = .ok (.tuple #[.func (.func 191) #[] #[],.bool true]) x2:=by rw[hkI];exact ae HG x2 2 (.func (.func 191) #[] #[]) (ae HX2).2.2 (by unfold oH;simp)
    have HK:Hid (iC (ap s) (8*s.size) k q2 T=uB (ap s) (8*s.size) q2 T):=by show _=_;rw[hk];unfold iC;simp
    rw[ae HK]at HD;have HC:=af (wD b q2 s T x2 (ae HX2).2.1 (ae HX).2.2.1 (ae HN).1 (ae HO2) (ae HN).2.2.1);unfold cR at HC;clear hkI HK hk;go_wp2_with fail;refine(bU _).mono ?_;rintro e x3 ⟨rfl,hx3⟩;rw[hx3];clear hx3 x3 g1;rcases h3:uB (ap s) (8*s.size) q2 T with _|⟨T',q3⟩
    ·
     rw[h3]at HC HD;have Hn:Hid (d=none):=by show d=none;rw[←ae HD];rfl
     clear h3 HD;go_wp2_with fail;refine(ae HC).mono ?_;rintro e x4 ⟨k4,rfl⟩;refine⟨rfl,?_⟩;unfold cR;rw[ae Hn];exact⟨(ae HX2).1.trans k4,rfl⟩
    rw[h3]at HC HD;simp only[a0g]at HD;have Hb3:Hid (q3<=8*s.size/\q2<=q3/\(T.length<=300->T'.length<=300)):=Er h3;clear h3;go_wp2_with fail;refine(ae HC).mono ?_;rintro e x4 ⟨k4,rfl,s4⟩;have HI:Hid (PtI b s d w (.bool l) x4):=⟨l,q3,T',rfl,(ae HX2).1.trans k4,s4,(ae Hb3).2.2 (ae HX).2.2.1,(ae Hb3).1,(ae HX2).2.2.ku k4 hne,by rw[ae Hl];simpa using ae HD⟩;have HP4:=af (s4.place (ae Hb3).1);have Hlt:Hid (p<q3/\q3<=8*s.size):=⟨by have:=ae Hb1;have:=ae Hb2;have:=ae Hb3;omega,(ae Hb3).1⟩;clear k4 s4 HC HX2 HX;go_wp2_with fail;go_roundw
    case rel=>exact ae HI
    case measure=>rw[ae HP4,ae HPl];have:=ae Hlt;omega
   ·
    have hkI:(k:Int)=3:=by omega
    have g1:(Instr.lookup 237 (.map (some w.heap.size)) (.int .i64 (k:Int)) true).run Tryz.prog x2 = .ok (.tuple #[FE,.bool false]) x2:=by rw[hkI];exact ae HGn x2 (ae HX2).2.2
    have Hn:Hid (d=none):=by show d=none;rw[←ae HD,hk];unfold iC;simp
    clear hkI hk HD;unfold FE at g1;go_wp2_with fail;refine(dr _).mono ?_;rintro e x3 ⟨rfl,hx3⟩;rw[hx3];clear hx3 x3;refine⟨rfl,?_⟩;unfold cR;rw[ae Hn];exact⟨(ae HX2).1,rfl⟩
  ·
   simp only[a0Z]at HD;have HC:=af (mr b p s wr (ae HX).2.1.1 (ae HN).1 (ae HX).2.2.2.1);rcases h1:ml (ap s) p with _|q
   · rw[h1]at HC;have H1:=af h1;clear h1;go_wp2_with fail;refine(ae HC).mono ?_;rintro e x1 ⟨k1,rfl⟩;refine⟨rfl,?_⟩;unfold cR;rw[←ae HD];simp only[a0g];rw[ae H1];exact⟨(ae HX).1.trans k1.ku,rfl⟩
   ·
    rw[h1]at HC;have H1:=af h1;clear h1;go_wp2_with fail;refine(ae HC).mono ?_;rintro e x1 ⟨k1,rfl,r1⟩;have HY:=af (a0b ((ae HX).1.trans k1.ku) ((ae HX).2.1.keep1 k1 r1));clear k1 r1 HC HX;go_wp2
    go_end0
    unfold cR;rw[←ae HD];simp only[a0g];rw[ae H1];exact⟨(ae HY).1,trivial,(ae HY).2⟩
end Go.Proofs.YtbacpebljannfaaGreatDoor
