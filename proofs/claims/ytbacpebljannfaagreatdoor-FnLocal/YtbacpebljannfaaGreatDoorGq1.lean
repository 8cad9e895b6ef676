/- Unpacking, the program's: all parts. -/
import Derived.Test.YtbacpebljannfaaGreatDoorM23
import Derived.Test.YtbacpebljannfaaGreatDoorM21
import Derived.Test.YtbacpebljannfaaGreatDoorMp1
set_option linter.unusedSimpArgs false
set_option maxHeartbeats 3200000
namespace Go.Proofs.YtbacpebljannfaaGreatDoor
open Go.RowKit Corb
theorem jf.ku{w w':World}{b g:Nat}{es:List (Int×Value)}(h:jf w g es)(hk:KU b w w')(hne:g≠b):jf w' g es:=by
 unfold jf at h ⊢;have hlt:g<w.heap.size:=(Array.getElem?_eq_some_iff.1 h).1;rw[hk.2 g hlt hne (by intro cur fr hc;rw[h]at hc;cases hc)];exact h
def pg:List (Int×Value):=[(0,.func (.func 189) #[] #[]),(1,.func (.func 190) #[] #[]),(2,.func (.func 191) #[] #[])]
theorem Aj{V sz p q:Nat}{T T':List UInt8}(h:iL V sz p T=some (T',q)):q<=sz/\p<=q/\(T.length<=300->T'.length<=300):=ug h
theorem EC{V sz p q:Nat}{T T':List UInt8}(h:zg V sz p T=some (T',q)):q<=sz/\p<=q/\(T.length<=300->T'.length<=300):=by
 have:=vE h;exact⟨this.1,by omega,this.2.2⟩
theorem FO{V sz p q:Nat}{T T':List UInt8}(h:se V sz p T=some (T',q)):q<=sz/\p<=q/\(T.length<=300->T'.length<=300):=Bp h
def GW:Value:=.nilFunc
theorem D9(W:World):(zeroValue 236).run Tryz.prog W = .ok GW W:=by kernel_rfl
def PtI(b:Nat)(s:ByteArray)(d:Option (List UInt8×Nat))(w:World)(v:Value)(wr:World):Prop:=
 ∃(l:Bool) (p:Nat) (T:List UInt8),v = .bool l/\KU b w wr/\Sou wr b s p T/\T.length<=300/\p<=8*s.size/\jf wr w.heap.size pg/\(if l=true then some (T,p)else ik (ap s) (8*s.size) p T)=d
theorem jh{B:Nat}{a w:World}{b:Nat}(h:Below B a w)(hb:B<=b)(o:Obj):Below B a (w.putObj b o):=by
 refine h.trans ⟨rfl,rfl,rfl,by simp[World.putObj],fun k hk=>?_⟩;have:k≠b:=by omega
 simp[World.putObj,Ne.symm this]
set_option maxRecDepth 100000 in
theorem Dw(b p:Nat)(s:ByteArray)(T:List UInt8)(w:World)(h:Sou w b s p T)(hT:T.length<=300)(hp:p<=8*s.size)(hs:s.size<=2000000)(hO:ef w)(hb:0<b) :
  Calls Tryz.prog 154 #[.pointer (some ⟨b,0,none⟩)] w (db w b s (kK (ap s) (8*s.size) p T)):=by
 have hmm:=@run_makeMap Tryz.prog;have hu:=Tryz.underlying237;have hk:=a1U;obtain⟨d,hd⟩:∃d,ik (ap s) (8*s.size) p T=d:=⟨_,rfl⟩;unfold kK;rw[hd];have hlt:=h.lt;have hne:w.heap.size≠b:=by omega
 have m0:=Bf w;obtain⟨w1,r1,m1,e1⟩:=mn hu hk _ _ _ 0 (.func (.func 189) #[] #[]) m0 (by simp);obtain⟨w2,r2,m2,e2⟩:=mn hu hk _ _ _ 1 (.func (.func 190) #[] #[]) m1 (by simp);obtain⟨w3,r3,m3,e3⟩:=mn hu hk _ _ _ 2 (.func (.func 191) #[] #[]) m2 (by simp);have z1:w1.heap.size=w.heap.size+1:=by rw[e1];simp[World.putObj]
 have z2:w2.heap.size=w.heap.size+1:=by rw[e2];simpa[World.putObj]using z1
 have hB1:Below w.heap.size w w1:=by rw[e1];exact jh ((a0c _ w).alloc (a0a _) _) (a0a _) _
 have hB2:Below w.heap.size w w2:=by rw[e2];exact jh hB1 (a0a _) _
 have hB3:Below w.heap.size w w3:=by rw[e3];exact jh hB2 (a0a _) _
 simp only[a09,a1n]at m3;have HI:Hid (PtI b s d w (.bool false) w3):=⟨false,p,T,rfl,(KU.refl b w).later hB3 hlt,h.later hB3,hT,hp,m3,by simpa using hd⟩;have HG:=af (fun W k v (h:jf W w.heap.size pg) hm=>Be hu hk W w.heap.size _ k v true h hm (by decide));have HGn:=af (fun W (h:jf W w.heap.size pg)=>map_none hu hk W w.heap.size _ 3 _ h (by decide) (D9 W));have HN:=af (a0b hs (a0b hO (a0b hb hlt)));clear e1 e2 e3 z1 z2 hB1 hB2 hB3 m0 m1 m2 m3 hu hk hs hO hb hT hp h hd;go_enter Tryz.func154,Tryz.ntmps154;go_wp2_with fail;clear r1 r2 r3 hmm
 go_loopw [3,4,5] (fun v _ _ wr=>PtI b s d w v wr) (fun _ _ _ wr=>8*s.size-nj b wr)
 case atStart=>exact ae HI
 case round=>
  obtain⟨l,p,T,rfl,hku,hsou,hT,hp,hM,hd⟩:=hrel;clear HI;have HX:=af (a0b hku (a0b hsou (a0b hT (a0b hp hM))));have HPl:=af (hsou.place hp);have HD:=af hd;clear hku hsou hT hp hM hd;cases l
  ·
   simp only[a1l,a1m]at HD;rw[pV]at HD;have HM:=af (cj b p 1 s wr (ae HX).2.1.1 (ae HN).1 (by omega));unfold iE at HM;rcases h1:rdN (ap s) (8*s.size) p 1 with _|⟨a,q1⟩
   ·
    rw[h1]at HM HD;have Hn:Hid (d=none):=by show d=none;rw[←ae HD];rfl
    clear h1 HD;go_wp2_with fail;refine(ae HM).mono ?_;rintro e x1 ⟨k1,rfl⟩;refine⟨rfl,?_⟩;unfold db;rw[ae Hn];exact⟨(ae HX).1.trans k1.ku,rfl⟩
   rw[h1]at HM HD;simp only[a0f]at HD;have Hb1:=af (bQ h1);have HA:Hid (((a:Int) == 1)=decide (a=1)):=by show _=_;rw[a2R];simp;omega
   clear h1;go_wp2_with fail;refine(ae HM).mono ?_;rintro e x1 ⟨k1,rfl,r1⟩;have HX1:=af (a0b ((ae HX).1.trans k1.ku) (a0b ((ae HX).2.1.keep1 k1 r1) ((ae HX).2.2.2.2.ku k1.ku hne)));clear k1 r1 HM;obtain⟨l,hl⟩:∃l,((a:Int) == 1)=l:=⟨_,rfl⟩;have Hl:Hid (l=decide (a=1)):=by show _=_;rw[←hl];exact ae HA
   have HM:=af (cj b q1 2 s x1 (ae HX1).2.1.1 (ae HN).1 (by omega));unfold iE at HM;rcases h2:rdN (ap s) (8*s.size) q1 2 with _|⟨k,q2⟩
   ·
    rw[h2]at HM HD;have Hn:Hid (d=none):=by show d=none;rw[←ae HD];rfl
    clear h2 HD;go_wp2_with fail;refine(ae HM).mono ?_;rintro e x2 ⟨k2,rfl⟩;refine⟨rfl,?_⟩;unfold db;rw[ae Hn];exact⟨(ae HX1).1.trans k2.ku,rfl⟩
   rw[h2]at HM HD;simp only[a0f]at HD;have Hb2:=af (bQ h2);have hk4:k<4:=by have:=(bQ h2).2.2.2;omega
   clear h2;go_wp2_with fail;refine(ae HM).mono ?_;rintro e x2 ⟨k2,rfl,r2⟩;have HX2:=af (a0b ((ae HX1).1.trans k2.ku) (a0b ((ae HX1).2.1.keep1 k2 r2) ((ae HX1).2.2.ku k2.ku hne)));have HO2:Hid (ef x2):=(ae HN).2.1.below (ae HX2).1.1 (ae HN).2.2.1;clear k2 r2 HM HX1 hl HA;have e4:k=0∨k=1∨k=2∨k=3:=by omega
   clear hk4;rcases e4 with hk|hk|hk|hk
   ·
    have hkI:(k:Int)=0:=by omega
    have g1:(Instr.lookup 237 (.map (some w.heap.size)) (.int .i64 (k:Int)) true).run Tryz.prog x2 = .ok (.tuple #[.func (.func 189) #[] #[],.bool true]) x2:=by rw[hkI];exact ae HG x2 0 (.func (.func 189) #[] #[]) (ae HX2).2.2 (by unfold pg;simp)
    have HK:Hid (fZ (ap s) (8*s.size) k q2 T=iL (ap s) (8*s.size) q2 T):=by show _=_;rw[hk];unfold fZ;simp
    rw[ae HK]at HD;have HC:=af (tb b q2 s T x2 (ae HX2).2.1 (ae HX).2.2.1 (ae Hb2).1 (ae HN).1);unfold db at HC;clear hkI HK hk;go_wp2_with fail;refine(ci _).mono ?_;rintro e x3 ⟨rfl,hx3⟩;rw[hx3];clear hx3 x3 g1;rcases h3:iL (ap s) (8*s.size) q2 T with _|⟨T',q3⟩
    ·
     rw[h3]at HC HD;have Hn:Hid (d=none):=by show d=none;rw[←ae HD];rfl
     clear h3 HD;go_wp2_with fail;refine(ae HC).mono ?_;rintro e x4 ⟨k4,rfl⟩;refine⟨rfl,?_⟩;unfold db;rw[ae Hn];exact⟨(ae HX2).1.trans k4,rfl⟩
    rw[h3]at HC HD;simp only[a0f]at HD;have Hb3:Hid (q3<=8*s.size/\q2<=q3/\(T.length<=300->T'.length<=300)):=Aj h3;clear h3;go_wp2_with fail;refine(ae HC).mono ?_;rintro e x4 ⟨k4,rfl,s4⟩;have HI:Hid (PtI b s d w (.bool l) x4):=⟨l,q3,T',rfl,(ae HX2).1.trans k4,s4,(ae Hb3).2.2 (ae HX).2.2.1,(ae Hb3).1,(ae HX2).2.2.ku k4 hne,by rw[ae Hl];simpa using ae HD⟩;have HP4:=af (s4.place (ae Hb3).1);have Hlt:Hid (p<q3/\q3<=8*s.size):=⟨by have:=ae Hb1;have:=ae Hb2;have:=ae Hb3;omega,(ae Hb3).1⟩;clear k4 s4 HC HX2 HX;go_wp2_with fail;go_roundw
    case rel=>exact ae HI
    case measure=>rw[ae HP4,ae HPl];have:=ae Hlt;omega
   ·
    have hkI:(k:Int)=1:=by omega
    have g1:(Instr.lookup 237 (.map (some w.heap.size)) (.int .i64 (k:Int)) true).run Tryz.prog x2 = .ok (.tuple #[.func (.func 190) #[] #[],.bool true]) x2:=by rw[hkI];exact ae HG x2 1 (.func (.func 190) #[] #[]) (ae HX2).2.2 (by unfold pg;simp)
    have HK:Hid (fZ (ap s) (8*s.size) k q2 T=zg (ap s) (8*s.size) q2 T):=by show _=_;rw[hk];unfold fZ;simp
    rw[ae HK]at HD;have HC:=af (sS b q2 s T x2 (ae HX2).2.1 (ae HX).2.2.1 (ae Hb2).1 (ae HN).1);unfold db at HC;clear hkI HK hk;go_wp2_with fail;refine(ci _).mono ?_;rintro e x3 ⟨rfl,hx3⟩;rw[hx3];clear hx3 x3 g1;rcases h3:zg (ap s) (8*s.size) q2 T with _|⟨T',q3⟩
    ·
     rw[h3]at HC HD;have Hn:Hid (d=none):=by show d=none;rw[←ae HD];rfl
     clear h3 HD;go_wp2_with fail;refine(ae HC).mono ?_;rintro e x4 ⟨k4,rfl⟩;refine⟨rfl,?_⟩;unfold db;rw[ae Hn];exact⟨(ae HX2).1.trans k4,rfl⟩
    rw[h3]at HC HD;simp only[a0f]at HD;have Hb3:Hid (q3<=8*s.size/\q2<=q3/\(T.length<=300->T'.length<=300)):=EC h3;clear h3;go_wp2_with fail;refine(ae HC).mono ?_;rintro e x4 ⟨k4,rfl,s4⟩;have HI:Hid (PtI b s d w (.bool l) x4):=⟨l,q3,T',rfl,(ae HX2).1.trans k4,s4,(ae Hb3).2.2 (ae HX).2.2.1,(ae Hb3).1,(ae HX2).2.2.ku k4 hne,by rw[ae Hl];simpa using ae HD⟩;have HP4:=af (s4.place (ae Hb3).1);have Hlt:Hid (p<q3/\q3<=8*s.size):=⟨by have:=ae Hb1;have:=ae Hb2;have:=ae Hb3;omega,(ae Hb3).1⟩;clear k4 s4 HC HX2 HX;go_wp2_with fail;go_roundw
    case rel=>exact ae HI
    case measure=>rw[ae HP4,ae HPl];have:=ae Hlt;omega
   ·
    have hkI:(k:Int)=2:=by omega
    have g1:(Instr.lookup 237 (.map (some w.heap.size)) (.int .i64 (k:Int)) true).run Tryz.prog x2 = .ok (.tuple #[.func (.func 191) #[] #[],.bool true]) x2:=by rw[hkI];exact ae HG x2 2 (.func (.func 191) #[] #[]) (ae HX2).2.2 (by unfold pg;simp)
    have HK:Hid (fZ (ap s) (8*s.size) k q2 T=se (ap s) (8*s.size) q2 T):=by show _=_;rw[hk];unfold fZ;simp
    rw[ae HK]at HD;have HC:=af (xQ b q2 s T x2 (ae HX2).2.1 (ae HX).2.2.1 (ae HN).1 (ae HO2) (ae HN).2.2.1);unfold db at HC;clear hkI HK hk;go_wp2_with fail;refine(ci _).mono ?_;rintro e x3 ⟨rfl,hx3⟩;rw[hx3];clear hx3 x3 g1;rcases h3:se (ap s) (8*s.size) q2 T with _|⟨T',q3⟩
    ·
     rw[h3]at HC HD;have Hn:Hid (d=none):=by show d=none;rw[←ae HD];rfl
     clear h3 HD;go_wp2_with fail;refine(ae HC).mono ?_;rintro e x4 ⟨k4,rfl⟩;refine⟨rfl,?_⟩;unfold db;rw[ae Hn];exact⟨(ae HX2).1.trans k4,rfl⟩
    rw[h3]at HC HD;simp only[a0f]at HD;have Hb3:Hid (q3<=8*s.size/\q2<=q3/\(T.length<=300->T'.length<=300)):=FO h3;clear h3;go_wp2_with fail;refine(ae HC).mono ?_;rintro e x4 ⟨k4,rfl,s4⟩;have HI:Hid (PtI b s d w (.bool l) x4):=⟨l,q3,T',rfl,(ae HX2).1.trans k4,s4,(ae Hb3).2.2 (ae HX).2.2.1,(ae Hb3).1,(ae HX2).2.2.ku k4 hne,by rw[ae Hl];simpa using ae HD⟩;have HP4:=af (s4.place (ae Hb3).1);have Hlt:Hid (p<q3/\q3<=8*s.size):=⟨by have:=ae Hb1;have:=ae Hb2;have:=ae Hb3;omega,(ae Hb3).1⟩;clear k4 s4 HC HX2 HX;go_wp2_with fail;go_roundw
    case rel=>exact ae HI
    case measure=>rw[ae HP4,ae HPl];have:=ae Hlt;omega
   ·
    have hkI:(k:Int)=3:=by omega
    have g1:(Instr.lookup 237 (.map (some w.heap.size)) (.int .i64 (k:Int)) true).run Tryz.prog x2 = .ok (.tuple #[GW,.bool false]) x2:=by rw[hkI];exact ae HGn x2 (ae HX2).2.2
    have Hn:Hid (d=none):=by show d=none;rw[←ae HD,hk];unfold fZ;simp
    clear hkI hk HD;unfold GW at g1;go_wp2_with fail;refine(dC _).mono ?_;rintro e x3 ⟨rfl,hx3⟩;rw[hx3];clear hx3 x3;refine⟨rfl,?_⟩;unfold db;rw[ae Hn];exact⟨(ae HX2).1,rfl⟩
  ·
   simp only[a0Z]at HD;have HC:=af (mN b p s wr (ae HX).2.1.1 (ae HN).1 (ae HX).2.2.2.1);rcases h1:jS (ap s) p with _|q
   · rw[h1]at HC;have H1:=af h1;clear h1;go_wp2_with fail;refine(ae HC).mono ?_;rintro e x1 ⟨k1,rfl⟩;refine⟨rfl,?_⟩;unfold db;rw[←ae HD];simp only[a0f];rw[ae H1];exact⟨(ae HX).1.trans k1.ku,rfl⟩
   ·
    rw[h1]at HC;have H1:=af h1;clear h1;go_wp2_with fail;refine(ae HC).mono ?_;rintro e x1 ⟨k1,rfl,r1⟩;have HY:=af (a0b ((ae HX).1.trans k1.ku) ((ae HX).2.1.keep1 k1 r1));clear k1 r1 HC HX;go_wp2
    go_end0
    unfold db;rw[←ae HD];simp only[a0f];rw[ae H1];exact⟨(ae HY).1,trivial,(ae HY).2⟩
end Go.Proofs.YtbacpebljannfaaGreatDoor
