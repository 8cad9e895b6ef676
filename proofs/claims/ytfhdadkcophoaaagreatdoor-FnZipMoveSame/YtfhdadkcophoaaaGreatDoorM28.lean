/- Of what the proof is made: 2 texts, one behind the other. -/
import Derived.Test.YtfhdadkcophoaaaGreatDoorM9
import Derived.Test.YtfhdadkcophoaaaGreatDoorM23
import Derived.Test.YtfhdadkcophoaaaGreatDoorM26
import Derived.Test.YtfhdadkcophoaaaGreatDoorM22
import Derived.Test.YtfhdadkcophoaaaGreatDoorM5
set_option linter.unusedSimpArgs false
set_option linter.unusedVariables false
set_option maxHeartbeats 3200000
namespace Go.Proofs.YtfhdadkcophoaaaGreatDoor
open Go.RowKit
def bp(e:En):List Value:=[.string e.n,.int .i64 e.y,.int .i64 e.mo,.int .i64 e.d,.int .i64 e.h,.int .i64 e.mi,.int .i64 e.s,.string e.t]
theorem eV(e:En):(bp e).length=8:=rfl
theorem eW(e:En):∀u∈bp e,u.oneCell'=true:=by
 intro u hu;simp only[bp,a04,a2d,a1Y]at hu;rcases hu with rfl|rfl|rfl|rfl|rfl|rfl|rfl|rfl<;>rfl
abbrev dC(w:World)(base:Nat)(v:Value)(l:List En):Prop:=aQ 26 8 bp w base v l
theorem KZ{w:World}{g o:Nat}{e:En}(h:∀j,j<8->w.cell? ⟨g,o+j,none⟩=(bp e)[j]?):Ld w g o e:=
 ⟨h 0 (by omega),h 1 (by omega),h 2 (by omega),h 3 (by omega),h 4 (by omega),h 5 (by omega),h 6 (by omega),h 7 (by omega)⟩
theorem uu{w:World}{base g cap n:Nat}{l:List En}(hn:l.length=n)(h:dC w base (.slice (some ⟨g,0,none⟩) n cap) l)(i:Nat)(hi:i<n):Ld w g (i*8) (l.getD i default):=
 KZ fun j hj=>(aQ.at eV default hn h i j hi hj).1
theorem bq{w:World}{base cap n:Nat}{a:Option Addr}{l:List En}(hn:l.length=n)(h:dC w base (.slice a n cap) l):gT w a l:=by
 intro h0;obtain⟨g,rfl⟩:=h.somes h0;refine⟨g,0,rfl,h.below.2,fun i hi=>?_⟩;rw[a0G];exact uu hn h i (by omega)
theorem Tryz.infoEnt:(Tryz.prog.info? 26).map (fun i=>(i.zero,i.size,i.bytes))=some (some (.agg #[.string ⟨#[]⟩,.int .i64 0,.int .i64 0,.int .i64 0,.int .i64 0,.int .i64 0,.int .i64 0,.string ⟨#[]⟩]),8,80):=by kernel_rfl
end Go.Proofs.YtfhdadkcophoaaaGreatDoor
namespace Go.Proofs.YtfhdadkcophoaaaGreatDoor
open Go.RowKit Corb
theorem iH.ku{w w':World}{b g:Nat}{es:List (Int×Value)}(h:iH w g es)(hk:KU b w w')(hne:g≠b):iH w' g es:=by
 unfold iH at h ⊢;have hlt:g<w.heap.size:=(Array.getElem?_eq_some_iff.1 h).1;rw[hk.2 g hlt hne (by intro cur fr hc;rw[h]at hc;cases hc)];exact h
def om:List (Int×Value):=[(0,.func (.func 192) #[] #[]),(1,.func (.func 193) #[] #[]),(2,.func (.func 194) #[] #[])]
theorem z8{V sz p q:Nat}{T T':List UInt8}(h:ig V sz p T=some (T',q)):q<=sz/\p<=q/\(T.length<=300->T'.length<=300):=tz h
theorem FP{V sz p q:Nat}{T T':List UInt8}(h:ze V sz p T=some (T',q)):q<=sz/\p<=q/\(T.length<=300->T'.length<=300):=by
 have:=vf h;exact⟨this.1,by omega,this.2.2⟩
theorem GZ{V sz p q:Nat}{T T':List UInt8}(h:rp V sz p T=some (T',q)):q<=sz/\p<=q/\(T.length<=300->T'.length<=300):=Bw h
def I7:Value:=.nilFunc
theorem EE(W:World):(zeroValue 280).run Tryz.prog W = .ok I7 W:=by kernel_rfl
def PtI(b:Nat)(s:ByteArray)(d:Option (List UInt8×Nat))(w:World)(v:Value)(wr:World):Prop:=
 ∃(l:Bool) (p:Nat) (T:List UInt8),v = .bool l/\KU b w wr/\Sou wr b s p T/\T.length<=300/\p<=8*s.size/\iH wr w.heap.size om/\(if l=true then some (T,p)else gq (ar s) (8*s.size) p T)=d
theorem iJ{B:Nat}{a w:World}{b:Nat}(h:Below B a w)(hb:B<=b)(o:Obj):Below B a (w.putObj b o):=by
 refine h.trans ⟨rfl,rfl,rfl,by simp[World.putObj],fun k hk=>?_⟩;have:k≠b:=by omega
 simp[World.putObj,Ne.symm this]
set_option maxRecDepth 100000 in
theorem DW(b p:Nat)(s:ByteArray)(T:List UInt8)(w:World)(h:Sou w b s p T)(hT:T.length<=300)(hp:p<=8*s.size)(hs:s.size<=2000000)(hO:bY w)(hb:1<b) :
  Calls Tryz.prog 185 #[.pointer (some ⟨b,0,none⟩)] w (ci w b s (jI (ar s) (8*s.size) p T)):=by
 have hmm:=@run_makeMap Tryz.prog;have hu:=Tryz.underlying281;have hk:=a1P;obtain⟨d,hd⟩:∃d,gq (ar s) (8*s.size) p T=d:=⟨_,rfl⟩;unfold jI;rw[hd];have hlt:=h.lt;have hne:w.heap.size≠b:=by omega
 have m0:=Bo w;obtain⟨w1,r1,m1,e1⟩:=lu hu hk _ _ _ 0 (.func (.func 192) #[] #[]) m0 (by simp);obtain⟨w2,r2,m2,e2⟩:=lu hu hk _ _ _ 1 (.func (.func 193) #[] #[]) m1 (by simp);obtain⟨w3,r3,m3,e3⟩:=lu hu hk _ _ _ 2 (.func (.func 194) #[] #[]) m2 (by simp);have hB1:Below w.heap.size w w1:=by rw[e1];exact iJ ((a0b _ w).alloc (a0a _) _) (a0a _) _
 have hB2:Below w.heap.size w w2:=by rw[e2];exact iJ hB1 (a0a _) _
 have hB3:Below w.heap.size w w3:=by rw[e3];exact iJ hB2 (a0a _) _
 simp only[a0R,a08]at m3;have HI:Hid (PtI b s d w (.bool false) w3):=⟨false,p,T,rfl,(KU.refl b w).later hB3 hlt,h.later hB3,hT,hp,m3,by simpa using hd⟩;have HG:=af (fun W k v (h:iH W w.heap.size om) hm=>Bl hu hk W w.heap.size _ k v true h hm (by decide));have HGn:=af (fun W (h:iH W w.heap.size om)=>map_none hu hk W w.heap.size _ 3 _ h (by decide) (EE W));have HN:=af (a0c hs (a0c hO (a0c hb hlt)));clear e1 e2 e3 hB1 hB2 hB3 m0 m1 m2 m3 hu hk hs hO hb hT hp h hd;go_enter Tryz.func185,Tryz.ntmps185;go_wp2_with fail;clear r1 r2 r3 hmm
 go_loopw [3,4,5] (fun v _ _ wr=>PtI b s d w v wr) (fun _ _ _ wr=>8*s.size-mq b wr)
 case atStart=>exact ae HI
 case round=>
  obtain⟨l,p,T,rfl,hku,hsou,hT,hp,hM,hd⟩:=hrel;clear HI;have HX:=af (a0c hku (a0c hsou (a0c hT (a0c hp hM))));have HPl:=af (hsou.place hp);have HD:=af hd;clear hku hsou hT hp hM hd;cases l
  ·
   simp only[a1m,a1n]at HD;rw[oY]at HD;have HM:=af (bC b p 1 s wr (ae HX).2.1.1 (ae HN).1 (by omega));unfold gU at HM;rcases h1:rdN (ar s) (8*s.size) p 1 with _|⟨a,q1⟩
   ·
    rw[h1]at HM HD;have Hn:Hid (d=none):=by show d=none;rw[←ae HD];rfl
    clear h1 HD;go_wp2_with fail;refine(ae HM).mono ?_;rintro e x1 ⟨k1,rfl⟩;refine⟨rfl,?_⟩;unfold ci;rw[ae Hn];exact⟨(ae HX).1.trans k1.ku,rfl⟩
   rw[h1]at HM HD;simp only[a0f]at HD;have Hb1:=af (bw h1);have HA:Hid (((a:Int) == 1)=decide (a=1)):=by show _=_;rw[a2i];simp;omega
   clear h1;go_wp2_with fail;refine(ae HM).mono ?_;rintro e x1 ⟨k1,rfl,r1⟩;have HX1:=af (a0c ((ae HX).1.trans k1.ku) (a0c ((ae HX).2.1.keep1 k1 r1) ((ae HX).2.2.2.2.ku k1.ku hne)));clear k1 r1 HM;obtain⟨l,hl⟩:∃l,((a:Int) == 1)=l:=⟨_,rfl⟩;have Hl:Hid (l=decide (a=1)):=by show _=_;rw[←hl];exact ae HA
   have HM:=af (bC b q1 2 s x1 (ae HX1).2.1.1 (ae HN).1 (by omega));unfold gU at HM;rcases h2:rdN (ar s) (8*s.size) q1 2 with _|⟨k,q2⟩
   ·
    rw[h2]at HM HD;have Hn:Hid (d=none):=by show d=none;rw[←ae HD];rfl
    clear h2 HD;go_wp2_with fail;refine(ae HM).mono ?_;rintro e x2 ⟨k2,rfl⟩;refine⟨rfl,?_⟩;unfold ci;rw[ae Hn];exact⟨(ae HX1).1.trans k2.ku,rfl⟩
   rw[h2]at HM HD;simp only[a0f]at HD;have Hb2:=af (bw h2);have hk4:k<4:=by have:=(bw h2).2.2.2;omega
   clear h2;go_wp2_with fail;refine(ae HM).mono ?_;rintro e x2 ⟨k2,rfl,r2⟩;have HX2:=af (a0c ((ae HX1).1.trans k2.ku) (a0c ((ae HX1).2.1.keep1 k2 r2) ((ae HX1).2.2.ku k2.ku hne)));have HO2:Hid (bY x2):=(ae HN).2.1.below (ae HX2).1.1 (ae HN).2.2.1;clear k2 r2 HM HX1 hl HA;have e4:k=0∨k=1∨k=2∨k=3:=by omega
   clear hk4;rcases e4 with hk|hk|hk|hk
   ·
    have hkI:(k:Int)=0:=by omega
    have g1:(Instr.lookup 281 (.map (some w.heap.size)) (.int .i64 (k:Int)) true).run Tryz.prog x2 = .ok (.tuple #[.func (.func 192) #[] #[],.bool true]) x2:=by rw[hkI];exact ae HG x2 0 (.func (.func 192) #[] #[]) (ae HX2).2.2 (by unfold om;simp)
    have HK:Hid (fu (ar s) (8*s.size) k q2 T=ig (ar s) (8*s.size) q2 T):=by show _=_;rw[hk];unfold fu;simp
    rw[ae HK]at HD;have HC:=af (sy b q2 s T x2 (ae HX2).2.1 (ae HX).2.2.1 (ae Hb2).1 (ae HN).1);unfold ci at HC;clear hkI HK hk;go_wp2_with fail;refine(ct _).mono ?_;rintro e x3 ⟨rfl,hx3⟩;rw[hx3];clear hx3 x3 g1;rcases h3:ig (ar s) (8*s.size) q2 T with _|⟨T',q3⟩
    ·
     rw[h3]at HC HD;have Hn:Hid (d=none):=by show d=none;rw[←ae HD];rfl
     clear h3 HD;go_wp2_with fail;refine(ae HC).mono ?_;rintro e x4 ⟨k4,rfl⟩;refine⟨rfl,?_⟩;unfold ci;rw[ae Hn];exact⟨(ae HX2).1.trans k4,rfl⟩
    rw[h3]at HC HD;simp only[a0f]at HD;have Hb3:Hid (q3<=8*s.size/\q2<=q3/\(T.length<=300->T'.length<=300)):=z8 h3;clear h3;go_wp2_with fail;refine(ae HC).mono ?_;rintro e x4 ⟨k4,rfl,s4⟩;have HI:Hid (PtI b s d w (.bool l) x4):=⟨l,q3,T',rfl,(ae HX2).1.trans k4,s4,(ae Hb3).2.2 (ae HX).2.2.1,(ae Hb3).1,(ae HX2).2.2.ku k4 hne,by rw[ae Hl];simpa using ae HD⟩;have HP4:=af (s4.place (ae Hb3).1);have Hlt:Hid (p<q3/\q3<=8*s.size):=⟨by have:=ae Hb1;have:=ae Hb2;have:=ae Hb3;omega,(ae Hb3).1⟩;clear k4 s4 HC HX2 HX;go_wp2_with fail;go_roundw
    case rel=>exact ae HI
    case measure=>rw[ae HP4,ae HPl];have:=ae Hlt;omega
   ·
    have hkI:(k:Int)=1:=by omega
    have g1:(Instr.lookup 281 (.map (some w.heap.size)) (.int .i64 (k:Int)) true).run Tryz.prog x2 = .ok (.tuple #[.func (.func 193) #[] #[],.bool true]) x2:=by rw[hkI];exact ae HG x2 1 (.func (.func 193) #[] #[]) (ae HX2).2.2 (by unfold om;simp)
    have HK:Hid (fu (ar s) (8*s.size) k q2 T=ze (ar s) (8*s.size) q2 T):=by show _=_;rw[hk];unfold fu;simp
    rw[ae HK]at HD;have HC:=af (sd b q2 s T x2 (ae HX2).2.1 (ae HX).2.2.1 (ae Hb2).1 (ae HN).1);unfold ci at HC;clear hkI HK hk;go_wp2_with fail;refine(ct _).mono ?_;rintro e x3 ⟨rfl,hx3⟩;rw[hx3];clear hx3 x3 g1;rcases h3:ze (ar s) (8*s.size) q2 T with _|⟨T',q3⟩
    ·
     rw[h3]at HC HD;have Hn:Hid (d=none):=by show d=none;rw[←ae HD];rfl
     clear h3 HD;go_wp2_with fail;refine(ae HC).mono ?_;rintro e x4 ⟨k4,rfl⟩;refine⟨rfl,?_⟩;unfold ci;rw[ae Hn];exact⟨(ae HX2).1.trans k4,rfl⟩
    rw[h3]at HC HD;simp only[a0f]at HD;have Hb3:Hid (q3<=8*s.size/\q2<=q3/\(T.length<=300->T'.length<=300)):=FP h3;clear h3;go_wp2_with fail;refine(ae HC).mono ?_;rintro e x4 ⟨k4,rfl,s4⟩;have HI:Hid (PtI b s d w (.bool l) x4):=⟨l,q3,T',rfl,(ae HX2).1.trans k4,s4,(ae Hb3).2.2 (ae HX).2.2.1,(ae Hb3).1,(ae HX2).2.2.ku k4 hne,by rw[ae Hl];simpa using ae HD⟩;have HP4:=af (s4.place (ae Hb3).1);have Hlt:Hid (p<q3/\q3<=8*s.size):=⟨by have:=ae Hb1;have:=ae Hb2;have:=ae Hb3;omega,(ae Hb3).1⟩;clear k4 s4 HC HX2 HX;go_wp2_with fail;go_roundw
    case rel=>exact ae HI
    case measure=>rw[ae HP4,ae HPl];have:=ae Hlt;omega
   ·
    have hkI:(k:Int)=2:=by omega
    have g1:(Instr.lookup 281 (.map (some w.heap.size)) (.int .i64 (k:Int)) true).run Tryz.prog x2 = .ok (.tuple #[.func (.func 194) #[] #[],.bool true]) x2:=by rw[hkI];exact ae HG x2 2 (.func (.func 194) #[] #[]) (ae HX2).2.2 (by unfold om;simp)
    have HK:Hid (fu (ar s) (8*s.size) k q2 T=rp (ar s) (8*s.size) q2 T):=by show _=_;rw[hk];unfold fu;simp
    rw[ae HK]at HD;have HC:=af (xD b q2 s T x2 (ae HX2).2.1 (ae HX).2.2.1 (ae HN).1 (ae HO2) (ae HN).2.2.1);unfold ci at HC;clear hkI HK hk;go_wp2_with fail;refine(ct _).mono ?_;rintro e x3 ⟨rfl,hx3⟩;rw[hx3];clear hx3 x3 g1;rcases h3:rp (ar s) (8*s.size) q2 T with _|⟨T',q3⟩
    ·
     rw[h3]at HC HD;have Hn:Hid (d=none):=by show d=none;rw[←ae HD];rfl
     clear h3 HD;go_wp2_with fail;refine(ae HC).mono ?_;rintro e x4 ⟨k4,rfl⟩;refine⟨rfl,?_⟩;unfold ci;rw[ae Hn];exact⟨(ae HX2).1.trans k4,rfl⟩
    rw[h3]at HC HD;simp only[a0f]at HD;have Hb3:Hid (q3<=8*s.size/\q2<=q3/\(T.length<=300->T'.length<=300)):=GZ h3;clear h3;go_wp2_with fail;refine(ae HC).mono ?_;rintro e x4 ⟨k4,rfl,s4⟩;have HI:Hid (PtI b s d w (.bool l) x4):=⟨l,q3,T',rfl,(ae HX2).1.trans k4,s4,(ae Hb3).2.2 (ae HX).2.2.1,(ae Hb3).1,(ae HX2).2.2.ku k4 hne,by rw[ae Hl];simpa using ae HD⟩;have HP4:=af (s4.place (ae Hb3).1);have Hlt:Hid (p<q3/\q3<=8*s.size):=⟨by have:=ae Hb1;have:=ae Hb2;have:=ae Hb3;omega,(ae Hb3).1⟩;clear k4 s4 HC HX2 HX;go_wp2_with fail;go_roundw
    case rel=>exact ae HI
    case measure=>rw[ae HP4,ae HPl];have:=ae Hlt;omega
   ·
    have hkI:(k:Int)=3:=by omega
    have g1:(Instr.lookup 281 (.map (some w.heap.size)) (.int .i64 (k:Int)) true).run Tryz.prog x2 = .ok (.tuple #[I7,.bool false]) x2:=by rw[hkI];exact ae HGn x2 (ae HX2).2.2
    have Hn:Hid (d=none):=by show d=none;rw[←ae HD,hk];unfold fu;simp
    clear hkI hk HD;unfold I7 at g1;go_wp2_with fail;refine(dN _).mono ?_;rintro e x3 ⟨rfl,hx3⟩;rw[hx3];clear hx3 x3;refine⟨rfl,?_⟩;unfold ci;rw[ae Hn];exact⟨(ae HX2).1,rfl⟩
  ·
   simp only[a0U]at HD;have HC:=af (lW b p s wr (ae HX).2.1.1 (ae HN).1 (ae HX).2.2.2.1);rcases h1:je (ar s) p with _|q
   · rw[h1]at HC;have H1:=af h1;clear h1;go_wp2_with fail;refine(ae HC).mono ?_;rintro e x1 ⟨k1,rfl⟩;refine⟨rfl,?_⟩;unfold ci;rw[←ae HD];simp only[a0f];rw[ae H1];exact⟨(ae HX).1.trans k1.ku,rfl⟩
   ·
    rw[h1]at HC;have H1:=af h1;clear h1;go_wp2_with fail;refine(ae HC).mono ?_;rintro e x1 ⟨k1,rfl,r1⟩;have HY:=af (a0c ((ae HX).1.trans k1.ku) ((ae HX).2.1.keep1 k1 r1));clear k1 r1 HC HX;go_wp2
    go_end0
    unfold ci;rw[←ae HD];simp only[a0f];rw[ae H1];exact⟨(ae HY).1,trivial,(ae HY).2⟩
end Go.Proofs.YtfhdadkcophoaaaGreatDoor
