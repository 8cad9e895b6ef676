/- Of what the proof is made: 4 texts, one behind the other. -/
import Derived.Test.YtkdlcomfpffhhaaGreatDoorM25
import Derived.Test.YtkdlcomfpffhhaaGreatDoorM22
import Derived.Test.YtkdlcomfpffhhaaGreatDoorM4
import Derived.Test.YtkdlcomfpffhhaaGreatDoorM8
import Derived.Test.YtkdlcomfpffhhaaGreatDoorM21
import Derived.Test.YtkdlcomfpffhhaaGreatDoorM3
import Derived.Sort.Walk0
set_option linter.unusedSimpArgs false
set_option linter.unusedVariables false
set_option maxHeartbeats 3200000
namespace Go.Proofs.YtkdlcomfpffhhaaGreatDoor
open Go.RowKit Corb
theorem iw.ku{w w':World}{b g:Nat}{es:List (Int×Value)}(h:iw w g es)(hk:KU b w w')(hne:g≠b):iw w' g es:=by
 unfold iw at h ⊢;have hlt:g<w.heap.size:=(Array.getElem?_eq_some_iff.1 h).1;rw[hk.2 g hlt hne (by intro cur fr hc;rw[h]at hc;cases hc)];exact h
def oj:List (Int×Value):=[(0,.func (.func 246) #[] #[]),(1,.func (.func 247) #[] #[]),(2,.func (.func 248) #[] #[])]
theorem Ae{V sz p q:Nat}{T T':List UInt8}(h:hH V sz p T=some (T',q)):q<=sz/\p<=q/\(T.length<=300->T'.length<=300):=tF h
theorem FQ{V sz p q:Nat}{T T':List UInt8}(h:zg V sz p T=some (T',q)):q<=sz/\p<=q/\(T.length<=300->T'.length<=300):=by
 have:=vh h;exact⟨this.1,by omega,this.2.2⟩
theorem Hf{V sz p q:Nat}{T T':List UInt8}(h:rm V sz p T=some (T',q)):q<=sz/\p<=q/\(T.length<=300->T'.length<=300):=BB h
def Jg:Value:=.nilFunc
theorem EM(W:World):(zeroValue 332).run Tryz.prog W = .ok Jg W:=by kernel_rfl
def PtI(b:Nat)(s:ByteArray)(d:Option (List UInt8×Nat))(w:World)(v:Value)(wr:World):Prop:=
 ∃(l:Bool) (p:Nat) (T:List UInt8),v = .bool l/\KU b w wr/\Sou wr b s p T/\T.length<=300/\p<=8*s.size/\iw wr w.heap.size oj/\(if l=true then some (T,p)else ge (au s) (8*s.size) p T)=d
theorem iz{B:Nat}{a w:World}{b:Nat}(h:Below B a w)(hb:B<=b)(o:Obj):Below B a (w.putObj b o):=by
 refine h.trans ⟨rfl,rfl,rfl,by simp[World.putObj],fun k hk=>?_⟩;have:k≠b:=by omega
 simp[World.putObj,Ne.symm this]
set_option maxRecDepth 100000 in
theorem DW(b p:Nat)(s:ByteArray)(T:List UInt8)(w:World)(h:Sou w b s p T)(hT:T.length<=300)(hp:p<=8*s.size)(hs:s.size<=2000000)(hO:dk w)(hb:1<b) :
  Calls Tryz.prog 224 #[.pointer (some ⟨b,0,none⟩)] w (bY w b s (jz (au s) (8*s.size) p T)):=by
 have hmm:=@run_makeMap Tryz.prog;have hu:=Tryz.underlying333;have hk:=a14;obtain⟨d,hd⟩:∃d,ge (au s) (8*s.size) p T=d:=⟨_,rfl⟩;unfold jz;rw[hd];have hlt:=h.lt;have hne:w.heap.size≠b:=by omega
 have m0:=Br w;obtain⟨w1,r1,m1,e1⟩:=ln hu hk _ _ _ 0 (.func (.func 246) #[] #[]) m0 (by simp);obtain⟨w2,r2,m2,e2⟩:=ln hu hk _ _ _ 1 (.func (.func 247) #[] #[]) m1 (by simp);obtain⟨w3,r3,m3,e3⟩:=ln hu hk _ _ _ 2 (.func (.func 248) #[] #[]) m2 (by simp);have hB1:Below w.heap.size w w1:=by rw[e1];exact iz ((a0c _ w).alloc (a0a _) _) (a0a _) _
 have hB2:Below w.heap.size w w2:=by rw[e2];exact iz hB1 (a0a _) _
 have hB3:Below w.heap.size w w3:=by rw[e3];exact iz hB2 (a0a _) _
 simp only[a04,a1h]at m3;have HI:Hid (PtI b s d w (.bool false) w3):=⟨false,p,T,rfl,(KU.refl b w).later hB3 hlt,h.later hB3,hT,hp,m3,by simpa using hd⟩;have HG:=af (fun W k v (h:iw W w.heap.size oj) hm=>Bq hu hk W w.heap.size _ k v true h hm (by decide));have HGn:=af (fun W (h:iw W w.heap.size oj)=>map_none hu hk W w.heap.size _ 3 _ h (by decide) (EM W));have HN:=af (a0b hs (a0b hO (a0b hb hlt)));clear e1 e2 e3 hB1 hB2 hB3 m0 m1 m2 m3 hu hk hs hO hb hT hp h hd;go_enter Tryz.func224,Tryz.ntmps224;go_wp2_with fail;clear r1 r2 r3 hmm
 go_loopw [3,4,5] (fun v _ _ wr=>PtI b s d w v wr) (fun _ _ _ wr=>8*s.size-mh b wr)
 case atStart=>exact ae HI
 case round=>
  obtain⟨l,p,T,rfl,hku,hsou,hT,hp,hM,hd⟩:=hrel;clear HI;have HX:=af (a0b hku (a0b hsou (a0b hT (a0b hp hM))));have HPl:=af (hsou.place hp);have HD:=af hd;clear hku hsou hT hp hM hd;cases l
  ·
   simp only[a1w,a1x]at HD;rw[oZ]at HD;have HM:=af (bu b p 1 s wr (ae HX).2.1.1 (ae HN).1 (by omega));unfold gK at HM;rcases h1:rdN (au s) (8*s.size) p 1 with _|⟨a,q1⟩
   ·
    rw[h1]at HM HD;have Hn:Hid (d=none):=by show d=none;rw[←ae HD];rfl
    clear h1 HD;go_wp2_with fail;refine(ae HM).mono ?_;rintro e x1 ⟨k1,rfl⟩;refine⟨rfl,?_⟩;unfold bY;rw[ae Hn];exact⟨(ae HX).1.trans k1.ku,rfl⟩
   rw[h1]at HM HD;simp only[a0g]at HD;have Hb1:=af (bq h1);have HA:Hid (((a:Int) == 1)=decide (a=1)):=by show _=_;rw[a2g];simp;omega
   clear h1;go_wp2_with fail;refine(ae HM).mono ?_;rintro e x1 ⟨k1,rfl,r1⟩;have HX1:=af (a0b ((ae HX).1.trans k1.ku) (a0b ((ae HX).2.1.keep1 k1 r1) ((ae HX).2.2.2.2.ku k1.ku hne)));clear k1 r1 HM;obtain⟨l,hl⟩:∃l,((a:Int) == 1)=l:=⟨_,rfl⟩;have Hl:Hid (l=decide (a=1)):=by show _=_;rw[←hl];exact ae HA
   have HM:=af (bu b q1 2 s x1 (ae HX1).2.1.1 (ae HN).1 (by omega));unfold gK at HM;rcases h2:rdN (au s) (8*s.size) q1 2 with _|⟨k,q2⟩
   ·
    rw[h2]at HM HD;have Hn:Hid (d=none):=by show d=none;rw[←ae HD];rfl
    clear h2 HD;go_wp2_with fail;refine(ae HM).mono ?_;rintro e x2 ⟨k2,rfl⟩;refine⟨rfl,?_⟩;unfold bY;rw[ae Hn];exact⟨(ae HX1).1.trans k2.ku,rfl⟩
   rw[h2]at HM HD;simp only[a0g]at HD;have Hb2:=af (bq h2);have hk4:k<4:=by have:=(bq h2).2.2.2;omega
   clear h2;go_wp2_with fail;refine(ae HM).mono ?_;rintro e x2 ⟨k2,rfl,r2⟩;have HX2:=af (a0b ((ae HX1).1.trans k2.ku) (a0b ((ae HX1).2.1.keep1 k2 r2) ((ae HX1).2.2.ku k2.ku hne)));have HO2:Hid (dk x2):=(ae HN).2.1.below (ae HX2).1.1 (ae HN).2.2.1;clear k2 r2 HM HX1 hl HA;have e4:k=0∨k=1∨k=2∨k=3:=by omega
   clear hk4;rcases e4 with hk|hk|hk|hk
   ·
    have hkI:(k:Int)=0:=by omega
    have g1:(Instr.lookup 333 (.map (some w.heap.size)) (.int .i64 (k:Int)) true).run Tryz.prog x2 = .ok (.tuple #[.func (.func 246) #[] #[],.bool true]) x2:=by rw[hkI];exact ae HG x2 0 (.func (.func 246) #[] #[]) (ae HX2).2.2 (by unfold oj;simp)
    have HK:Hid (fq (au s) (8*s.size) k q2 T=hH (au s) (8*s.size) q2 T):=by show _=_;rw[hk];unfold fq;simp
    rw[ae HK]at HD;have HC:=af (sC b q2 s T x2 (ae HX2).2.1 (ae HX).2.2.1 (ae Hb2).1 (ae HN).1);unfold bY at HC;clear hkI HK hk;go_wp2_with fail;refine(ci _).mono ?_;rintro e x3 ⟨rfl,hx3⟩;rw[hx3];clear hx3 x3 g1;rcases h3:hH (au s) (8*s.size) q2 T with _|⟨T',q3⟩
    ·
     rw[h3]at HC HD;have Hn:Hid (d=none):=by show d=none;rw[←ae HD];rfl
     clear h3 HD;go_wp2_with fail;refine(ae HC).mono ?_;rintro e x4 ⟨k4,rfl⟩;refine⟨rfl,?_⟩;unfold bY;rw[ae Hn];exact⟨(ae HX2).1.trans k4,rfl⟩
    rw[h3]at HC HD;simp only[a0g]at HD;have Hb3:Hid (q3<=8*s.size/\q2<=q3/\(T.length<=300->T'.length<=300)):=Ae h3;clear h3;go_wp2_with fail;refine(ae HC).mono ?_;rintro e x4 ⟨k4,rfl,s4⟩;have HI:Hid (PtI b s d w (.bool l) x4):=⟨l,q3,T',rfl,(ae HX2).1.trans k4,s4,(ae Hb3).2.2 (ae HX).2.2.1,(ae Hb3).1,(ae HX2).2.2.ku k4 hne,by rw[ae Hl];simpa using ae HD⟩;have HP4:=af (s4.place (ae Hb3).1);have Hlt:Hid (p<q3/\q3<=8*s.size):=⟨by have:=ae Hb1;have:=ae Hb2;have:=ae Hb3;omega,(ae Hb3).1⟩;clear k4 s4 HC HX2 HX;go_wp2_with fail;go_roundw
    case rel=>exact ae HI
    case measure=>rw[ae HP4,ae HPl];have:=ae Hlt;omega
   ·
    have hkI:(k:Int)=1:=by omega
    have g1:(Instr.lookup 333 (.map (some w.heap.size)) (.int .i64 (k:Int)) true).run Tryz.prog x2 = .ok (.tuple #[.func (.func 247) #[] #[],.bool true]) x2:=by rw[hkI];exact ae HG x2 1 (.func (.func 247) #[] #[]) (ae HX2).2.2 (by unfold oj;simp)
    have HK:Hid (fq (au s) (8*s.size) k q2 T=zg (au s) (8*s.size) q2 T):=by show _=_;rw[hk];unfold fq;simp
    rw[ae HK]at HD;have HC:=af (sf b q2 s T x2 (ae HX2).2.1 (ae HX).2.2.1 (ae Hb2).1 (ae HN).1);unfold bY at HC;clear hkI HK hk;go_wp2_with fail;refine(ci _).mono ?_;rintro e x3 ⟨rfl,hx3⟩;rw[hx3];clear hx3 x3 g1;rcases h3:zg (au s) (8*s.size) q2 T with _|⟨T',q3⟩
    ·
     rw[h3]at HC HD;have Hn:Hid (d=none):=by show d=none;rw[←ae HD];rfl
     clear h3 HD;go_wp2_with fail;refine(ae HC).mono ?_;rintro e x4 ⟨k4,rfl⟩;refine⟨rfl,?_⟩;unfold bY;rw[ae Hn];exact⟨(ae HX2).1.trans k4,rfl⟩
    rw[h3]at HC HD;simp only[a0g]at HD;have Hb3:Hid (q3<=8*s.size/\q2<=q3/\(T.length<=300->T'.length<=300)):=FQ h3;clear h3;go_wp2_with fail;refine(ae HC).mono ?_;rintro e x4 ⟨k4,rfl,s4⟩;have HI:Hid (PtI b s d w (.bool l) x4):=⟨l,q3,T',rfl,(ae HX2).1.trans k4,s4,(ae Hb3).2.2 (ae HX).2.2.1,(ae Hb3).1,(ae HX2).2.2.ku k4 hne,by rw[ae Hl];simpa using ae HD⟩;have HP4:=af (s4.place (ae Hb3).1);have Hlt:Hid (p<q3/\q3<=8*s.size):=⟨by have:=ae Hb1;have:=ae Hb2;have:=ae Hb3;omega,(ae Hb3).1⟩;clear k4 s4 HC HX2 HX;go_wp2_with fail;go_roundw
    case rel=>exact ae HI
    case measure=>rw[ae HP4,ae HPl];have:=ae Hlt;omega
   ·
    have hkI:(k:Int)=2:=by omega
    have g1:(Instr.lookup 333 (.map (some w.heap.size)) (.int .i64 (k:Int)) true).run Tryz.prog x2 = .ok (.tuple #[.func (.func 248) #[] #[],.bool true]) x2:=by rw[hkI];exact ae HG x2 2 (.func (.func 248) #[] #[]) (ae HX2).2.2 (by unfold oj;simp)
    have HK:Hid (fq (au s) (8*s.size) k q2 T=rm (au s) (8*s.size) q2 T):=by show _=_;rw[hk];unfold fq;simp
    rw[ae HK]at HD;have HC:=af (xy b q2 s T x2 (ae HX2).2.1 (ae HX).2.2.1 (ae HN).1 (ae HO2) (ae HN).2.2.1);unfold bY at HC;clear hkI HK hk;go_wp2_with fail;refine(ci _).mono ?_;rintro e x3 ⟨rfl,hx3⟩;rw[hx3];clear hx3 x3 g1;rcases h3:rm (au s) (8*s.size) q2 T with _|⟨T',q3⟩
    ·
     rw[h3]at HC HD;have Hn:Hid (d=none):=by show d=none;rw[←ae HD];rfl
     clear h3 HD;go_wp2_with fail;refine(ae HC).mono ?_;rintro e x4 ⟨k4,rfl⟩;refine⟨rfl,?_⟩;unfold bY;rw[ae Hn];exact⟨(ae HX2).1.trans k4,rfl⟩
    rw[h3]at HC HD;simp only[a0g]at HD;have Hb3:Hid (q3<=8*s.size/\q2<=q3/\(T.length<=300->T'.length<=300)):=Hf h3;clear h3;go_wp2_with fail;refine(ae HC).mono ?_;rintro e x4 ⟨k4,rfl,s4⟩;have HI:Hid (PtI b s d w (.bool l) x4):=⟨l,q3,T',rfl,(ae HX2).1.trans k4,s4,(ae Hb3).2.2 (ae HX).2.2.1,(ae Hb3).1,(ae HX2).2.2.ku k4 hne,by rw[ae Hl];simpa using ae HD⟩;have HP4:=af (s4.place (ae Hb3).1);have Hlt:Hid (p<q3/\q3<=8*s.size):=⟨by have:=ae Hb1;have:=ae Hb2;have:=ae Hb3;omega,(ae Hb3).1⟩;clear k4 s4 HC HX2 HX;go_wp2_with fail;go_roundw
    case rel=>exact ae HI
    case measure=>rw[ae HP4,ae HPl];have:=ae Hlt;omega
   ·
    have hkI:(k:Int)=3:=by omega
    have g1:(Instr.lookup 333 (.map (some w.heap.size)) (.int .i64 (k:Int)) true).run Tryz.prog x2 = .ok (.tuple #[Jg,.bool false]) x2:=by rw[hkI];exact ae HGn x2 (ae HX2).2.2
    have Hn:Hid (d=none):=by show d=none;rw[←ae HD,hk];unfold fq;simp
    clear hkI hk HD;unfold Jg at g1;go_wp2_with fail;refine(dP _).mono ?_;rintro e x3 ⟨rfl,hx3⟩;rw[hx3];clear hx3 x3;refine⟨rfl,?_⟩;unfold bY;rw[ae Hn];exact⟨(ae HX2).1,rfl⟩
  ·
   simp only[a0Z]at HD;have HC:=af (lP b p s wr (ae HX).2.1.1 (ae HN).1 (ae HX).2.2.2.1);rcases h1:iS (au s) p with _|q
   · rw[h1]at HC;have H1:=af h1;clear h1;go_wp2_with fail;refine(ae HC).mono ?_;rintro e x1 ⟨k1,rfl⟩;refine⟨rfl,?_⟩;unfold bY;rw[←ae HD];simp only[a0g];rw[ae H1];exact⟨(ae HX).1.trans k1.ku,rfl⟩
   ·
    rw[h1]at HC;have H1:=af h1;clear h1;go_wp2_with fail;refine(ae HC).mono ?_;rintro e x1 ⟨k1,rfl,r1⟩;have HY:=af (a0b ((ae HX).1.trans k1.ku) ((ae HX).2.1.keep1 k1 r1));clear k1 r1 HC HX;go_wp2
    go_end0
    unfold bY;rw[←ae HD];simp only[a0g];rw[ae H1];exact⟨(ae HY).1,trivial,(ae HY).2⟩
end Go.Proofs.YtkdlcomfpffhhaaGreatDoor
namespace Go.Proofs.YtkdlcomfpffhhaaGreatDoor
open Go.RowKit
structure Fl where
 p:ByteArray
 t:ByteArray
instance:Inhabited Fl:=⟨⟨ByteArray.empty,ByteArray.empty⟩⟩
def aH(e:Fl):List Value:=[.string e.p,.string e.t]
theorem cR(e:Fl):(aH e).length=2:=rfl
theorem db(e:Fl):∀u∈aH e,u.oneCell'=true:=by
 intro u hu;simp only[aH,a1j,a2t,a19]at hu;rcases hu with rfl|rfl<;>rfl
def BV(w:World)(g o:Nat)(e:Fl):Prop:=w.cell? ⟨g,o,none⟩=some (.string e.p)/\w.cell? ⟨g,o+1,none⟩=some (.string e.t)
def nE(w:World)(a:Option Addr)(l:List Fl):Prop:=0<l.length->∃g o,a=some ⟨g,o,none⟩/\g<w.heap.size/\∀i,i<l.length->BV w g (o+i*2) (l.getD i default)
theorem nE.later{w w':World}{a:Option Addr}{l:List Fl}(h:nE w a l)(hb:Below w.heap.size w w'):nE w' a l:=by
 intro h0;obtain⟨g,o,e,hg,hc⟩:=h h0;refine⟨g,o,e,a0k hg hb.size,fun i hi=>?_⟩;obtain⟨c0,c1⟩:=hc i hi;exact⟨(hb.cell (p:=⟨g,o+i*2,none⟩) hg).trans c0,(hb.cell (p:=⟨g,o+i*2+1,none⟩) hg).trans c1⟩
theorem nE.at{w:World}{g o:Nat}{l:List Fl}(h:nE w (some ⟨g,o,none⟩) l)(i:Nat)(hi:i<l.length):BV w g (o+i*2) (l.getD i default):=by
 obtain⟨g',o',e,_,hc⟩:=h (by omega);simp only[a0j,a0w,a0V]at e;obtain⟨rfl,rfl⟩:=e;exact hc i hi
abbrev gt(w:World)(base:Nat)(v:Value)(l:List Fl):Prop:=aY 28 2 aH w base v l
theorem Mq{w:World}{g o:Nat}{e:Fl}(h:∀j,j<2->w.cell? ⟨g,o+j,none⟩=(aH e)[j]?):BV w g o e:=⟨h 0 (by omega),h 1 (by omega)⟩
theorem AZ{w:World}{base g cap n:Nat}{l:List Fl}(hn:l.length=n)(h:gt w base (.slice (some ⟨g,0,none⟩) n cap) l)(i:Nat)(hi:i<n):BV w g (i*2) (l.getD i default):=
 Mq fun j hj=>(aY.at cR default hn h i j hi hj).1
theorem jZ{w:World}{base cap n:Nat}{a:Option Addr}{l:List Fl}(hn:l.length=n)(h:gt w base (.slice a n cap) l):nE w a l:=by
 intro h0;obtain⟨g,rfl⟩:=h.somes h0;refine⟨g,0,rfl,h.below.2,fun i hi=>?_⟩;rw[a0A];exact AZ hn h i (by omega)
theorem Tryz.infoFile:(Tryz.prog.info? 28).map (fun i=>(i.zero,i.size,i.bytes))=some (some (.agg #[.string ⟨#[]⟩,.string ⟨#[]⟩]),2,32):=by kernel_rfl
def pA(l:List Fl)(i:Nat):ByteArray:=(l.getD i default).p
def ltP(a b:ByteArray):Bool:=Op.bytesLess a.toList b.toList
theorem lm(a b:ByteArray):ltP a b=true<->a.data.toList<b.data.toList:=by
 unfold ltP;rw[bytesLess_eq,a06,a06];simp
def upT(l:List Fl)(i:Nat):Bool:=decide (i=0) || ltP (pA l (i-1)) (pA l i)
def mP(l:List Fl)(i:Nat):Bool:=(List.range l.length).all fun k=>!di (pA l i).data.toList (pA l k).data.toList
def pd(l:List Fl)(i:Nat):Bool:=gn (pA l i).data.toList&&decide ((l.getD i default).t.size<=300)
def km(l:List Fl)(i:Nat):Bool:=pd l i&&(upT l i&&mP l i)
def dh(l:List Fl):Bool:=(List.range l.length).all (km l)&&decide (l.length<=8)
def kw(l:List Fl)(i j:Nat):Bool:=(ltP (pA l j) (pA l i) || (pA l j).toList == (pA l i).toList)&&!bD (pA l j).data.toList (pA l i).data.toList
def lH(l:List Fl)(i:Nat):Bool:=pd l i&&(List.range i).all (kw l i)
theorem BP{l:List Fl}{i:Nat}(hi:i<l.length)(h:km l i=false):dh l=false:=by
 unfold dh;have:(List.range l.length).all (km l)=false:=by
  rw[a2P];exact⟨i,List.mem_range.2 hi,by simp[h]⟩
 rw[this];rfl
theorem IW{l:List Fl}(h:∀i,i<l.length->km l i=true):dh l=decide (l.length<=8):=by
 unfold dh;have:(List.range l.length).all (km l)=true:=a0R.2 fun i hi=>h i (List.mem_range.1 hi);rw[this];rfl
theorem wl{l:List Fl}{i k:Nat}(hk:k<l.length)(h:di (pA l i).data.toList (pA l k).data.toList=true):mP l i=false:=by
 unfold mP;rw[a2P];exact⟨k,List.mem_range.2 hk,by simp[h]⟩
theorem sV{l:List Fl}{i:Nat}(h:∀k,k<l.length->di (pA l i).data.toList (pA l k).data.toList=false):mP l i=true:=by
 unfold mP;rw[a0R];exact fun k hk=>by rw[h k (List.mem_range.1 hk)];rfl
theorem EC(a:List UInt8):di a a=false:=by
 unfold di;cases h:(a++[47]).isPrefixOf a
 · rfl
 · have:=(a3t.1 h).length_le;simp at this;omega
theorem qX(a:List UInt8):¬ a<a:=List.lt_irrefl a
theorem I7{l:List Fl}(n:Nat)(h:∀i,i<n->upT l i=true):∀i,i<n->∀j,j<i->ltP (pA l j) (pA l i)=true:=by
 intro i;induction i with
 | zero=>intro _ j hj;omega
 | succ i ih=>
  intro hi j hj;have h1:=h (i+1) hi;unfold upT at h1;simp only[Nat.add_eq_zero_iff,Nat.one_ne_zero,and_false,a3B,Bool.false_or,a3F]at h1;by_cases e:j=i
  · rw[e];exact h1
  ·
   have h2:=ih (by omega) j (by omega);rw[lm]at *
   exact List.lt_trans h2 h1
theorem nh{l:List Fl}{i j:Nat} : kw l i j=true<->ltP (pA l j) (pA l i)=true/\di (pA l i).data.toList (pA l j).data.toList=false/\di (pA l j).data.toList (pA l i).data.toList=false:=by
 unfold kw bD;simp only[a0i,a1n,Bool.not_eq_true',a18,a3o,a1b,ne_eq];constructor
 ·
  rintro⟨h1,h2,h3,h4⟩;rcases h1 with h1|h1
  · exact⟨h1,h3,h4⟩
  · exact absurd (by rw[a06,a06]at h1;exact h1) h2
 · rintro⟨h1,h3,h4⟩;refine⟨.inl h1,?_,h3,h4⟩;intro e;rw[lm,e]at h1;exact qX _ h1
theorem tU(l:List Fl):((List.range l.length).all (km l))=((List.range l.length).all (lH l)):=by
 rw[a2g,a0R,a0R];simp only[List.mem_range,km,lH,a0i,a0R];constructor
 ·
  intro h i hi;refine⟨(h i hi).1,fun j hj=>nh.2 ?_⟩;have hf:∀i,i<l.length->∀k,k<l.length->di (pA l i).data.toList (pA l k).data.toList=false:=by
   intro i hi k hk;have:=(h i hi).2.2;unfold mP at this;rw[a0R]at this;simpa using this k (List.mem_range.2 hk)
  exact⟨I7 l.length (fun i hi=>(h i hi).2.1) i hi j hj,hf i hi j (by omega),hf j (by omega) i hi⟩
 ·
  intro h i hi;refine⟨(h i hi).1,?_,?_⟩
  ·
   unfold upT;by_cases e:i=0
   · simp[e]
   · simp only[e,a3B,Bool.false_or];exact(nh.1 ((h i hi).2 (i-1) (by omega))).1
  ·
   refine sV fun k hk=>?_;rcases Nat.lt_trichotomy k i with hlt|rfl|hgt
   · exact(nh.1 ((h i hi).2 k hlt)).2.1
   · exact EC _
   · exact(nh.1 ((h k hk).2 i hgt)).2.2
theorem IU{l:List Fl}{i:Nat}(hi:i<l.length)(h:lH l i=false):dh l=false:=by
 unfold dh;rw[tU];have:(List.range l.length).all (lH l)=false:=by
  rw[a2P];exact⟨i,List.mem_range.2 hi,by simp[h]⟩
 rw[this];rfl
theorem Ex{l:List Fl}(h:∀i,i<l.length->lH l i=true):dh l=decide (l.length<=8):=by
 unfold dh;rw[tU];have:(List.range l.length).all (lH l)=true:=a0R.2 fun i hi=>h i (List.mem_range.1 hi);rw[this];rfl
theorem Km{l:List Fl}{i j:Nat}(hj:j<i)(h:kw l i j=false):lH l i=false:=by
 unfold lH;have:(List.range i).all (kw l i)=false:=by
  rw[a2P];exact⟨j,List.mem_range.2 hj,by simp[h]⟩
 rw[this];simp
theorem GV{l:List Fl}{i:Nat}(h:∀j,j<i->kw l i j=true):lH l i=pd l i:=by
 unfold lH;have:(List.range i).all (kw l i)=true:=a0R.2 fun j hj=>h j (List.mem_range.1 hj);rw[this];simp
def dX:List Fl->ByteArray->Nat
 | [],_=>0
 | e :: l,x=>if ltP e.p x=true then dX l x+1 else 0
def bH:List Fl->Fl->List Fl
 | [],f=>[f]
 | e :: l,f=>if ltP e.p f.p=true then e :: bH l f else if e.p=f.p then f :: l else f :: e :: l
def gN(l:List Fl):Prop:=l.Pairwise fun a b=>ltP a.p b.p=true
theorem qY(a:ByteArray):ltP a a=false:=by
 cases h:ltP a a
 · rfl
 · exact absurd ((lm _ _).1 h) (qX _)
theorem om{a b c:ByteArray}(h:ltP a b=true)(k:ltP b c=true):ltP a c=true:=by
 rw[lm]at *;exact List.lt_trans h k
theorem Kc{a b:ByteArray}(h:ltP a b=false)(hne:a≠b):ltP b a=true:=by
 rw[lm];have h1:¬ a.data.toList<b.data.toList:=fun e=>by rw[(lm a b).2 e]at h;cases h
 rcases Std.le_iff_lt_or_eq.1 (List.not_lt.1 h1)with h2|h2
 · exact h2
 · exact absurd (a2x (Array.toList_inj.1 h2.symm)) hne
theorem Ky(l:List Fl)(x:ByteArray):dX l x<=l.length:=by
 induction l with
 | nil=>exact a0a _
 | cons e l ih=>unfold dX;split<;>simp;exact ih
theorem uW{l:List Fl}{x:ByteArray}{k:Nat}(hk:k<=l.length)(h1:∀i,i<k->ltP (l.getD i default).p x=true)(h2:k<l.length->ltP (l.getD k default).p x=false):dX l x=k:=by
 induction l generalizing k with
 | nil=>simp at hk;simp[dX,hk]
 | cons e l ih=>
  unfold dX;cases k with
  | zero=>
   have:=h2 (by simp);simp only[a2e]at this;rw[a0e (by simp[this])]
  | succ k=>
   have:=h1 0 (by omega);simp only[a2e]at this;rw[a0d this,ih (by simpa using hk) (fun i hi=>by simpa using h1 (i+1) (by omega)) (fun h=>by simpa using h2 (by simpa using h))]
theorem tB{l:List Fl}{f:Fl}(h:dX l f.p<l.length)(he:(l.getD (dX l f.p) default).p=f.p):bH l f=l.take (dX l f.p)++f :: l.drop (dX l f.p+1):=by
 induction l with
 | nil=>simp at h
 | cons e l ih=>
  unfold dX at h he ⊢;unfold bH
  split at h
  · rename_i h1;rw[a0d h1,a0d h1];rw[a0d h1]at he;simp only[List.take_succ_cons,a1h,List.drop_succ_cons];rw[ih (by simpa using h) (by simpa using he)]
  · rename_i h1;rw[a0e h1,a0e h1];rw[a0e h1]at he;rw[a0d (by simpa using he)];simp
theorem rB{l:List Fl}{f:Fl}(he:dX l f.p<l.length->(l.getD (dX l f.p) default).p≠f.p):bH l f=l.take (dX l f.p)++f :: l.drop (dX l f.p):=by
 induction l with
 | nil=>rfl
 | cons e l ih=>
  unfold dX at he ⊢;unfold bH;by_cases h1:ltP e.p f.p=true
  · rw[a0d h1,a0d h1];rw[a0d h1]at he;simp only[List.take_succ_cons,a1h,List.drop_succ_cons];rw[ih (fun h=>by have:=he (by simpa using h);simpa using this)]
  · rw[a0e h1,a0e h1];rw[a0e h1]at he;rw[a0e (by simpa using he (by simp))];simp
theorem H9(l:List Fl)(f:Fl):(bH l f).length<=l.length+1:=by
 induction l with
 | nil=>simp[bH]
 | cons e l ih=>
  unfold bH
  split
  · simpa using ih
  · split<;>simp
theorem rz{l:List Fl}{f e:Fl}(h:e∈bH l f):e=f∨e∈l:=by
 induction l with
 | nil=>simpa[bH]using h
 | cons d l ih=>
  unfold bH at h
  split at h
  ·
   rcases a1j.1 h with rfl|h
   · exact .inr (by simp)
   ·
    rcases ih h with rfl|h
    · exact .inl rfl
    · exact .inr (a1Z _ h)
  ·
   split at h
   ·
    rcases a1j.1 h with rfl|h
    · exact .inl rfl
    · exact .inr (a1Z _ h)
   ·
    rcases a1j.1 h with rfl|h
    · exact .inl rfl
    · exact .inr h
theorem D7{l:List Fl}(f:Fl)(h:gN l):gN (bH l f):=by
 unfold gN at *
 induction l with
 | nil=>simp[bH]
 | cons e l ih=>
  obtain⟨h1,h2⟩:=List.pairwise_cons.1 h;unfold bH
  split
  ·
   rename_i h3;refine List.pairwise_cons.2 ⟨fun x hx=>?_,ih h2⟩;rcases rz hx with rfl|hx
   · exact h3
   · exact h1 x hx
  ·
   rename_i h3
   split
   · rename_i h4;exact List.pairwise_cons.2 ⟨fun x hx=>by rw[←h4];exact h1 x hx,h2⟩
   ·
    rename_i h4;have h5:=Kc (by simpa using h3) h4;refine List.pairwise_cons.2 ⟨fun x hx=>?_,h⟩;rcases a1j.1 hx with rfl|hx
    · exact h5
    · exact om h5 (h1 x hx)
theorem D6{l:List Fl}{f:Fl}(h:∀e∈l,ltP e.p f.p=true):bH l f=l++[f]:=by
 induction l with
 | nil=>rfl
 | cons e l ih=>
  unfold bH;rw[a0d (h e (by simp)),ih fun x hx=>h x (a1Z _ hx)];rfl
theorem Ea{a l:List Fl}(h:gN (a++l)):l.foldl bH a=a++l:=by
 induction l generalizing a with
 | nil=>simp
 | cons f l ih=>
  have h1:∀e∈a,ltP e.p f.p=true:=fun e he=>(List.pairwise_append.1 h).2.2 e he f (by simp);rw[List.foldl_cons,D6 h1,ih (by simpa using h)];simp
theorem D8{l:List Fl}{f e:Fl}(he:e∈l)(hne:e.p≠f.p):e∈bH l f:=by
 induction l with
 | nil=>simp at he
 | cons d l ih=>
  unfold bH
  split
  ·
   rcases a1j.1 he with rfl|he
   · simp
   · exact a1Z _ (ih he)
  ·
   split
   ·
    rename_i h4;rcases a1j.1 he with rfl|he
    · exact absurd h4 hne
    · exact a1Z _ he
   · exact a1Z _ he
theorem Kz(l:List Fl)(f:Fl):f∈bH l f:=by
 induction l with
 | nil=>simp[bH]
 | cons d l ih=>
  unfold bH
  split
  · exact a1Z _ ih
  · split<;>simp
set_option maxRecDepth 100000
theorem Df(x:ByteArray)(w:World):Calls Tryz.prog 98 #[.string x] w fun e w'=>e = .returned (.bool false)/\w'=w:=by
 go_enter Tryz.func98,Tryz.ntmps98;go_wp2;go_ret;exact⟨by simp,rfl⟩
theorem yZ(x:ByteArray)(w:World):Calls Tryz.prog 148 #[.string x] w fun e w'=>e = .returned (.bool false)/\w'=w:=by
 go_enter Tryz.func148,Tryz.ntmps148;go_wp2;go_ret;exact⟨by simp,rfl⟩
theorem vG(x y:ByteArray)(w:World):Calls Tryz.prog 97 #[.string x,.string y] w fun e w'=>e = .returned (.bool (ltP x y))/\w'=w:=by
 go_enter Tryz.func97,Tryz.ntmps97;go_wp2_with fail;refine(yZ x w).mono ?_;rintro e w1 ⟨rfl,rfl⟩;go_wp2;go_ret;exact⟨by simp[ltP],rfl⟩
def Jm(w:World)(a:Option Addr)(l:List ByteArray):Prop:=0<l.length->∃g,a=some ⟨g,0,none⟩/\g<w.heap.size/\∀i,i<l.length->w.cell? ⟨g,i,none⟩=some (.string (l.getD i default))
def sB:List ByteArray->ByteArray->Nat
 | [],_=>0
 | e :: l,x=>if ltP e x=true then sB l x+1 else 0
theorem Kw{l:List ByteArray}{x:ByteArray}{k:Nat}(hk:k<=l.length)(h1:∀i,i<k->ltP (l.getD i default) x=true)(h2:k<l.length->ltP (l.getD k default) x=false):sB l x=k:=by
 induction l generalizing k with
 | nil=>simp at hk;simp[sB,hk]
 | cons e l ih=>
  unfold sB;cases k with
  | zero=>
   have:=h2 (by simp);simp only[a2e]at this;rw[a0e (by simp[this])]
  | succ k=>
   have:=h1 0 (by omega);simp only[a2e]at this;rw[a0d this,ih (by simpa using hk) (fun i hi=>by simpa using h1 (i+1) (by omega)) (fun h=>by simpa using h2 (by simpa using h))]
theorem BL{l:List ByteArray}(h:l.Pairwise fun a b=>ltP a b=true){i j:Nat}(hij:i<j)(hj:j<l.length):ltP (l.getD i default) (l.getD j default)=true:=by
 have:=List.pairwise_iff_getElem.1 h i j (by omega) hj hij;have e1:l.getD i default=l[i]:=by simp[show i<l.length by omega]
 have e2:l.getD j default=l[j]:=by simp[hj]
 rw[e1,e2];exact this
theorem sd(a:Option Addr)(cap n:Nat)(l:List ByteArray)(x:ByteArray)(w:World)(hn:l.length=n)(h:Jm w a l)(hl:n<=1000)(hs:l.Pairwise fun a b=>ltP a b=true) :
  Calls Tryz.prog 66 #[.slice a n cap,.string x] w fun e w'=>e = .returned (.tuple #[.int .i64 (sB l x:Nat),.bool (decide (sB l x<n/\l.getD (sB l x) default=x))])/\w'=w:=by
 have HN:=af hn;have HR:=af h;have HS:=af hs;have hnI:(n:Int)<=1000:=by omega
 clear h hs hn;go_enter Tryz.func66,Tryz.ntmps66;go_wp2_with fail
 go_loopw [7,8,9] (fun i j _ wr=>∃p q:Nat,i = .int .i64 p/\j = .int .i64 q/\p<=q/\q<=n/\(∀k,k<p->ltP (l.getD k default) x=true)/\(∀k,q<=k->k<n->ltP (l.getD k default) x=false)/\wr=w) (fun i j _ _=>(intOf j).toNat-(intOf i).toNat)
 case atStart=>exact⟨0,n,rfl,rfl,a0h _,a0a _,fun k hk=>absurd hk (by omega),fun k h1 h2=>absurd h2 (by omega),rfl⟩
 case round=>
  obtain⟨p,q,rfl,rfl,hpq,hq,hlo,hhi,rfl⟩:=hrel;have HLo:=af hlo;have HHi:=af hhi;clear hlo hhi;have hpI:(p:Int)<=1000:=by omega
  have hqI:(q:Int)<=1000:=by omega
  by_cases hlt:p<q
  ·
   have hltI:(p:Int)<(q:Int):=by omega
   obtain⟨g,rfl,hg,hc⟩:=ae HR (by have:=ae HN;omega);obtain⟨m,hm⟩:∃m,m=(p+q)/2:=⟨_,rfl⟩;have hmI:((p:Int)+(q:Int))/2=((m:Nat):Int):=by omega
   have hm1:p<=m/\m<q:=by omega
   have hmn:(m:Int)<(n:Int):=by omega
   have hmB:(m:Int)<=1000:=by omega
   have cm:=hc m (by have:=ae HN;omega);have HC:=af hc;clear hc hm;obtain⟨y,hy⟩:∃y,l.getD m default=y:=⟨_,rfl⟩;rw[hy]at cm;have HY:=af hy;clear hy;go_wp2_with fail;refine(vG y x _).mono ?_;rintro e w1 ⟨rfl,rfl⟩;cases hb:ltP y x
   ·
    have HB:=af hb;clear hb;go_wp2_with fail;go_roundw
    case rel=>
     refine⟨p,m,rfl,rfl,hm1.1,by omega,ae HLo,fun k h1 h2=>?_,trivial⟩;by_cases e:k=m
     · rw[e,ae HY];exact ae HB
     ·
      cases hk:ltP (l.getD k default) x
      · rfl
      · have:=om (BL (ae HS) (show m<k by omega) (by have:=ae HN;omega)) hk;rw[ae HY,ae HB]at this;cases this
    case measure=>simp[intOf];omega
   ·
    have HB:=af hb;clear hb;go_wp2_with fail;go_roundw
    case rel=>
     refine⟨m+1,q,by go_num,rfl,hm1.2,hq,fun k hk=>?_,ae HHi,trivial⟩;by_cases e:k=m
     · rw[e,ae HY];exact ae HB
     · exact om (BL (ae HS) (show k<m by omega) (by have:=ae HN;omega)) (by rw[ae HY];exact ae HB)
    case measure=>simp[intOf];omega
  ·
   have hge:(q:Int)<=(p:Int):=by omega
   obtain rfl:p=q:=by omega
   have HP:=af (Kw (l:=l) (x:=x) (k:=p) (by have:=ae HN;omega) (ae HLo) (fun h=>ae HHi p (a0a _) (by have:=ae HN;omega)));by_cases hpn:p<n
   ·
    have hpnI:(p:Int)<(n:Int):=by omega
    obtain⟨g,rfl,hg,hc⟩:=ae HR (by have:=ae HN;omega);obtain⟨y,hy⟩:∃y,l.getD p default=y:=⟨_,rfl⟩;have cy:wr.cell? ⟨g,p,none⟩=some (.string y):=by rw[←hy];exact hc p (by have:=ae HN;omega)
    have HY:=af hy;clear hy hc;by_cases he:y.toList=x.toList
    ·
     have hb:(y.toList == x.toList)=true:=by simpa using he
     have HE:=af he;go_wp2_with fail
     go_ret2
     have hyx:y=x:=a2x (Array.toList_inj.1 (by have:=ae HE;rw[a06,a06]at this;exact this));exact⟨by rw[ae HP,ae HY];simp[hpn,hyx],rfl⟩
    ·
     have hb:(y.toList == x.toList)=false:=by simpa using he
     have HE:=af he;go_wp2_with fail;refine(Df y _).mono ?_;rintro e w1 ⟨rfl,rfl⟩;go_wp2_with fail
     go_ret2
     have hxy:y≠x:=fun h=>ae HE (by rw[h]);exact⟨by rw[ae HP,ae HY];simp[hxy],rfl⟩
   ·
    have hge2:(n:Int)<=(p:Int):=by omega
    go_wp2_with fail
    go_ret2
    exact⟨by rw[ae HP];simp[hpn],rfl⟩
end Go.Proofs.YtkdlcomfpffhhaaGreatDoor
