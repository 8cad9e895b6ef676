/- Of what the proof is made: 11 texts, one behind the other. -/
import Derived.Test.YtkpfkgoiaicgbaaGreatDoorM5
import Derived.Deep.QuietTactic
import Derived.BigQuiet
import Derived.BigRegion
import Derived.WalkSmall
import Derived.Deep.RegionWith
import Derived.Test.YtkpfkgoiaicgbaaGreatDoorM1
set_option linter.unusedSimpArgs false
set_option linter.unusedVariables false
set_option maxHeartbeats 4000000
namespace Go.Proofs.YtkpfkgoiaicgbaaGreatDoor
open Go.RowKit
def Two(w:World)(b:Nat)(v0 v1:Value):Prop:=
 w.cell? ⟨b,0,none⟩=some v0/\w.cell? ⟨b,1,none⟩=some v1/\w.frozen? ⟨b,0,none⟩=false/\w.frozen? ⟨b,1,none⟩=false/\b<w.heap.size
theorem ai{B:Nat}{a w:World}(h:Below B a w){b o:Nat}(hb:B<=b)(u:Value):Below B a (w.setCell ⟨b,o,none⟩ u):=h.setCell (p:=⟨b,o,none⟩) hb u
theorem Two.set0{w:World}{b:Nat}{v0 v1:Value}(h:Two w b v0 v1)(u:Value):Two (w.setCell ⟨b,0,none⟩ u) b u v1:=by
 obtain⟨c0,c1,f0,f1,hb⟩:=h;refine⟨World.cell?_setCell_same _ _ _ c0,?_,by simpa using f0,by simpa using f1,by simpa using hb⟩;rw[World.cell?_setCell_other _ _ _ _ (by simp)];exact c1
theorem Two.set1{w:World}{b:Nat}{v0 v1:Value}(h:Two w b v0 v1)(u:Value):Two (w.setCell ⟨b,1,none⟩ u) b v0 u:=by
 obtain⟨c0,c1,f0,f1,hb⟩:=h;refine⟨?_,World.cell?_setCell_same _ _ _ c1,by simpa using f0,by simpa using f1,by simpa using hb⟩;rw[World.cell?_setCell_other _ _ _ _ (by simp)];exact c0
theorem Two.drew{w:World}{b:Nat}{v0 v1:Value}(h:Two w b v0 v1):Two w.drew b v0 v1:=h
def mN(b:Nat)(w w':World):Prop:=Below b w w'/\(∀k,k≠b->w'.heap[k]?=w.heap[k]?)/\w'.heap.size=w.heap.size
theorem mN.cell{b:Nat}{w w':World}(h:mN b w w'){p:Addr}(hp:p.block≠b):w'.cell? p=w.cell? p:=World.cell?_of_block (w:=w) (h.2.1 p.block hp)
theorem mN.frozen{b:Nat}{w w':World}(h:mN b w w'){p:Addr}(hp:p.block≠b):w'.frozen? p=w.frozen? p:=World.frozen?_of_block (w:=w) (h.2.1 p.block hp)
theorem nw(w:World)(b o:Nat)(u:Value)(n:Nat):mN b w ((w.setCell ⟨b,o,none⟩ u).drewN n):=
 ⟨below_drewN (ai (Below.refl _ _) (Nat.le_refl _) _) _,fun k hk=>Below.heap_setCell w ⟨b,o,none⟩ u k hk,by show(w.setCell ⟨b,o,none⟩ u).heap.size=_;simp⟩
def Rd(w:World)(B b m:Nat):Prop:=∃(a:Option Addr) (len cap p:Nat) (z:Nat->Int),len<=2000/\p<=m/\B<=b/\Two w b (.slice a len cap) (.int .i64 p) /\
 (∀i,0<=z i/\z i<256)/\(0<len->∃ab ao,a=some ⟨ab,ao,none⟩/\ab<B/\∀i,i<len->w.cell? ⟨ab,ao+i,none⟩=some (.int .u8 (z i)))
theorem G9(X n:Int)(h0:0<=X)(h1:X<1000000000)(n1:1<=n):0<=(bits .xor .i64 X (X/64)).tmod n/\(bits .xor .i64 X (X/64)).tmod n<n:=by
 obtain⟨x,rfl⟩:=Int.eq_ofNat_of_zero_le h0;have e:=kj x (x/64) (by omega) (by omega);rw[show((x/64:Nat):Int)=(x:Int)/64 by omega]at e;rw[e];exact⟨Int.tmod_nonneg _ (by omega),Int.tmod_lt_of_pos _ (by omega)⟩
theorem dL(B b m:Nat)(n:Int)(w:World)(h:Rd w B b m)(hm:m<=100000)(n1:1<=n)(n2:n<=70000) :
  Calls Tryz.prog 33 #[.pointer (some ⟨b,0,none⟩),.int .i64 n] w fun e w'=>∃r:Int,e = .returned (.int .i64 r)/\0<=r/\r<n/\Rd w' B b (m+1)/\mN b w w':=by
 obtain⟨a,len,cap,p,z,hl,hp,hB,htwo,hz,hsrc⟩:=h;have h':=af htwo;obtain⟨c0,c1,f0,f1,hb⟩:=htwo;have hp':(p:Int)<=100000:=by omega
 have hl':(len:Int)<=2000:=by omega
 have hrd:∀nq,Rd ((w.setCell ⟨b,1,none⟩ (.int .i64 ((p:Int)+1))).drewN nq) B b (m+1):=by
  intro nq;refine⟨a,len,cap,p+1,z,hl,by omega,hB,(ae h').set1 _,hz,fun h0=>?_⟩;obtain⟨ab,ao,e,hlt,hc⟩:=hsrc h0;refine⟨ab,ao,e,hlt,fun i hi=>?_⟩;rw[←hc i hi];exact(nw w b 1 _ nq).cell (by show ab≠b;omega)
 have Hrd:=af hrd;clear hrd;by_cases h0:len=0
 · subst h0;clear hsrc hl hp hm;go_enter Tryz.func33,Tryz.ntmps33;go_wp2;go_ret;exact⟨0,rfl,by omega,by omega,ae Hrd 0,nw w b 1 _ 0⟩
 ·
  obtain⟨ab,ao,rfl,hlt,hc⟩:=hsrc (by omega);have hlp:(0:Int)<(len:Int):=by omega
  have hne:((len:Int) == 0)=false:=by simp;omega
  have hab:ab≠b:=by omega
  by_cases hk:p<len
  ·
   have hcp:=hc p hk;have hzp:=hz p;obtain⟨z0,z1⟩:=hzp;generalize z p=zp at *
   clear hsrc hc hz hl hp hm h0;go_enter Tryz.func33,Tryz.ntmps33;go_wp2;go_ret;exact⟨zp%n,rfl,Int.emod_nonneg _ (by omega),Int.emod_lt_of_pos _ (by omega),ae Hrd 0,nw w b 1 _ 0⟩
  ·
   have i1:=hc (p%len) (Nat.mod_lt _ (by omega));have i2:=hc ((p*7+3)%len) (Nat.mod_lt _ (by omega));obtain⟨z0,z1⟩:=hz (p%len);obtain⟨y0,y1⟩:=hz ((p*7+3)%len);have j0:(0:Int)<=(p:Int)%(len:Int):=Int.emod_nonneg _ (by omega);have j1:(p:Int)%(len:Int)<(len:Int):=Int.emod_lt_of_pos _ (by omega);have j2:(0:Int)<=((p:Int)*7+3)%(len:Int):=Int.emod_nonneg _ (by omega);have j3:((p:Int)*7+3)%(len:Int)<(len:Int):=Int.emod_lt_of_pos _ (by omega);have j4:(0:Int)<=(p:Int)/(len:Int):=Int.ediv_nonneg (by omega) (by omega);have j5:(p:Int)/(len:Int)<=100000:=Int.le_trans (Int.ediv_le_self _ (by omega)) hp';generalize z (p%len)=zp at *
   generalize z ((p*7+3)%len)=yp at *
   clear hsrc hc hz hl hp hm h0;go_enter Tryz.func33,Tryz.ntmps33;go_wp2
   go_quiet (fail)
   go_wp2;go_ret;refine⟨_,rfl,?_,?_,ae Hrd _,nw w b 1 _ _⟩
   · exact(G9 _ n (by omega) (by omega) n1).1
   · exact(G9 _ n (by omega) (by omega) n1).2
end Go.Proofs.YtkpfkgoiaicgbaaGreatDoor
namespace Go.Proofs.YtkpfkgoiaicgbaaGreatDoor
open Go.RowKit Corb
def p2(k:Nat):Nat:=2 ^ k
theorem rK(k:Nat):1<=p2 k:=Nat.one_le_two_pow
theorem jt(k:Nat):p2 (k+1)=p2 k*2:=Nat.pow_succ ..
theorem iP(k:Nat):((p2 k:Nat):Int)=(2:Int) ^ k:=by simp[p2]
theorem ee(n:Int)(h0 : -9223372036854775808<=n)(h1:n<=9223372036854775807):IntKind.i64.wrap n=n:=by
 simp[IntKind.wrap,IntKind.bits,IntKind.signed];omega
def pOk(num bits:Int):Bool:=inB bits 0 16&&inB num 0 ((p2 bits.toNat:Nat)-1)
theorem aW{num bits:Int} : pOk num bits=true<->(0<=bits/\bits<=16)/\0<=num/\num<(p2 bits.toNat:Nat):=by
 simp only[pOk,Bool.and_eq_true,aD];omega
theorem Am(bits:Int)(h1:bits<=16):(1:Int)<=(p2 bits.toNat:Nat)/\((p2 bits.toNat:Nat):Int)<=65536:=by
 have a:p2 bits.toNat<=65536:=xV bits.toNat (by omega);have b:=rK bits.toNat
 omega
theorem iy(num bits:Int)(w:World) :
  Calls Tryz.prog 179 #[.agg #[.int .i64 num,.int .i64 bits]] w fun e w'=>e = .returned (.bool (pOk num bits))/\Below w.heap.size w w':=by
 by_cases b0:0<=bits
 ·
  by_cases b1:bits<=16
  ·
   by_cases n0:0<=num
   ·
    obtain⟨q0,q1⟩:=Am bits b1;have HP:Hid (pOk num bits=decide (num<(p2 bits.toNat:Nat))):=by
     show pOk num bits=decide (num<(p2 bits.toNat:Nat));rw[Bool.eq_iff_iff,aW,decide_eq_true_iff];omega
    have hq:=iP bits.toNat
    generalize ((p2 bits.toNat:Nat):Int)=q at *
    have HQ:=af hq;have hwr:=ee q (by omega) (by omega);clear hq;have hwr2:IntKind.i64.wrap (2 ^ bits.toNat)=q:=by
     have h:=ae HQ;rw[←h];exact hwr
    go_enter Tryz.func179,Tryz.ntmps179;go_wp2
    go_quiet (fail)
    go_wp2;go_ret;exact⟨ak (ae HP).symm,below_drewN ((Below.refl _ _).alloc (Nat.le_refl _) _) _⟩
   ·
    have HP:Hid (pOk num bits=false):=by
     show pOk num bits=false;rw[←Bool.not_eq_true,aW];omega
    have d2:decide (0<=num)=false:=decide_eq_false n0;go_enter Tryz.func179,Tryz.ntmps179;go_wp2
    go_quiet (fail)
    go_wp2;go_ret;exact⟨ak (ae HP).symm,below_drewN ((Below.refl _ _).alloc (Nat.le_refl _) _) _⟩
  ·
   have HP:Hid (pOk num bits=false):=by
    show pOk num bits=false;rw[←Bool.not_eq_true,aW];omega
   have d1:decide (bits<=16)=false:=decide_eq_false b1;go_enter Tryz.func179,Tryz.ntmps179;go_wp2
   go_quiet (fail)
   go_wp2;go_ret;exact⟨ak (ae HP).symm,below_drewN ((Below.refl _ _).alloc (Nat.le_refl _) _) _⟩
 ·
  have HP:Hid (pOk num bits=false):=by
   show pOk num bits=false;rw[←Bool.not_eq_true,aW];omega
  have d0:decide (0<=bits)=false:=decide_eq_false b0;go_enter Tryz.func179,Tryz.ntmps179;go_wp2
  go_quiet (fail)
  go_wp2;go_ret;exact⟨ak (ae HP).symm,below_drewN ((Below.refl _ _).alloc (Nat.le_refl _) _) _⟩
def btI(num bits:Int):Int:=if pOk num bits=true then(rv bits.toNat num.toNat:Nat)else -1
theorem AZ{num bits:Int}(h:pOk num bits=true):btI num bits=(rv bits.toNat num.toNat:Nat):=if_pos h
theorem LD{num bits:Int}(h:pOk num bits=false):btI num bits = -1:=if_neg (by simp[h])
theorem xZ(k n:Nat):((rv (k+1) n:Nat):Int)=2*(rv k n:Nat)+((n/2 ^ k:Nat):Int)%2:=by
 simp only[rv];omega
theorem KX(n k:Nat):(n:Int)/2 ^ k=((n/2 ^ k:Nat):Int):=by
 exact(Int.natCast_ediv n (2 ^ k)).symm
theorem om(num bits:Int)(w:World) :
  Calls Tryz.prog 189 #[.int .i64 num,.int .i64 bits] w fun e w'=>e = .returned (.int .i64 (btI num bits))/\Below w.heap.size w w':=by
 cases h:pOk num bits
 · have HI:=af (LD h);go_enter Tryz.func189,Tryz.ntmps189;go_wp2_with (go_at_call 179;refine(iy _ _ _).mono ?_;rintro e w' ⟨rfl,hb⟩);go_ret;exact⟨aR (ae HI).symm,hb⟩
 ·
  have HI:=af (AZ h);obtain⟨⟨b0,b1⟩,n0,n1⟩:=aW.1 h;have q:=(Am bits b1).2;have n2:num<65536:=by omega
  clear n1 q;obtain⟨n,rfl⟩:=Int.eq_ofNat_of_zero_le n0;obtain⟨b,rfl⟩:=Int.eq_ofNat_of_zero_le b0;rw[Int.toNat_natCast,Int.toNat_natCast]at HI;go_enter Tryz.func189,Tryz.ntmps189;go_wp2_with (go_at_call 179;refine(iy _ _ _).mono ?_;rintro e w' ⟨rfl,hb⟩)
  go_loop [5,6,13] (fun r _ i=>∃k:Nat,k<=b/\i = .int .i64 k/\r = .int .i64 (rv k n:Nat)) (fun _ _ i=>b-(intOf i).toNat)
  case atStart=>exact⟨0,Nat.zero_le _,rfl,rfl⟩
  case round=>
   obtain⟨k,hk,rfl,rfl⟩:=hrel;have hr:=Lt k n;have hr2:=xV k (by omega);have hn:n/2 ^ k<=n:=Nat.div_le_self _ _;have e1:=af (xZ k n);by_cases hlt:k<b
   ·
    have hrl:((rv k n:Nat):Int)<65536:=by omega
    have hnl:((n/2 ^ k:Nat):Int)<65536:=by omega
    have hsh:=KX n k;have hkb:(k:Int)<=16:=by omega
    generalize ((n/2 ^ k:Nat))=x at *
    generalize rv k n=y at *
    have ha:=ki (x:Int) (by omega) (by omega);have ho:=wN 1 ((y:Int)*2) ((x:Int)%2) (by omega) (by omega) (by omega) (by omega) (by omega) (by omega);clear hr hr2 hn;go_wp2
    go_round
    case rel=>exact⟨k+1,by omega,by go_num,by rw[ae e1];go_num⟩
    case measure=>simp[intOf];omega
   ·
    have hkb:k=b:=by omega
    subst hkb;go_wp2;go_ret;exact⟨aR (ae HI).symm,hb⟩
end Go.Proofs.YtkpfkgoiaicgbaaGreatDoor
namespace Go.Proofs.YtkpfkgoiaicgbaaGreatDoor
open Go.RowKit
def pd(y:Int):Bool:=decide (y%4=0)&&(!decide (y%100=0) || decide (y%400=0))
def j7(y m:Int):Int:=if m=4∨m=6∨m=9∨m=11 then 30 else if m=2 then(if pd y then 29 else 28)else 31
def JX(y:Int):Int:=if pd y then 29 else 28
theorem FO(y:Int):j7 y 2=JX y:=by simp[j7,JX]
theorem nj(y:Int)(w:World)(h0:0<=y)(h1:y<=3000) :
  Calls Tryz.prog 82 #[.int .i64 y] w fun e w'=>e = .returned (.bool (pd y))/\w'=w:=by
 by_cases h4:y%4=0
 ·
  by_cases h100:y%100=0
  ·
   by_cases h400:y%400=0
   · go_enter Tryz.func82,Tryz.ntmps82;go_wp2;go_ret;exact⟨ak (by simp[pd,h4,h400]),rfl⟩
   · go_enter Tryz.func82,Tryz.ntmps82;go_wp2;go_ret;exact⟨ak (by simp[pd,h4,h100,h400]),rfl⟩
  · go_enter Tryz.func82,Tryz.ntmps82;go_wp2;go_ret;exact⟨ak (by simp[pd,h4,h100]),rfl⟩
 ·
  have h400:¬ y%400=0:=by omega
  go_enter Tryz.func82,Tryz.ntmps82;go_wp2;go_ret;exact⟨ak (by simp[pd,h4,h400]),rfl⟩
def eR(y m:Int):Int:=if inB m 1 12 then j7 y m else 0
theorem d6(y m:Int)(w:World)(h0:0<=y)(h1:y<=3000) :
  Calls Tryz.prog 52 #[.int .i64 y,.int .i64 m] w fun e w'=>e = .returned (.int .i64 (eR y m))/\w'=w:=by
 cases hm:inB m 1 12
 ·
  have hd:eR y m=0:=by simp[eR,hm]
  rw[hd];have hb:=eC.1 hm;have n1:¬ m=1:=by omega
  have n2:¬ m=2:=by omega
  have n3:¬ m=3:=by omega
  have n4:¬ m=4:=by omega
  have n5:¬ m=5:=by omega
  have n6:¬ m=6:=by omega
  have n7:¬ m=7:=by omega
  have n8:¬ m=8:=by omega
  have n9:¬ m=9:=by omega
  have n10:¬ m=10:=by omega
  have n11:¬ m=11:=by omega
  have n12:¬ m=12:=by omega
  clear hm hd hb;go_enter Tryz.func52,Tryz.ntmps52;go_wp2;go_ret;exact⟨rfl,rfl⟩
 ·
  have hd:eR y m=j7 y m:=by simp[eR,hm]
  rw[hd];obtain⟨b1,b2⟩:=aD.1 hm;clear hm hd;have hc:m=1∨m=2∨m=3∨m=4∨m=5∨m=6∨m=7∨m=8∨m=9∨m=10∨m=11∨m=12:=by omega
  by_cases m2:m=2
  ·
   subst m2;clear hc b1 b2;rw[FO];cases hl:pd y
   · go_enter Tryz.func52,Tryz.ntmps52;go_wp2_with (go_at_call 82;refine(nj _ _ h0 h1).mono ?_;rintro e w' ⟨rfl,hw⟩;rw[hw];clear hw;rw[hl]);go_ret;exact⟨aR (by simp[JX,hl]),rfl⟩
   · go_enter Tryz.func52,Tryz.ntmps52;go_wp2_with (go_at_call 82;refine(nj _ _ h0 h1).mono ?_;rintro e w' ⟨rfl,hw⟩;rw[hw];clear hw;rw[hl]);go_ret;exact⟨aR (by simp[JX,hl]),rfl⟩
  ·
   rcases hc with rfl|rfl|rfl|rfl|rfl|rfl|rfl|rfl|rfl|rfl|rfl|rfl;all_goals first|exact absurd rfl m2|skip
   all_goals
    clear b1 b2 m2;go_enter Tryz.func52,Tryz.ntmps52;go_wp2;go_ret;exact⟨aR (by simp[j7]),rfl⟩
def eu(y mo d h mi s:Int):Bool:=inB y 1980 2107&&(inB mo 1 12&&(inB d 1 (j7 y mo)&&(inB h 0 23&&(inB mi 0 59&&(inB s 0 58&&decide (s%2=0))))))
theorem vX(y m:Int):0<=eR y m/\eR y m<=31:=by
 unfold eR j7;split<;>(try split)<;>(try split)<;>(try split)<;>omega
theorem IU{y mo d h mi s:Int}(k:y<1980∨2107<y∨d<1∨eR y mo<d∨h<0∨23<h∨mi<0∨59<mi∨s<0∨58<s):eu y mo d h mi s=false:=by
 cases e:eu y mo d h mi s
 · rfl
 ·
  simp only[eu,Bool.and_eq_true,aD,decide_eq_true_eq]at e;obtain⟨ey,em,ed,eh,ei,es,_⟩:=e;have:eR y mo=j7 y mo:=by simp[eR,aD.2 em]
  omega
theorem Mm{y mo d h mi s:Int}(y0:1980<=y)(y1:y<=2107)(d0:1<=d)(h0:0<=h)(h1:h<=23)(m0:0<=mi)(m1:mi<=59)(s0:0<=s)(s1:s<=58)(_:True)(d1:d<=eR y mo):eu y mo d h mi s=(s%2 == 0):=by
 have em:inB mo 1 12=true:=by
  cases e:inB mo 1 12
  ·
   have:eR y mo=0:=by simp[eR,e]
   omega
  · rfl
 have ed:eR y mo=j7 y mo:=by simp[eR,em]
 simp only[eu,aD.2 ⟨y0,y1⟩,em,aD.2 ⟨d0,ed▸d1⟩,aD.2 ⟨h0,h1⟩,aD.2 ⟨m0,m1⟩,aD.2 ⟨s0,s1⟩,Bool.true_and];rfl
theorem bK(y mo d h mi s:Int)(w:World) :
  Calls Tryz.prog 27 #[.agg #[.int .i64 y,.int .i64 mo,.int .i64 d,.int .i64 h,.int .i64 mi,.int .i64 s]] w fun e w'=>e = .returned (.bool (eu y mo d h mi s))/\Below w.heap.size w w':=by
 obtain⟨D0,D1⟩:=vX y mo;have HN:=af (@IU y mo d h mi s);generalize hD:eR y mo=D at *
 have HQ:=af hD;clear hD;rcases Int.lt_or_le y 1980 with x0|x0
 ·
  have HP:Hid (eu y mo d h mi s=false):=af (ae HN (by omega));have z0:decide (1980<=y)=false:=by simp;omega
  go_enter Tryz.func27,Tryz.ntmps27;go_wp2
  go_quiet ((go_at_call 52;exact Calls.quiet_of_same ((d6 _ _ _ (by omega) (by omega)).mono (by rintro e w9 ⟨rfl,hw9⟩;exact⟨aR (ae HQ),hw9⟩))))
  go_wp2;go_ret;exact⟨ak (ae HP).symm,below_drewN ((Below.refl _ _).alloc (Nat.le_refl _) _) _⟩
 ·
  rcases Int.lt_or_le 2107 y with x1|x1
  ·
   have HP:Hid (eu y mo d h mi s=false):=af (ae HN (by omega));have z1:decide (y<=2107)=false:=by simp;omega
   go_enter Tryz.func27,Tryz.ntmps27;go_wp2
   go_quiet ((go_at_call 52;exact Calls.quiet_of_same ((d6 _ _ _ (by omega) (by omega)).mono (by rintro e w9 ⟨rfl,hw9⟩;exact⟨aR (ae HQ),hw9⟩))))
   go_wp2;go_ret;exact⟨ak (ae HP).symm,below_drewN ((Below.refl _ _).alloc (Nat.le_refl _) _) _⟩
  ·
   rcases Int.lt_or_le d 1 with x2|x2
   ·
    have HP:Hid (eu y mo d h mi s=false):=af (ae HN (by omega));have z2:decide (1<=d)=false:=by simp;omega
    go_enter Tryz.func27,Tryz.ntmps27;go_wp2
    go_quiet ((go_at_call 52;exact Calls.quiet_of_same ((d6 _ _ _ (by omega) (by omega)).mono (by rintro e w9 ⟨rfl,hw9⟩;exact⟨aR (ae HQ),hw9⟩))))
    go_wp2;go_ret;exact⟨ak (ae HP).symm,below_drewN ((Below.refl _ _).alloc (Nat.le_refl _) _) _⟩
   ·
    rcases Int.lt_or_le D d with x3|x3
    ·
     have HP:Hid (eu y mo d h mi s=false):=af (ae HN (by omega));have z3:decide (d<=D)=false:=by simp;omega
     go_enter Tryz.func27,Tryz.ntmps27;go_wp2
     go_quiet ((go_at_call 52;exact Calls.quiet_of_same ((d6 _ _ _ (by omega) (by omega)).mono (by rintro e w9 ⟨rfl,hw9⟩;exact⟨aR (ae HQ),hw9⟩))))
     go_wp2;go_ret;exact⟨ak (ae HP).symm,below_drewN ((Below.refl _ _).alloc (Nat.le_refl _) _) _⟩
    ·
     go_enter Tryz.func27,Tryz.ntmps27;go_wp2
     go_quiet ((go_at_call 52;exact Calls.quiet_of_same ((d6 _ _ _ (by omega) (by omega)).mono (by rintro e w9 ⟨rfl,hw9⟩;exact⟨aR (ae HQ),hw9⟩))))
     rcases Int.lt_or_le h 0 with u0|u0
     · have HP:Hid (eu y mo d h mi s=false):=af (ae HN (by omega));go_wp2;go_ret;exact⟨ak (ae HP).symm,below_drewN ((Below.refl _ _).alloc (Nat.le_refl _) _) _⟩
     ·
      skip
      rcases Int.lt_or_le 23 h with u1|u1
      · have HP:Hid (eu y mo d h mi s=false):=af (ae HN (by omega));go_wp2;go_ret;exact⟨ak (ae HP).symm,below_drewN ((Below.refl _ _).alloc (Nat.le_refl _) _) _⟩
      ·
       skip
       rcases Int.lt_or_le mi 0 with u2|u2
       · have HP:Hid (eu y mo d h mi s=false):=af (ae HN (by omega));go_wp2;go_ret;exact⟨ak (ae HP).symm,below_drewN ((Below.refl _ _).alloc (Nat.le_refl _) _) _⟩
       ·
        skip
        rcases Int.lt_or_le 59 mi with u3|u3
        · have HP:Hid (eu y mo d h mi s=false):=af (ae HN (by omega));go_wp2;go_ret;exact⟨ak (ae HP).symm,below_drewN ((Below.refl _ _).alloc (Nat.le_refl _) _) _⟩
        ·
         skip
         rcases Int.lt_or_le s 0 with u4|u4
         · have HP:Hid (eu y mo d h mi s=false):=af (ae HN (by omega));go_wp2;go_ret;exact⟨ak (ae HP).symm,below_drewN ((Below.refl _ _).alloc (Nat.le_refl _) _) _⟩
         ·
          skip
          rcases Int.lt_or_le 58 s with u5|u5
          · have HP:Hid (eu y mo d h mi s=false):=af (ae HN (by omega));go_wp2;go_ret;exact⟨ak (ae HP).symm,below_drewN ((Below.refl _ _).alloc (Nat.le_refl _) _) _⟩
          ·
           skip
           have HP:Hid (eu y mo d h mi s=(s%2 == 0)):=Mm (by omega) (by omega) (by omega) (by omega) (by omega) (by omega) (by omega) (by omega) (by omega) trivial (by rw[ae HQ];omega);go_wp2;go_ret;exact⟨ak (ae HP).symm,below_drewN ((Below.refl _ _).alloc (Nat.le_refl _) _) _⟩
theorem iY(i:Nat)(x y:Int)(h0:0<=x)(h1:x<2 ^ i)(h2:0<=y)(h3:y<9223372036854775808)(h4:x<9223372036854775808)(h:y%2 ^ i=0):bits .or .i64 x y=x+y:=by
 obtain⟨a,rfl⟩:=Int.eq_ofNat_of_zero_le h0;obtain⟨b,rfl⟩:=Int.eq_ofNat_of_zero_le h2;rw[jp a b (by omega) (by omega),Nat.or_comm,nat_join i b a (by exact_mod_cast h) (by exact_mod_cast h1)];omega
def Six(w:World)(b:Nat)(y mo d h mi s:Int):Prop:=
 (w.cell? ⟨b,0,none⟩=some (.int .i64 y)/\w.cell? ⟨b,1,none⟩=some (.int .i64 mo)/\w.cell? ⟨b,2,none⟩=some (.int .i64 d)/\w.cell? ⟨b,3,none⟩=some (.int .i64 h)/\w.cell? ⟨b,4,none⟩=some (.int .i64 mi)/\w.cell? ⟨b,5,none⟩=some (.int .i64 s)) /\
 (w.frozen? ⟨b,0,none⟩=false/\w.frozen? ⟨b,1,none⟩=false/\w.frozen? ⟨b,2,none⟩=false/\w.frozen? ⟨b,3,none⟩=false/\w.frozen? ⟨b,4,none⟩=false/\w.frozen? ⟨b,5,none⟩=false)/\b<w.heap.size
theorem i6(w:World)(y mo d h mi s:Int)(t:TypeId):Six (w.alloc (.cells #[.int .i64 y,.int .i64 mo,.int .i64 d,.int .i64 h,.int .i64 mi,.int .i64 s] t)) w.heap.size y mo d h mi s:=by
 refine⟨⟨?_,?_,?_,?_,?_,?_⟩,⟨?_,?_,?_,?_,?_,?_⟩,?_⟩<;>simp
theorem Six.later{w w':World}{b B:Nat}{y mo d h mi s:Int}(k:Six w b y mo d h mi s)(hb:Below B w w')(hB:b<B):Six w' b y mo d h mi s:=by
 obtain⟨⟨c0,c1,c2,c3,c4,c5⟩,⟨f0,f1,f2,f3,f4,f5⟩,hlt⟩:=k;refine⟨⟨?_,?_,?_,?_,?_,?_⟩,⟨?_,?_,?_,?_,?_,?_⟩,Nat.lt_of_lt_of_le hlt hb.size⟩
 · exact(hb.cell (p:=⟨b,0,none⟩) hB).trans c0
 · exact(hb.cell (p:=⟨b,1,none⟩) hB).trans c1
 · exact(hb.cell (p:=⟨b,2,none⟩) hB).trans c2
 · exact(hb.cell (p:=⟨b,3,none⟩) hB).trans c3
 · exact(hb.cell (p:=⟨b,4,none⟩) hB).trans c4
 · exact(hb.cell (p:=⟨b,5,none⟩) hB).trans c5
 · exact(hb.frozen (p:=⟨b,0,none⟩) hB).trans f0
 · exact(hb.frozen (p:=⟨b,1,none⟩) hB).trans f1
 · exact(hb.frozen (p:=⟨b,2,none⟩) hB).trans f2
 · exact(hb.frozen (p:=⟨b,3,none⟩) hB).trans f3
 · exact(hb.frozen (p:=⟨b,4,none⟩) hB).trans f4
 · exact(hb.frozen (p:=⟨b,5,none⟩) hB).trans f5
theorem aJ{w:World}{b i j:Nat}{v:Value}{c:Option Value}(k:w.cell? ⟨b,j,none⟩=c)(h:i≠j):(w.setCell ⟨b,i,none⟩ v).cell? ⟨b,j,none⟩=c:=by
 rw[World.cell?_setCell_other _ _ _ _ (fun e=>h (by cases e;rfl))];exact k
theorem Six.store{w:World}{b:Nat}{y mo d h mi s:Int}(k:Six w b y mo d h mi s)(y' mo' d' h' mi' s':Int) :
  Six ((((((w.setCell ⟨b,0,none⟩ (.int .i64 y')).setCell ⟨b,1,none⟩ (.int .i64 mo')).setCell ⟨b,2,none⟩ (.int .i64 d')).setCell ⟨b,3,none⟩ (.int .i64 h')).setCell ⟨b,4,none⟩ (.int .i64 mi')).setCell ⟨b,5,none⟩ (.int .i64 s')) b y' mo' d' h' mi' s':=by
 obtain⟨⟨c0,c1,c2,c3,c4,c5⟩,⟨f0,f1,f2,f3,f4,f5⟩,hlt⟩:=k;refine⟨⟨?_,?_,?_,?_,?_,?_⟩,⟨?_,?_,?_,?_,?_,?_⟩,?_⟩
 · exact aJ (aJ (aJ (aJ (aJ (World.cell?_setCell_same _ _ _ c0) (by decide)) (by decide)) (by decide)) (by decide)) (by decide)
 · exact aJ (aJ (aJ (aJ (World.cell?_setCell_same _ _ _ (aJ c1 (by decide))) (by decide)) (by decide)) (by decide)) (by decide)
 · exact aJ (aJ (aJ (World.cell?_setCell_same _ _ _ (aJ (aJ c2 (by decide)) (by decide))) (by decide)) (by decide)) (by decide)
 · exact aJ (aJ (World.cell?_setCell_same _ _ _ (aJ (aJ (aJ c3 (by decide)) (by decide)) (by decide))) (by decide)) (by decide)
 · exact aJ (World.cell?_setCell_same _ _ _ (aJ (aJ (aJ (aJ c4 (by decide)) (by decide)) (by decide)) (by decide))) (by decide)
 · exact World.cell?_setCell_same _ _ _ (aJ (aJ (aJ (aJ (aJ c5 (by decide)) (by decide)) (by decide)) (by decide)) (by decide))
 · simpa using f0
 · simpa using f1
 · simpa using f2
 · simpa using f3
 · simpa using f4
 · simpa using f5
 · simpa using hlt
theorem oL{B:Nat}{a w:World}{b:Nat}(k:Below B a w)(hb:B<=b)(v0 v1 v2 v3 v4 v5:Value):Below B a ((((((w.setCell ⟨b,0,none⟩ v0).setCell ⟨b,1,none⟩ v1).setCell ⟨b,2,none⟩ v2).setCell ⟨b,3,none⟩ v3).setCell ⟨b,4,none⟩ v4).setCell ⟨b,5,none⟩ v5):=
 ai (ai (ai (ai (ai (ai k hb _) hb _) hb _) hb _) hb _) hb _
theorem yi{w w1:World}{y mo d h mi s:Int}{t:TypeId}(hb:Below (w.alloc (.cells #[.int .i64 y,.int .i64 mo,.int .i64 d,.int .i64 h,.int .i64 mi,.int .i64 s] t)).heap.size (w.alloc (.cells #[.int .i64 y,.int .i64 mo,.int .i64 d,.int .i64 h,.int .i64 mi,.int .i64 s] t)) w1) :
  Six w1 w.heap.size y mo d h mi s/\Below w.heap.size w w1:=
 ⟨(i6 w y mo d h mi s t).later hb (by simp),((Below.refl _ _).alloc (Nat.le_refl _) _).trans (hb.mono (by simp))⟩
def stN(y mo d h mi s:Int):Int:=(((((y-1980)*16+mo)*32+d)*32+h)*64+mi)*32+s/2
def stI(y mo d h mi s:Int):Int:=if eu y mo d h mi s then stN y mo d h mi s else -1
theorem IR{y mo d h mi s:Int}(k:eu y mo d h mi s=true):(1980<=y/\y<=2107)/\(1<=mo/\mo<=12)/\(1<=d/\d<=j7 y mo/\d<=31)/\(0<=h/\h<=23)/\(0<=mi/\mi<=59)/\(0<=s/\s<=58)/\s%2=0:=by
 simp only[eu,Bool.and_eq_true,aD,decide_eq_true_eq]at k;obtain⟨ey,em,ed,eh,ei,es,e2⟩:=k;have h1:eR y mo=j7 y mo:=by simp[eR,aD.2 em]
 have h2:=(vX y mo).2;refine⟨ey,em,⟨ed.1,ed.2,?_⟩,eh,ei,es,e2⟩;omega
theorem ov(y mo d h mi s:Int)(w:World) :
  Calls Tryz.prog 50 #[.agg #[.int .i64 y,.int .i64 mo,.int .i64 d,.int .i64 h,.int .i64 mi,.int .i64 s]] w fun e w'=>e = .returned (.int .i64 (stI y mo d h mi s))/\Below w.heap.size w w':=by
 cases k:eu y mo d h mi s
 ·
  have e:stI y mo d h mi s = -1:=by simp[stI,k]
  rw[e];clear e;go_enter Tryz.func50,Tryz.ntmps50;go_wp2_with fail;refine(bK y mo d h mi s _).mono ?_;rintro e w1 ⟨rfl,hb⟩;rw[k];go_wp2;go_ret;exact⟨rfl,(yi hb).2⟩
 ·
  have e:stI y mo d h mi s=stN y mo d h mi s:=by simp[stI,k]
  rw[e];clear e;obtain⟨⟨y0,y1⟩,⟨m0,m1⟩,⟨d0,_,d1⟩,⟨h0,h1⟩,⟨i0,i1⟩,⟨s0,s1⟩,s2⟩:=IR k;go_enter Tryz.func50,Tryz.ntmps50;go_wp2_with fail;refine(bK y mo d h mi s _).mono ?_;rintro e w1 ⟨rfl,hb⟩;rw[k];obtain⟨⟨⟨c0,c1,c2,c3,c4,c5⟩,_,_⟩,hb1⟩:=yi hb;clear hb;go_wp2;go_ret;refine⟨aR ?_,hb1⟩;rw[iY 5 (s/2) (mi*32) (by omega) (by omega) (by omega) (by omega) (by omega) (by omega)];rw[iY 11 _ (h*2048) (by omega) (by omega) (by omega) (by omega) (by omega) (by omega)];rw[iY 16 _ (d*65536) (by omega) (by omega) (by omega) (by omega) (by omega) (by omega)];rw[iY 21 _ (mo*2097152) (by omega) (by omega) (by omega) (by omega) (by omega) (by omega)];rw[iY 25 _ ((y-1980)*33554432) (by omega) (by omega) (by omega) (by omega) (by omega) (by omega)];unfold stN;omega
def gS(n:Int):Int:=2*(n%32)
def gI(n:Int):Int:=n/32%64
def gH(n:Int):Int:=n/2048%32
def gD(n:Int):Int:=n/65536%32
def gM(n:Int):Int:=n/2097152%16
def gY(n:Int):Int:=n/33554432+1980
def gOk(n:Int):Bool:=inB n 0 4294967295&&eu (gY n) (gM n) (gD n) (gH n) (gI n) (gS n)
def zz(b:Bool)(x:Int):Int:=if b then x else 0
def stG(n:Int):Value:=.agg #[.int .i64 (zz (gOk n) (gY n)),.int .i64 (zz (gOk n) (gM n)),.int .i64 (zz (gOk n) (gD n)),.int .i64 (zz (gOk n) (gH n)),.int .i64 (zz (gOk n) (gI n)),.int .i64 (zz (gOk n) (gS n))]
theorem IQ{n:Int}(h:gOk n=false):stG n = .agg #[.int .i64 0,.int .i64 0,.int .i64 0,.int .i64 0,.int .i64 0,.int .i64 0]:=by simp[stG,h,zz]
theorem K6{n:Int}(h:gOk n=true):stG n = .agg #[.int .i64 (gY n),.int .i64 (gM n),.int .i64 (gD n),.int .i64 (gH n),.int .i64 (gI n),.int .i64 (gS n)]:=by simp[stG,h,zz]
end Go.Proofs.YtkpfkgoiaicgbaaGreatDoor
namespace Go.Proofs.YtkpfkgoiaicgbaaGreatDoor
open Go.RowKit Corb
def gn(w:World)(b k:Nat):Prop:=
 (∀j,j<16->w.cell? ⟨b,j,none⟩=some (.int .u32 ((if j<k then shN 4 j else 0:Nat):Int))/\w.frozen? ⟨b,j,none⟩=false)/\b<w.heap.size
theorem gn.set{w:World}{b k:Nat}(h:gn w b k)(hk:k<16):gn (w.setCell ⟨b,k,none⟩ (.int .u32 (shN 4 k:Nat))) b (k+1):=by
 refine⟨fun j hj=>⟨?_,by simpa using(h.1 j hj).2⟩,by simpa using h.2⟩;by_cases e:j=k
 · subst e;rw[World.cell?_setCell_same _ _ _ (h.1 j hj).1];simp
 ·
  rw[World.cell?_setCell_other _ _ _ _ (by simp only[ne_eq,Addr.mk.injEq];omega),(h.1 j hj).1];by_cases l:j<k
  · rw[if_pos l,if_pos (by omega)]
  · rw[if_neg l,if_neg (by omega)]
theorem I4(w:World)(t:TypeId):gn (w.alloc (.cells (Array.replicate 16 (.int .u32 0)) t)) w.heap.size 0:=by
 refine⟨fun j hj=>⟨?_,by simp⟩,by simp⟩;simp[hj]
theorem uC(w:World) :
  Calls Tryz.prog 136 #[] w fun e w'=>e = .returned (.func (.func 174) #[] #[.pointer (some ⟨w.heap.size,0,none⟩)])/\gn w' w.heap.size 16/\Below w.heap.size w w':=by
 have hz:=I4 w 274;go_enter Tryz.func136,Tryz.ntmps136;go_wp2_with fail
 go_loopw [3] (fun i wr=>∃k:Nat,k<=16/\i = .int .i64 k/\gn wr w.heap.size k/\Below w.heap.size w wr) (fun i _=>16-(intOf i).toNat)
 case atStart=>exact⟨0,by omega,rfl,hz,(Below.refl _ _).alloc (Nat.le_refl _) _⟩
 case round=>
  obtain⟨k,hk,rfl,htab,hbel⟩:=hrel;have hk':(k:Int)<=16:=by omega
  clear hk hz;by_cases hlt:(k:Int)<16
  ·
   obtain⟨hc,hf⟩:=htab.1 k (by omega);have hset:=htab.set (by omega);go_wp2_with (go_at_call 173;refine(uB _ _ _ (by omega) (by omega) (by omega) (by omega)).mono ?_;rintro e w' ⟨rfl,rfl⟩);go_roundw
   case rel=>exact⟨k+1,by omega,by go_num,hset,ai hbel (Nat.le_refl _) _⟩
   case measure=>simp[intOf];omega
  ·
   have hke:k=16:=by omega
   subst hke;go_wp2;go_ret;exact⟨rfl,htab,hbel⟩
theorem vU(b:Nat)(i:Int)(w:World)(h:gn w b 16)(i0:0<=i)(i1:i<16) :
  Calls Tryz.prog 174 #[.int .u32 i,.pointer (some ⟨b,0,none⟩)] w fun e w'=>e = .returned (.int .u32 (shN 4 i.toNat:Nat))/\w'=w:=by
 obtain⟨k,rfl⟩:=Int.eq_ofNat_of_zero_le i0;rw[Int.toNat_natCast];obtain⟨hc,_⟩:=h.1 k (by omega);rw[if_pos (by omega)]at hc;go_enter Tryz.func174,Tryz.ntmps174;go_wp2;go_ret;exact⟨rfl,rfl⟩
theorem Jb(w:World)(v0 v1:Value)(t:TypeId):Two (w.alloc (.cells #[v0,v1] t)) w.heap.size v0 v1:=by
 refine⟨by simp,by simp,by simp,by simp,by simp⟩
end Go.Proofs.YtkpfkgoiaicgbaaGreatDoor
