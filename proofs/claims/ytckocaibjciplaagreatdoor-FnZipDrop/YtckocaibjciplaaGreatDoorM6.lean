/- Texts. -/
import Derived.Test.YtckocaibjciplaaGreatDoorM3
import Derived.BigQuiet
import Derived.WalkSmall
set_option linter.all false
set_option maxHeartbeats 4000000
namespace Go.Proofs.YtckocaibjciplaaGreatDoor
open Go.Proofs.Tryz
open Go.RowKit
variable {B b:Nat}{d h mi mo s y:Int}{v0 v1:Value}{w:World}
def a1g := @Calls.quiet_of_same
def a1L := @wpQuiet_nil
def Two(w:World)(b:Nat)(v0 v1:Value):Prop:=
 w.cell? ⟨b,0,none⟩=some v0/\w.cell? ⟨b,1,none⟩=some v1/\w.frozen? ⟨b,0,none⟩=false/\w.frozen? ⟨b,1,none⟩=false/\b<w.heap.size
def ai{a:World}(h:Below B a w){o:Nat}(hb:B<=b)(u:Value):Below B a (w.setCell ⟨b,o,none⟩ u):=h.setCell (p:=⟨b,o,none⟩) hb u
def Two.set0(h:Two w b v0 v1)(u:Value):Two (w.setCell ⟨b,0,none⟩ u) b u v1:=by
 obtain⟨c0,c1,f0,f1,hb⟩:=h;refine⟨World.cell?_setCell_same _ _ _ c0,?_,by simpa using f0,by simpa using f1,by simpa using hb⟩;rw[World.cell?_setCell_other _ _ _ _ (by simp)];exact c1
def Two.set1(h:Two w b v0 v1)(u:Value):Two (w.setCell ⟨b,1,none⟩ u) b v0 u:=by
 obtain⟨c0,c1,f0,f1,hb⟩:=h;refine⟨?_,World.cell?_setCell_same _ _ _ c1,by simpa using f0,by simpa using f1,by simpa using hb⟩;rw[World.cell?_setCell_other _ _ _ _ (by simp)];exact c0
def Two.drew(h:Two w b v0 v1):Two w.drew b v0 v1:=h
def pi(b:Nat)(w w':World):Prop:=Below b w w'/\(∀k,k≠b->w'.heap[k]?=w.heap[k]?)/\w'.heap.size=w.heap.size
def pi.cell{w':World}(h:pi b w w'){p:Addr}(a:p.block≠b):w'.cell? p=w.cell? p:=World.cell?_of_block (w:=w) (h.2.1 p.block a)
def qR(w:World)(b o:Nat)(u:Value)(n:Nat):pi b w ((w.setCell ⟨b,o,none⟩ u).drewN n):=
 ⟨below_drewN (ai (a0c _ _) (a0a _) _) _,fun k a=>a0M w ⟨b,o,none⟩ u k a,by show(w.setCell ⟨b,o,none⟩ u).heap.size=_;simp⟩
def Rd(w:World)(B b m:Nat):Prop:=∃(a:Option Addr) (len cap p:Nat) (z:Nat->Int),len<=2000/\p<=m/\B<=b/\Two w b (.slice a len cap) (.int .i64 p) /\
 (∀i,0<=z i/\z i<256)/\(0<len->∃ab ao,a=some ⟨ab,ao,none⟩/\ab<B/\∀i,i<len->w.cell? ⟨ab,ao+i,none⟩=some (.int .u8 (z i)))
def NX(X n:Int)(a:0<=X)(b:X<1000000000)(n1:1<=n):0<=(bits .xor .i64 X (X/64)).tmod n/\(bits .xor .i64 X (X/64)).tmod n<n:=by
 obtain⟨x,rfl⟩:=a0p a;have e:=nr x (x/64) (by omega) (by omega);rw[show((x/64:Nat):Int)=(x:Int)/64 by omega]at e;rw[e];exact⟨Int.tmod_nonneg _ (by omega),Int.tmod_lt_of_pos _ (by omega)⟩
def bR(B b m:Nat)(n:Int)(w:World)(h:Rd w B b m)(s:m<=100000)(n1:1<=n)(n2:n<=70000) :
  Calls prog 40 #[.pointer b,n] w fun e w'=>∃r:Int,e = .returned (.int .i64 r)/\0<=r/\r<n/\Rd w' B b (m+1)/\pi b w w':=by
 obtain⟨a,len,cap,p,z,q,t,y,d,j,c⟩:=h;have x:=af d;obtain⟨c0,c1,f0,f1,hb⟩:=d;have u:(p:Int)<=100000:=by omega
 have F:(len:Int)<=2000:=by omega
 have o:∀nq,Rd ((w.setCell ⟨b,1,none⟩ (.int .i64 ((p:Int)+1))).drewN nq) B b (m+1):=by
  intro nq;refine⟨a,len,cap,p+1,z,q,by omega,y,x.set1 _,j,fun k=>?_⟩;obtain⟨ab,ao,e,l,g⟩:=c k;refine⟨ab,ao,e,l,fun i D=>?_⟩;rw[←g i D];exact(qR w b 1 _ nq).cell (by show ab≠b;omega)
 have f:=af o;clear o;by_cases k:len=0
 . subst k;clear c q t s;go_enter func40,ntmps40;go_wp2;go_ret;exact⟨0,rfl,by omega,by omega,f 0,qR w b 1 _ 0⟩
 .
  obtain⟨ab,ao,rfl,l,g⟩:=c (by omega);have G:(0:Int)<(len:Int):=by omega
  have H:((len:Int) == 0)=false:=by simp;omega
  have A:ab≠b:=by omega
  by_cases E:p<len
  .
   have C:=g p E;have v:=j p;obtain⟨z0,z1⟩:=v;generalize z p=zp at *;clear c g j q t s k;go_enter func40,ntmps40;go_wp2;go_ret;exact⟨zp%n,rfl,Int.emod_nonneg _ (by omega),Int.emod_lt_of_pos _ (by omega),f 0,qR w b 1 _ 0⟩
  .
   have i1:=g (p%len) (a00 _ (by omega));have i2:=g ((p*7+3)%len) (a00 _ (by omega));obtain⟨z0,z1⟩:=j (p%len);obtain⟨y0,y1⟩:=j ((p*7+3)%len);have j0:(0:Int)<=(p:Int)%(len:Int):=Int.emod_nonneg _ (by omega);have j1:(p:Int)%(len:Int)<(len:Int):=Int.emod_lt_of_pos _ (by omega);have j2:(0:Int)<=((p:Int)*7+3)%(len:Int):=Int.emod_nonneg _ (by omega);have j3:((p:Int)*7+3)%(len:Int)<(len:Int):=Int.emod_lt_of_pos _ (by omega);have j4:(0:Int)<=(p:Int)/(len:Int):=Int.ediv_nonneg (by omega) (by omega);have j5:(p:Int)/(len:Int)<=100000:=Int.le_trans (Int.ediv_le_self _ (by omega)) u;generalize z (p%len)=zp,z ((p*7+3)%len)=yp at *;clear c g j q t s k;go_enter func40,ntmps40;go_wp2
   go_quiet (fail)
   go_wp2;go_ret;refine⟨_,rfl,?_,?_,f _,qR w b 1 _ _⟩
   . exact(NX _ n (by omega) (by omega) n1).1
   . exact(NX _ n (by omega) (by omega) n1).2
open Corb
def p2(k:Nat):Nat:=2 ^ k
def mr(k:Nat):1<=p2 k:=Nat.one_le_two_pow
def kM(k:Nat):p2 (k+1)=p2 k*2:=a1u ..
def ll(k:Nat):((p2 k:Nat):Int)=(2:Int) ^ k:=by simp[p2]
def bP(n:Int)(a : -9223372036854775808<=n)(b:n<=9223372036854775807):IntKind.i64.wrap n=n:=by
 simp[IntKind.wrap,IntKind.bits,IntKind.signed];omega
def fR (n : Int) (w : World) (h : n ≤ 60) :
    Calls prog 217 #[n] w fun e w' => e = .returned (.int .i64 (p2 n.toNat : Nat)) ∧ w' = w := by
  have hle : p2 n.toNat ≤ 2 ^ 60 := a0P (by omega) (by omega)
  generalize hN : p2 n.toNat = N at *;have HN := af hN
  clear hN
  go_enter func217, ntmps217
  go_wp2
  go_loop [0, 3] (fun m o => ∃ (k : Int), k ≤ 60 ∧ m = .int .i64 k ∧ ∃ p : Nat, o = .int .i64 p ∧ p * p2 k.toNat = N) (fun m _ => (intOf m).toNat)
  case atStart => exact ⟨n, h, rfl, 1, rfl, by have := ae HN; omega⟩
  case round =>
    obtain ⟨k, hk, rfl, p, rfl, hp⟩ := hrel
    by_cases h0 : 0 < k
    . have e : p2 k.toNat = p2 (k - 1).toNat * 2 := by rw [← kM]; congr 1; omega
      have hq : p * 2 * p2 (k - 1).toNat = N := by rw [← hp, e, a1O, a1h 2]
      have hpl : p * 2 ≤ 2 ^ 60 := by
        have h1 : p * 2 * 1 ≤ p * 2 * p2 (k - 1).toNat := Nat.mul_le_mul_left _ (mr _)
        omega
      have HQ := af hq
      have hpl' : (p : Int) ≤ 1152921504606846976 := by have : (2 : Nat) ^ 60 = 1152921504606846976 := by decide
                                                        omega
      clear e hq hpl hp hle
      go_wp2
      go_round
      case rel => exact ⟨k - 1, by omega, rfl, p * 2, by go_num, ae HQ⟩
      case measure => simp [intOf]; omega
    . have hk0 : k.toNat = 0 := by omega
      rw [hk0] at hp
      have HP : Hid (p = N) := by have : p = N := by rw [← hp]; simp [p2]
                                  exact this
      clear hp hk0 hle
      go_wp2
      go_ret
      exact ⟨aK (by rw [ae HP]), rfl⟩
def pOk(num bits:Int):Bool:=inB bits 0 16&&inB num 0 ((p2 bits.toNat:Nat)-1)
def aS{num bits:Int} : pOk num bits=true<->(0<=bits/\bits<=16)/\0<=num/\num<(p2 bits.toNat:Nat):=by
 simp only[pOk,a0l,aI];omega
def GF(bits:Int)(c:bits<=16):(1:Int)<=(p2 bits.toNat:Nat)/\((p2 bits.toNat:Nat):Int)<=65536:=by
 have a:p2 bits.toNat<=65536:=wF bits.toNat (by omega);have b:=mr bits.toNat
 omega
def kN(num bits:Int)(w:World) :
  Ds 156 #[.agg #[num,bits]] w (.bool (pOk num bits)):=by
 by_cases e:0<=bits
 .
  by_cases b:bits<=16
  .
   by_cases n0:0<=num
   .
    obtain⟨j,k⟩:=GF bits b;have HP:Hid (pOk num bits=decide (num<(p2 bits.toNat:Nat))):=by
     show pOk num bits=decide (num<(p2 bits.toNat:Nat));rw[a2g,aS,a2h];omega
    have hq:=ll bits.toNat
    generalize ((p2 bits.toNat:Nat):Int)=q at *;have d:=af hq;have a:=bP q (by omega) (by omega);clear hq;have c:IntKind.i64.wrap (2 ^ bits.toNat)=q:=by
     have h:=ae d;rw[←h];exact a
    go_enter a3v,a3w;go_wp2
    go_quiet (fail)
    go_wp2;go_ret;exact⟨am HP.symm,below_drewN cC _⟩
   .
    have HP:Hid (pOk num bits=false):=by
     show pOk num bits=false;rw[←a22,aS];omega
    have i:decide (0<=num)=false:=a0m n0;go_enter a3v,a3w;go_wp2
    go_quiet (fail)
    go_wp2;go_ret;exact⟨am HP.symm,below_drewN cC _⟩
  .
   have HP:Hid (pOk num bits=false):=by
    show pOk num bits=false;rw[←a22,aS];omega
   have g:decide (bits<=16)=false:=a0m b;go_enter a3v,a3w;go_wp2
   go_quiet (fail)
   go_wp2;go_ret;exact⟨am HP.symm,below_drewN cC _⟩
 .
  have HP:Hid (pOk num bits=false):=by
   show pOk num bits=false;rw[←a22,aS];omega
  have f:decide (0<=bits)=false:=a0m e;go_enter a3v,a3w;go_wp2
  go_quiet (fail)
  go_wp2;go_ret;exact⟨am HP.symm,below_drewN cC _⟩
def btI(num bits:Int):Int:=if pOk num bits=true then(rv bits.toNat num.toNat:Nat)else -1
def Ia{num bits:Int}(h:pOk num bits=true):btI num bits=(rv bits.toNat num.toNat:Nat):=a0d h
def Sj{num bits:Int}(h:pOk num bits=false):btI num bits = -1:=a0e (by simp[h])
def tJ(k n:Nat):((rv (k+1) n:Nat):Int)=2*(rv k n:Nat)+((n/2 ^ k:Nat):Int)%2:=by
 simp only[rv];omega
def BS(n k:Nat):((n/2 ^ k:Nat):Int)/2=((n/2 ^ (k+1):Nat):Int):=by
 rw[←lX];omega
def Rh(n k:Nat):(n:Int)/2 ^ k=((n/2 ^ k:Nat):Int):=by
 exact(Int.natCast_ediv n (2 ^ k)).symm
def F7(num bits:Int)(w:World)(n0:0<=num)(n1:num<65536)(d:0<=bits)(o:bits<=16) :
  Calls prog 264 #[num,bits] w fun e w'=>e = .returned (.int .i64 (rv bits.toNat num.toNat:Nat))/\w'=w:=by
 obtain⟨n,rfl⟩:=a0p n0;obtain⟨b,rfl⟩:=a0p d;rw[a0o,a0o];go_enter func264,ntmps264;go_wp2
 go_loop [0,5,6] (fun m r i=>∃k:Nat,k<=b/\i = .int .i64 k/\r = .int .i64 (rv k n:Nat)/\m = .int .i64 (n/2 ^ k:Nat)) (fun _ _ i=>b-(intOf i).toNat)
 case atStart=>exact⟨0,a0g _,rfl,rfl,by simp⟩
 case round=>
  obtain⟨k,p,rfl,rfl,rfl⟩:=hrel;have j:=OP k n;have c:=wF k (by omega);have g:n/2 ^ k<=n:=a10 _ _;have e1:=af (tJ k n);have e2:=af (BS n k);by_cases f:k<b
  .
   have l:((rv k n:Nat):Int)<65536:=(by omega);have h:((n/2 ^ k:Nat):Int)<65536:=(by omega);generalize ((n/2 ^ k:Nat))=x,rv k n=y at *;clear j c g;go_wp2
   go_round
   case rel=>exact⟨k+1,by omega,by go_num,by rw[ae e1],by rw[←ae e2]⟩
   case measure=>simp[intOf];omega
  .
   have a:k=b:=(by omega);subst a;go_wp2;go_ret;exact⟨rfl,rfl⟩
def rU(num bits:Int)(w:World) :
  Ds 200 #[num,bits] w (.int .i64 (btI num bits)):=by
 cases h:pOk num bits
 . have c:=af (Sj h);go_enter func200,ntmps200;go_wp2_with (go_at_call 156;apply(kN _ _ _).mono;rintro e w'⟨rfl,hb⟩);go_ret;exact⟨aK c.symm,hb⟩
 .
  have c:=af (Ia h);obtain⟨⟨f,g⟩,n0,n1⟩:=aS.1 h;have q:=(GF bits g).2;have n2:num<65536:=by omega
  clear n1 q;obtain⟨n,rfl⟩:=a0p n0;obtain⟨b,rfl⟩:=a0p f;rw[a0o,a0o]at c;go_enter func200,ntmps200;go_wp2_with (go_at_call 156;apply(kN _ _ _).mono;rintro e w'⟨rfl,hb⟩)
  go_loop [5,6,13] (fun r _ i=>∃k:Nat,k<=b/\i = .int .i64 k/\r = .int .i64 (rv k n:Nat)) (fun _ _ i=>b-(intOf i).toNat)
  case atStart=>exact⟨0,a0g _,rfl,rfl⟩
  case round=>
   obtain⟨k,u,rfl,rfl⟩:=hrel;have o:=OP k n;have d:=wF k (by omega);have l:n/2 ^ k<=n:=a10 _ _;have e1:=af (tJ k n);by_cases j:k<b
   .
    have p:((rv k n:Nat):Int)<65536:=(by omega);have m:((n/2 ^ k:Nat):Int)<65536:=(by omega);have s:=Rh n k;have a:(k:Int)<=16:=(by omega);generalize ((n/2 ^ k:Nat))=x,rv k n=y at *;have t:=np (x:Int) (by omega) (by omega);have v:=Cx 1 ((y:Int)*2) ((x:Int)%2) (by omega) (by omega) (by omega) (by omega) (by omega) (by omega);clear o d l;go_wp2
    go_round
    case rel=>exact⟨k+1,by omega,by go_num,by rw[ae e1];go_num⟩
    case measure=>simp[intOf];omega
   .
    have a:k=b:=(by omega);subst a;go_wp2;go_ret;exact⟨aK c.symm,hb⟩
def mL(y:Int):Bool:=decide (y%4=0)&&(!decide (y%100=0) || decide (y%400=0))
def ia(y m:Int):Int:=if m=4∨m=6∨m=9∨m=11 then 30 else if m=2 then(if mL y then 29 else 28)else 31
def B9(y:Int):Int:=if mL y then 29 else 28
def BL(y:Int):ia y 2=B9 y:=by simp[ia,B9]
def Qd(y m:Int)(h:m=4∨m=6∨m=9∨m=11):ia y m=30:=by simp[ia,h]
def Qe(y m:Int)(b:¬ m=4)(c:¬ m=6)(d:¬ m=9)(a:¬ m=11)(h2:¬ m=2):ia y m=31:=by simp[ia,b,c,d,a,h2]
def qJ(y:Int)(w:World)(d:0<=y)(f:y<=3000) :
  Calls prog 177 #[y] w fun e w'=>e = .returned (.bool (mL y))/\w'=w:=by
 by_cases c:y%4=0
 .
  by_cases b:y%100=0
  .
   by_cases a:y%400=0
   . go_enter a3x,a3y;go_wp2;go_ret;exact⟨am (by simp[mL,c,a]),rfl⟩
   . go_enter a3x,a3y;go_wp2;go_ret;exact⟨am (by simp[mL,c,b,a]),rfl⟩
  . go_enter a3x,a3y;go_wp2;go_ret;exact⟨am (by simp[mL,c,b]),rfl⟩
 .
  have a:¬ y%400=0:=by omega
  go_enter a3x,a3y;go_wp2;go_ret;exact⟨am (by simp[mL,c,a]),rfl⟩
def ml(y m:Int)(w:World)(d:0<=y)(f:y<=3000) :
  Calls prog 119 #[y,m] w fun e w'=>e = .returned (.int .i64 (ia y m))/\w'=w:=by
 by_cases m2:m=2
 .
  subst m2;rw[BL];by_cases c:y%4=0
  .
   by_cases a:y%100=0
   .
    by_cases b:y%400=0
    . go_enter a2I,a2J;go_wp2;go_ret;exact⟨aK (by simp[B9,mL,c,b]),rfl⟩
    . go_enter a2I,a2J;go_wp2;go_ret;exact⟨aK (by simp[B9,mL,c,a,b]),rfl⟩
   . go_enter a2I,a2J;go_wp2;go_ret;exact⟨aK (by simp[B9,mL,c,a]),rfl⟩
  . go_enter a2I,a2J;go_wp2;go_ret;exact⟨aK (by simp[B9,mL,c]),rfl⟩
 .
  by_cases m30:m=4∨m=6∨m=9∨m=11
  .
   rw[Qd y m m30];rcases m30 with rfl|rfl|rfl|rfl;all_goals
    go_enter a2I,a2J;go_wp2;go_ret;exact⟨rfl,rfl⟩
  . have m4:¬ m=4:=fun h=>m30 (by simp[h]);have m6:¬ m=6:=fun h=>m30 (by simp[h]);have m9:¬ m=9:=fun h=>m30 (by simp[h]);have m11:¬ m=11:=fun h=>m30 (by simp[h]);rw[Qe y m m4 m6 m9 m11 m2];clear m30;go_enter a2I,a2J;go_wp2;go_ret;exact⟨rfl,rfl⟩
def hH(y m:Int):Int:=if inB m 1 12 then ia y m else 0
def gz(y m:Int)(w:World)(g:0<=y)(h:y<=3000) :
  Calls prog 145 #[y,m] w fun e w'=>e = .returned (.int .i64 (hH y m))/\w'=w:=by
 cases a:inB m 1 12
 .
  have hd:hH y m=0:=by simp[hH,a]
  rw[hd];have hb:=eW.1 a;have n1:¬ m=1:=by omega
  have n2:¬ m=2:=by omega
  have n3:¬ m=3:=by omega
  have n4:¬ m=4:=by omega
  have n5:¬ m=5:=by omega
  have n6:¬ m=6:=by omega
  have n7:¬ m=7:=by omega
  have n8:¬ m=8:=by omega
  have n9:¬ m=9:=by omega
  have n10:¬ m=10:=by omega
  have n11:¬ m=11:=by omega
  have n12:¬ m=12:=by omega
  clear a hd hb;go_enter a3z,a3A;go_wp2;go_ret;exact⟨rfl,rfl⟩
 .
  have hd:hH y m=ia y m:=by simp[hH,a]
  rw[hd];obtain⟨d,f⟩:=aI.1 a;clear a hd;have i:m=1∨m=2∨m=3∨m=4∨m=5∨m=6∨m=7∨m=8∨m=9∨m=10∨m=11∨m=12:=by omega
  by_cases m2:m=2
  .
   subst m2;clear i d f;rw[BL];cases c:mL y
   . go_enter a3z,a3A;go_wp2_with (go_at_call 177;apply(qJ _ _ g h).mono;rintro e w'⟨rfl,b⟩;rw[b];clear b;rw[c]);go_ret;exact⟨aK (by simp[B9,c]),rfl⟩
   . go_enter a3z,a3A;go_wp2_with (go_at_call 177;apply(qJ _ _ g h).mono;rintro e w'⟨rfl,b⟩;rw[b];clear b;rw[c]);go_ret;exact⟨aK (by simp[B9,c]),rfl⟩
  .
   rcases i with rfl|rfl|rfl|rfl|rfl|rfl|rfl|rfl|rfl|rfl|rfl|rfl;all_goals first|exact absurd rfl m2|skip
   all_goals
    clear d f m2;go_enter a3z,a3A;go_wp2;go_ret;exact⟨aK (by simp[ia]),rfl⟩
def cX(y mo d h mi s:Int):Bool:=inB y 1980 2107&&(inB mo 1 12&&(inB d 1 (ia y mo)&&(inB h 0 23&&(inB mi 0 59&&(inB s 0 58&&decide (s%2=0))))))
def um(y mo d h mi s:Int)(w:World) :
  Ds 87 #[.agg #[y,mo,d,h,mi,s]] w (.bool (cX y mo d h mi s)):=by
 cases b:inB y 1980 2107
 .
  have HP:Hid (cX y mo d h mi s=false):=by simp[Hid,cX,b]
  go_enter func87,a3C;go_wp2
  go_quiet (first|(go_at_call 46;exact a1g (aT _ _ _ _))|(go_at_call 119;exact a1g (ml _ _ _ (by omega) (by omega))))
  go_wp2_with (go_at_call 46;apply(aT _ _ _ _).mono;rintro e w9⟨rfl,a⟩;rw[a];clear a);go_ret;exact⟨am HP.symm,below_drewN cC _⟩
 .
  skip
  obtain⟨y0,y1⟩:=aI.1 b;cases c:inB mo 1 12
  .
   have HP:Hid (cX y mo d h mi s=false):=by simp[Hid,cX,b,c]
   go_enter func87,a3C;go_wp2
   go_quiet (first|(go_at_call 46;exact a1g (aT _ _ _ _))|(go_at_call 119;exact a1g (ml _ _ _ (by omega) (by omega))))
   go_wp2_with (go_at_call 46;apply(aT _ _ _ _).mono;rintro e w9⟨rfl,a⟩;rw[a];clear a);go_ret;exact⟨am HP.symm,below_drewN cC _⟩
  .
   skip
   cases hd:inB d 1 (ia y mo)
   .
    have HP:Hid (cX y mo d h mi s=false):=by simp[Hid,cX,b,c,hd]
    go_enter func87,a3C;go_wp2
    go_quiet (first|(go_at_call 46;exact a1g (aT _ _ _ _))|(go_at_call 119;exact a1g (ml _ _ _ (by omega) (by omega))))
    go_wp2_with (go_at_call 46;apply(aT _ _ _ _).mono;rintro e w9⟨rfl,a⟩;rw[a];clear a);go_ret;exact⟨am HP.symm,below_drewN cC _⟩
   .
    skip
    go_enter func87,a3C;go_wp2
    go_quiet (first|(go_at_call 46;exact a1g (aT _ _ _ _))|(go_at_call 119;exact a1g (ml _ _ _ (by omega) (by omega))))
    cases f:inB h 0 23
    .
     have HP:Hid (cX y mo d h mi s=false):=by simp[Hid,cX,b,c,hd,f]
     go_wp2_with (go_at_call 46;apply(aT _ _ _ _).mono;rintro e w9⟨rfl,a⟩;rw[a];clear a);go_ret;exact⟨am HP.symm,below_drewN cC _⟩
    .
     skip
     cases g:inB mi 0 59
     .
      have HP:Hid (cX y mo d h mi s=false):=by simp[Hid,cX,b,c,hd,f,g]
      go_wp2_with (go_at_call 46;apply(aT _ _ _ _).mono;rintro e w9⟨rfl,a⟩;rw[a];clear a);go_ret;exact⟨am HP.symm,below_drewN cC _⟩
     .
      skip
      cases i:inB s 0 58
      .
       have HP:Hid (cX y mo d h mi s=false):=by simp[Hid,cX,b,c,hd,f,g,i]
       go_wp2_with (go_at_call 46;apply(aT _ _ _ _).mono;rintro e w9⟨rfl,a⟩;rw[a];clear a);go_ret;exact⟨am HP.symm,below_drewN cC _⟩
      .
       skip
       obtain⟨s0,s1⟩:=aI.1 i;have HP:Hid (cX y mo d h mi s=(s%2 == 0)):=by simp[Hid,cX,b,c,hd,f,g,i];rfl
       go_wp2_with (go_at_call 46;apply(aT _ _ _ _).mono;rintro e w9⟨rfl,a⟩;rw[a];clear a);go_ret;exact⟨am HP.symm,below_drewN cC _⟩
def BJ(y m:Int):0<=hH y m/\hH y m<=31:=by
 unfold hH ia;split<;>(try split)<;>(try split)<;>(try split)<;>omega
def O8{y mo d h mi s:Int}(k:y<1980∨2107<y∨d<1∨hH y mo<d∨h<0∨23<h∨mi<0∨59<mi∨s<0∨58<s):cX y mo d h mi s=false:=by
 cases e:cX y mo d h mi s
 . rfl
 .
  simp only[cX,a0l,aI,a0t]at e;obtain⟨ey,em,ed,eh,ei,es,_⟩:=e;have:hH y mo=ia y mo:=by simp[hH,aI.2 em]
  omega
def SR(y0:1980<=y)(y1:y<=2107)(a:1<=d)(c:0<=h)(f:h<=23)(m0:0<=mi)(m1:mi<=59)(s0:0<=s)(s1:s<=58)(_:True)(b:d<=hH y mo):cX y mo d h mi s=(s%2 == 0):=by
 have em:inB mo 1 12=true:=by
  cases e:inB mo 1 12
  .
   have:hH y mo=0:=by simp[hH,e]
   omega
  . rfl
 have ed:hH y mo=ia y mo:=by simp[hH,em]
 simp only[cX,aI.2 ⟨y0,y1⟩,em,aI.2 ⟨a,ed▸b⟩,aI.2 ⟨c,f⟩,aI.2 ⟨m0,m1⟩,aI.2 ⟨s0,s1⟩,a24];rfl
def dM(y mo d h mi s:Int)(w:World) :
  Ds 107 #[.agg #[y,mo,d,h,mi,s]] w (.bool (cX y mo d h mi s)):=by
 obtain⟨D0,g⟩:=BJ y mo;have b:=af (@O8 y mo d h mi s);generalize f:hH y mo=D at *;have c:=af f;clear f;rcases a1A y 1980 with x0|x0
 .
  have HP:Hid (cX y mo d h mi s=false):=af (ae b (by omega));have z0:decide (1980<=y)=false:=by simp;omega
  go_enter a26,a27;go_wp2
  go_quiet ((go_at_call 145;exact a1g ((gz _ _ _ (by omega) (by omega)).mono (by rintro e w9⟨rfl,a⟩;exact⟨aK c,a⟩))))
  go_wp2;go_ret;exact⟨am HP.symm,below_drewN cC _⟩
 .
  rcases a1A 2107 y with x1|x1
  .
   have HP:Hid (cX y mo d h mi s=false):=af (ae b (by omega));have z1:decide (y<=2107)=false:=by simp;omega
   go_enter a26,a27;go_wp2
   go_quiet ((go_at_call 145;exact a1g ((gz _ _ _ (by omega) (by omega)).mono (by rintro e w9⟨rfl,a⟩;exact⟨aK c,a⟩))))
   go_wp2;go_ret;exact⟨am HP.symm,below_drewN cC _⟩
  .
   rcases a1A d 1 with x2|x2
   .
    have HP:Hid (cX y mo d h mi s=false):=af (ae b (by omega));have z2:decide (1<=d)=false:=by simp;omega
    go_enter a26,a27;go_wp2
    go_quiet ((go_at_call 145;exact a1g ((gz _ _ _ (by omega) (by omega)).mono (by rintro e w9⟨rfl,a⟩;exact⟨aK c,a⟩))))
    go_wp2;go_ret;exact⟨am HP.symm,below_drewN cC _⟩
   .
    rcases a1A D d with x3|x3
    .
     have HP:Hid (cX y mo d h mi s=false):=af (ae b (by omega));have z3:decide (d<=D)=false:=by simp;omega
     go_enter a26,a27;go_wp2
     go_quiet ((go_at_call 145;exact a1g ((gz _ _ _ (by omega) (by omega)).mono (by rintro e w9⟨rfl,a⟩;exact⟨aK c,a⟩))))
     go_wp2;go_ret;exact⟨am HP.symm,below_drewN cC _⟩
    .
     go_enter a26,a27;go_wp2
     go_quiet ((go_at_call 145;exact a1g ((gz _ _ _ (by omega) (by omega)).mono (by rintro e w9⟨rfl,a⟩;exact⟨aK c,a⟩))))
     rcases a1A h 0 with u0|u0
     . have HP:Hid (cX y mo d h mi s=false):=af (ae b (by omega));go_wp2;go_ret;exact⟨am HP.symm,below_drewN cC _⟩
     .
      skip
      rcases a1A 23 h with u1|u1
      . have HP:Hid (cX y mo d h mi s=false):=af (ae b (by omega));go_wp2;go_ret;exact⟨am HP.symm,below_drewN cC _⟩
      .
       skip
       rcases a1A mi 0 with u2|u2
       . have HP:Hid (cX y mo d h mi s=false):=af (ae b (by omega));go_wp2;go_ret;exact⟨am HP.symm,below_drewN cC _⟩
       .
        skip
        rcases a1A 59 mi with u3|u3
        . have HP:Hid (cX y mo d h mi s=false):=af (ae b (by omega));go_wp2;go_ret;exact⟨am HP.symm,below_drewN cC _⟩
        .
         skip
         rcases a1A s 0 with u4|u4
         . have HP:Hid (cX y mo d h mi s=false):=af (ae b (by omega));go_wp2;go_ret;exact⟨am HP.symm,below_drewN cC _⟩
         .
          skip
          rcases a1A 58 s with u5|u5
          . have HP:Hid (cX y mo d h mi s=false):=af (ae b (by omega));go_wp2;go_ret;exact⟨am HP.symm,below_drewN cC _⟩
          .
           skip
           have HP:Hid (cX y mo d h mi s=(s%2 == 0)):=SR (by omega) (by omega) (by omega) (by omega) (by omega) (by omega) (by omega) (by omega) (by omega) trivial (by rw[ae c];omega);go_wp2;go_ret;exact⟨am HP.symm,below_drewN cC _⟩
def lJ(i:Nat)(x y:Int)(c:0<=x)(d:x<2 ^ i)(h2:0<=y)(e:y<9223372036854775808)(f:x<9223372036854775808)(h:y%2 ^ i=0):bits .or .i64 x y=x+y:=by
 obtain⟨a,rfl⟩:=a0p c;obtain⟨b,rfl⟩:=a0p h2;rw[mg a b (by omega) (by omega),Nat.or_comm,nat_join i b a (by exact_mod_cast h) (by exact_mod_cast d)];omega
def Six(w:World)(b:Nat)(y mo d h mi s:Int):Prop:=
 (w.cell? ⟨b,0,none⟩=some (.int .i64 y)/\w.cell? ⟨b,1,none⟩=some (.int .i64 mo)/\w.cell? ⟨b,2,none⟩=some (.int .i64 d)/\w.cell? ⟨b,3,none⟩=some (.int .i64 h)/\w.cell? ⟨b,4,none⟩=some (.int .i64 mi)/\w.cell? ⟨b,5,none⟩=some (.int .i64 s)) /\
 (w.frozen? ⟨b,0,none⟩=false/\w.frozen? ⟨b,1,none⟩=false/\w.frozen? ⟨b,2,none⟩=false/\w.frozen? ⟨b,3,none⟩=false/\w.frozen? ⟨b,4,none⟩=false/\w.frozen? ⟨b,5,none⟩=false)/\b<w.heap.size
def gV(w:World)(y mo d h mi s:Int)(t:TypeId):Six (w.alloc (.cells #[y,mo,d,h,mi,s] t)) w.heap.size y mo d h mi s:=by
 refine⟨⟨?_,?_,?_,?_,?_,?_⟩,⟨?_,?_,?_,?_,?_,?_⟩,?_⟩<;>simp
def Six.later{w':World}(k:Six w b y mo d h mi s)(hb:Below B w w')(a:b<B):Six w' b y mo d h mi s:=by
 obtain⟨⟨c0,c1,c2,c3,c4,e⟩,⟨f0,f1,f2,f3,f4,f5⟩,c⟩:=k;refine⟨⟨?_,?_,?_,?_,?_,?_⟩,⟨?_,?_,?_,?_,?_,?_⟩,a0h c hb.size⟩
 . exact(hb.cell (p:=⟨b,0,none⟩) a).trans c0
 . exact(hb.cell (p:=⟨b,1,none⟩) a).trans c1
 . exact(hb.cell (p:=⟨b,2,none⟩) a).trans c2
 . exact(hb.cell (p:=⟨b,3,none⟩) a).trans c3
 . exact(hb.cell (p:=⟨b,4,none⟩) a).trans c4
 . exact(hb.cell (p:=⟨b,5,none⟩) a).trans e
 . exact(hb.frozen (p:=⟨b,0,none⟩) a).trans f0
 . exact(hb.frozen (p:=⟨b,1,none⟩) a).trans f1
 . exact(hb.frozen (p:=⟨b,2,none⟩) a).trans f2
 . exact(hb.frozen (p:=⟨b,3,none⟩) a).trans f3
 . exact(hb.frozen (p:=⟨b,4,none⟩) a).trans f4
 . exact(hb.frozen (p:=⟨b,5,none⟩) a).trans f5
def aW{i j:Nat}{v:Value}{c:Option Value}(k:w.cell? ⟨b,j,none⟩=c)(h:i≠j):(w.setCell ⟨b,i,none⟩ v).cell? ⟨b,j,none⟩=c:=by
 rw[World.cell?_setCell_other _ _ _ _ (fun e=>h (by cases e;rfl))];exact k
def Six.store(k:Six w b y mo d h mi s)(y' mo' c e mi' s':Int) :
  Six ((((((w.setCell ⟨b,0,none⟩ (.int .i64 y')).setCell ⟨b,1,none⟩ (.int .i64 mo')).setCell ⟨b,2,none⟩ (.int .i64 c)).setCell ⟨b,3,none⟩ (.int .i64 e)).setCell ⟨b,4,none⟩ (.int .i64 mi')).setCell ⟨b,5,none⟩ (.int .i64 s')) b y' mo' c e mi' s':=by
 obtain⟨⟨c0,c1,c2,c3,c4,f⟩,⟨f0,f1,f2,f3,f4,f5⟩,a⟩:=k;refine⟨⟨?_,?_,?_,?_,?_,?_⟩,⟨?_,?_,?_,?_,?_,?_⟩,?_⟩
 . exact aW (aW (aW (aW (aW (World.cell?_setCell_same _ _ _ c0) (by decide)) (by decide)) (by decide)) (by decide)) (by decide)
 . exact aW (aW (aW (aW (World.cell?_setCell_same _ _ _ (aW c1 (by decide))) (by decide)) (by decide)) (by decide)) (by decide)
 . exact aW (aW (aW (World.cell?_setCell_same _ _ _ (aW (aW c2 (by decide)) (by decide))) (by decide)) (by decide)) (by decide)
 . exact aW (aW (World.cell?_setCell_same _ _ _ (aW (aW (aW c3 (by decide)) (by decide)) (by decide))) (by decide)) (by decide)
 . exact aW (World.cell?_setCell_same _ _ _ (aW (aW (aW (aW c4 (by decide)) (by decide)) (by decide)) (by decide))) (by decide)
 . exact World.cell?_setCell_same _ _ _ (aW (aW (aW (aW (aW f (by decide)) (by decide)) (by decide)) (by decide)) (by decide))
 . simpa using f0
 . simpa using f1
 . simpa using f2
 . simpa using f3
 . simpa using f4
 . simpa using f5
 . simpa using a
def sJ{a:World}(k:Below B a w)(hb:B<=b)(v0 v1 v2 v3 v4 v5:Value):Below B a ((((((w.setCell ⟨b,0,none⟩ v0).setCell ⟨b,1,none⟩ v1).setCell ⟨b,2,none⟩ v2).setCell ⟨b,3,none⟩ v3).setCell ⟨b,4,none⟩ v4).setCell ⟨b,5,none⟩ v5):=
 ai (ai (ai (ai (ai (ai k hb _) hb _) hb _) hb _) hb _) hb _
def Ej{w1:World}{t:TypeId}(hb:Below (w.alloc (.cells #[y,mo,d,h,mi,s] t)).heap.size (w.alloc (.cells #[y,mo,d,h,mi,s] t)) w1) :
  Six w1 w.heap.size y mo d h mi s/\Below w.heap.size w w1:=
 ⟨(gV w y mo d h mi s t).later hb (by simp),cC.trans (hb.mono (by simp))⟩
def stN(y mo d h mi s:Int):Int:=(((((y-1980)*16+mo)*32+d)*32+h)*64+mi)*32+s/2
def stI(y mo d h mi s:Int):Int:=if cX y mo d h mi s then stN y mo d h mi s else -1
def OZ(k:cX y mo d h mi s=true):(1980<=y/\y<=2107)/\(1<=mo/\mo<=12)/\(1<=d/\d<=ia y mo/\d<=31)/\(0<=h/\h<=23)/\(0<=mi/\mi<=59)/\(0<=s/\s<=58)/\s%2=0:=by
 simp only[cX,a0l,aI,a0t]at k;obtain⟨ey,em,ed,eh,ei,es,e2⟩:=k;have a:hH y mo=ia y mo:=by simp[hH,aI.2 em]
 have h2:=(BJ y mo).2;refine⟨ey,em,⟨ed.1,ed.2,?_⟩,eh,ei,es,e2⟩;omega
def rZ(y mo d h mi s:Int)(w:World) :
  Ds 64 #[.agg #[y,mo,d,h,mi,s]] w (.int .i64 (stI y mo d h mi s)):=by
 cases k:cX y mo d h mi s
 .
  have e:stI y mo d h mi s = -1:=by simp[stI,k]
  rw[e];clear e;go_enter func64,ntmps64;go_wp2_with fail;apply(dM y mo d h mi s _).mono;rintro e w1⟨rfl,hb⟩;rw[k];go_wp2;go_ret;exact⟨rfl,(Ej hb).2⟩
 .
  have e:stI y mo d h mi s=stN y mo d h mi s:=by simp[stI,k]
  rw[e];clear e;obtain⟨⟨y0,y1⟩,⟨m0,m1⟩,⟨c,_,f⟩,⟨g,i⟩,⟨i0,i1⟩,⟨s0,s1⟩,s2⟩:=OZ k;go_enter func64,ntmps64;go_wp2_with fail;apply(dM y mo d h mi s _).mono;rintro e w1⟨rfl,hb⟩;rw[k];obtain⟨⟨⟨c0,c1,c2,c3,c4,b⟩,_,_⟩,a⟩:=Ej hb;clear hb;go_wp2;go_ret;refine⟨aK ?_,a⟩;rw[lJ 5 (s/2) (mi*32) (by omega) (by omega) (by omega) (by omega) (by omega) (by omega)];rw[lJ 11 _ (h*2048) (by omega) (by omega) (by omega) (by omega) (by omega) (by omega)];rw[lJ 16 _ (d*65536) (by omega) (by omega) (by omega) (by omega) (by omega) (by omega)];rw[lJ 21 _ (mo*2097152) (by omega) (by omega) (by omega) (by omega) (by omega) (by omega)];rw[lJ 25 _ ((y-1980)*33554432) (by omega) (by omega) (by omega) (by omega) (by omega) (by omega)];unfold stN;omega
def J8(y mo d h mi s:Int)(w:World)(k:(0<=y/\y<=100000)/\(0<=mo/\mo<=100)/\(0<=d/\d<=100)/\(0<=h/\h<=100)/\(0<=mi/\mi<=100) /\ -100<=s/\s<=100) :
  Ds 120 #[.agg #[y,mo,d,h,mi,s]] w (.int .i64 ((((((y-1980)*16+mo)*32+d)*32+h)*64+mi)*32+Int.tdiv s 2)):=by
 obtain⟨⟨y0,y1⟩,⟨m0,m1⟩,⟨a,b⟩,⟨e,f⟩,⟨i0,i1⟩,s0,s1⟩:=k;have t0 : -50<=Int.tdiv s 2:=by have:=Int.tdiv_le_tdiv (c:=2) (by omega) s0;simpa using this
 have t1:Int.tdiv s 2<=50:=by have:=Int.tdiv_le_tdiv (c:=2) (by omega) s1;simpa using this
 go_enter func120,ntmps120;go_wp2;go_ret;exact⟨aK rfl,cC⟩
def gS(n:Int):Int:=2*(n%32)
def gI(n:Int):Int:=n/32%64
def gH(n:Int):Int:=n/2048%32
def gD(n:Int):Int:=n/65536%32
def gM(n:Int):Int:=n/2097152%16
def gY(n:Int):Int:=n/33554432+1980
def J4(n:Int)(w:World)(a:0<=n)(b:n<=4294967295) :
  Ds 83 #[n] w (.agg #[.int .i64 (gY n),.int .i64 (gM n),.int .i64 (gD n),.int .i64 (gH n),.int .i64 (gI n),.int .i64 (gS n)]):=by
 go_enter func83,ntmps83;go_wp2;refine a0x (v:=.agg #[.int .i64 (n/32/64/32/32/16+1980),.int .i64 (n/32/64/32/32%16),.int .i64 (n/32/64/32%32),.int .i64 (n/32/64%32),.int .i64 (n/32%64),.int .i64 (2*(n%32))]) (by simp[results,results83,go_sem]) rfl ⟨?_,?_⟩
 .
  have e0:n/32/64/32/32/16+1980=gY n:=by unfold gY;omega
  have e1:n/32/64/32/32%16=gM n:=by unfold gM;omega
  have e2:n/32/64/32%32=gD n:=by unfold gD;omega
  have e3:n/32/64%32=gH n:=by unfold gH;omega
  rw[e0,e1,e2,e3];rfl
 . exact cC.alloc (by simp) _
def gOk(n:Int):Bool:=inB n 0 4294967295&&cX (gY n) (gM n) (gD n) (gH n) (gI n) (gS n)
def zz(b:Bool)(x:Int):Int:=if b then x else 0
def stG(n:Int):Value:=.agg #[.int .i64 (zz (gOk n) (gY n)),.int .i64 (zz (gOk n) (gM n)),.int .i64 (zz (gOk n) (gD n)),.int .i64 (zz (gOk n) (gH n)),.int .i64 (zz (gOk n) (gI n)),.int .i64 (zz (gOk n) (gS n))]
def OY{n:Int}(h:gOk n=false):stG n = .agg #[.int .i64 0,.int .i64 0,.int .i64 0,.int .i64 0,.int .i64 0,.int .i64 0]:=by simp[stG,h,zz]
def Rm{n:Int}(h:gOk n=true):stG n = .agg #[.int .i64 (gY n),.int .i64 (gM n),.int .i64 (gD n),.int .i64 (gH n),.int .i64 (gI n),.int .i64 (gS n)]:=by simp[stG,h,zz]
def jA(w:World)(b k:Nat):Prop:=
 (∀j,j<16->w.cell? ⟨b,j,none⟩=some (.int .u32 ((if j<k then shN 4 j else 0:Nat):Int))/\w.frozen? ⟨b,j,none⟩=false)/\b<w.heap.size
def jA.set{k:Nat}(h:jA w b k)(c:k<16):jA (w.setCell ⟨b,k,none⟩ (.int .u32 (shN 4 k:Nat))) b (k+1):=by
 refine⟨fun j a=>⟨?_,by simpa using(h.1 j a).2⟩,by simpa using h.2⟩;by_cases e:j=k
 . subst e;rw[World.cell?_setCell_same _ _ _ (h.1 j a).1];simp
 .
  rw[World.cell?_setCell_other _ _ _ _ (by simp only[ne_eq,a0A];omega),(h.1 j a).1];by_cases l:j<k
  . rw[a0d l,a0d (by omega)]
  . rw[a0e l,a0e (by omega)]
def Pj(w:World)(t:TypeId):jA (w.alloc (.cells (Array.replicate 16 (.int .u32 0)) t)) w.heap.size 0:=by
 refine⟨fun j a=>⟨?_,by simp⟩,by simp⟩;simp[a]
def zG(w:World) :
  Calls prog 148 #[] w fun e w'=>e = .returned (.func (.func 179) #[] #[.pointer w.heap.size])/\jA w' w.heap.size 16/\Below w.heap.size w w':=by
 have f:=Pj w 257;go_enter func148,ntmps148;go_wp2_with fail
 go_loopw [3] (fun i wr=>∃k:Nat,k<=16/\i = .int .i64 k/\jA wr w.heap.size k/\Below w.heap.size w wr) (fun i _=>16-(intOf i).toNat)
 case atStart=>exact⟨0,by omega,rfl,f,cC⟩
 case round=>
  obtain⟨k,g,rfl,a,b⟩:=hrel;have h:(k:Int)<=16:=by omega
  clear g f;by_cases j:(k:Int)<16
  .
   obtain⟨l,m⟩:=a.1 k (by omega);have c:=a.set (by omega);go_wp2_with (go_at_call 178;apply(zF _ _ _ (by omega) (by omega) (by omega) (by omega)).mono;rintro e w'⟨rfl,rfl⟩);go_roundw
   case rel=>exact⟨k+1,by omega,by go_num,c,ai b (a0a _) _⟩
   case measure=>simp[intOf];omega
  .
   have d:k=16:=(by omega);subst d;go_wp2;go_ret;exact⟨rfl,a,b⟩
def BG(b:Nat)(i:Int)(w:World)(h:jA w b 16)(i0:0<=i)(i1:i<16) :
  Calls prog 179 #[.int .u32 i,.pointer b] w fun e w'=>e = .returned (.int .u32 (shN 4 i.toNat:Nat))/\w'=w:=by
 obtain⟨k,rfl⟩:=a0p i0;rw[a0o];obtain⟨a,_⟩:=h.1 k (by omega);rw[a0d (by omega)]at a;go_enter func179,ntmps179;go_wp2;go_ret;exact⟨rfl,rfl⟩
def Pp(w:World)(v0 v1:Value)(t:TypeId):Two (w.alloc (.cells #[v0,v1] t)) w.heap.size v0 v1:=by
 refine⟨by simp,by simp,by simp,by simp,by simp⟩
