/- Of what the proof is made: 11 texts, one behind the other. -/
import Derived.Test.YtkdlcomfpffhhaaGreatDoorM3
import Derived.Deep.QuietTactic
import Derived.BigQuiet
import Derived.BigRegion
import Derived.WalkSmall
import Derived.Deep.RegionWith
import Derived.Test.YtkdlcomfpffhhaaGreatDoorM1
set_option linter.unusedSimpArgs false
set_option linter.unusedVariables false
set_option maxHeartbeats 4000000
namespace Go.Proofs.YtkdlcomfpffhhaaGreatDoor
open Go.Proofs.Tryz
open Go.RowKit
set_option linter.defProp false
variable {B b:Nat}{d h mi mo s y:Int}{v0 v1:Value}{w w':World}
def a1b := @Calls.quiet_of_same
def a1p := @wpQuiet_nil
def Two(w:World)(b:Nat)(v0 v1:Value):Prop:=
 w.cell? ⟨b,0,none⟩=some v0/\w.cell? ⟨b,1,none⟩=some v1/\w.frozen? ⟨b,0,none⟩=false/\w.frozen? ⟨b,1,none⟩=false/\b<w.heap.size
theorem ap{a:World}(h:Below B a w){o:Nat}(hb:B<=b)(u:Value):Below B a (w.setCell ⟨b,o,none⟩ u):=h.setCell (p:=⟨b,o,none⟩) hb u
theorem Two.set0(h:Two w b v0 v1)(u:Value):Two (w.setCell ⟨b,0,none⟩ u) b u v1:=by
 obtain⟨c0,c1,f0,f1,hb⟩:=h;refine⟨World.cell?_setCell_same _ _ _ c0,?_,by simpa using f0,by simpa using f1,by simpa using hb⟩;rw[World.cell?_setCell_other _ _ _ _ (by simp)];exact c1
theorem Two.set1(h:Two w b v0 v1)(u:Value):Two (w.setCell ⟨b,1,none⟩ u) b v0 u:=by
 obtain⟨c0,c1,f0,f1,hb⟩:=h;refine⟨?_,World.cell?_setCell_same _ _ _ c1,by simpa using f0,by simpa using f1,by simpa using hb⟩;rw[World.cell?_setCell_other _ _ _ _ (by simp)];exact c0
theorem Two.drew(h:Two w b v0 v1):Two w.drew b v0 v1:=h
def kw(b:Nat)(w w':World):Prop:=Below b w w'/\(∀k,k≠b->w'.heap[k]?=w.heap[k]?)/\w'.heap.size=w.heap.size
theorem kw.cell(h:kw b w w'){p:Addr}(a:p.block≠b):w'.cell? p=w.cell? p:=World.cell?_of_block (w:=w) (h.2.1 p.block a)
theorem kw.frozen(h:kw b w w'){p:Addr}(a:p.block≠b):w'.frozen? p=w.frozen? p:=World.frozen?_of_block (w:=w) (h.2.1 p.block a)
theorem nV(w:World)(b o:Nat)(u:Value)(n:Nat):kw b w ((w.setCell ⟨b,o,none⟩ u).drewN n):=
 ⟨below_drewN (ap (a0c _ _) (a0a _) _) _,fun k a=>a0T w ⟨b,o,none⟩ u k a,by show(w.setCell ⟨b,o,none⟩ u).heap.size=_;simp⟩
def Rd(w:World)(B b m:Nat):Prop:=∃(a:Option Addr) (len cap p:Nat) (z:Nat->Int),len<=2000/\p<=m/\B<=b/\Two w b (.slice a len cap) (.int .i64 p) /\
 (∀i,0<=z i/\z i<256)/\(0<len->∃ab ao,a=some ⟨ab,ao,none⟩/\ab<B/\∀i,i<len->w.cell? ⟨ab,ao+i,none⟩=some (.int .u8 (z i)))
theorem I1(X n:Int)(a:0<=X)(b:X<1000000000)(n1:1<=n):0<=(bits .xor .i64 X (X/64)).tmod n/\(bits .xor .i64 X (X/64)).tmod n<n:=by
 obtain⟨x,rfl⟩:=a0r a;have e:=pR x (x/64) (by omega) (by omega);rw[show((x/64:Nat):Int)=(x:Int)/64 by omega]at e;rw[e];exact⟨Int.tmod_nonneg _ (by omega),Int.tmod_lt_of_pos _ (by omega)⟩
theorem bi(B b m:Nat)(n:Int)(w:World)(h:Rd w B b m)(s:m<=100000)(n1:1<=n)(n2:n<=70000) :
  Calls prog 51 #[.pointer (some ⟨b,0,none⟩),.int .i64 n] w fun e w'=>∃r:Int,e = .returned (.int .i64 r)/\0<=r/\r<n/\Rd w' B b (m+1)/\kw b w w':=by
 obtain⟨a,len,cap,p,z,q,t,y,d,j,c⟩:=h;have x:=af d;obtain⟨c0,c1,f0,f1,hb⟩:=d;have u:(p:Int)<=100000:=by omega
 have F:(len:Int)<=2000:=by omega
 have o:∀nq,Rd ((w.setCell ⟨b,1,none⟩ (.int .i64 ((p:Int)+1))).drewN nq) B b (m+1):=by
  intro nq;refine⟨a,len,cap,p+1,z,q,by omega,y,(ae x).set1 _,j,fun k=>?_⟩;obtain⟨ab,ao,e,l,g⟩:=c k;refine⟨ab,ao,e,l,fun i D=>?_⟩;rw[←g i D];exact(nV w b 1 _ nq).cell (by show ab≠b;omega)
 have f:=af o;clear o;by_cases k:len=0
 . subst k;clear c q t s;go_enter func51,ntmps51;go_wp2;go_ret;exact⟨0,rfl,by omega,by omega,ae f 0,nV w b 1 _ 0⟩
 .
  obtain⟨ab,ao,rfl,l,g⟩:=c (by omega);have G:(0:Int)<(len:Int):=by omega
  have H:((len:Int) == 0)=false:=by simp;omega
  have A:ab≠b:=by omega
  by_cases E:p<len
  .
   have C:=g p E;have v:=j p;obtain⟨z0,z1⟩:=v;generalize z p=zp at *
   clear c g j q t s k;go_enter func51,ntmps51;go_wp2;go_ret;exact⟨zp%n,rfl,Int.emod_nonneg _ (by omega),Int.emod_lt_of_pos _ (by omega),ae f 0,nV w b 1 _ 0⟩
  .
   have i1:=g (p%len) (a05 _ (by omega));have i2:=g ((p*7+3)%len) (a05 _ (by omega));obtain⟨z0,z1⟩:=j (p%len);obtain⟨y0,y1⟩:=j ((p*7+3)%len);have j0:(0:Int)<=(p:Int)%(len:Int):=Int.emod_nonneg _ (by omega);have j1:(p:Int)%(len:Int)<(len:Int):=Int.emod_lt_of_pos _ (by omega);have j2:(0:Int)<=((p:Int)*7+3)%(len:Int):=Int.emod_nonneg _ (by omega);have j3:((p:Int)*7+3)%(len:Int)<(len:Int):=Int.emod_lt_of_pos _ (by omega);have j4:(0:Int)<=(p:Int)/(len:Int):=Int.ediv_nonneg (by omega) (by omega);have j5:(p:Int)/(len:Int)<=100000:=Int.le_trans (Int.ediv_le_self _ (by omega)) u;generalize z (p%len)=zp at *
   generalize z ((p*7+3)%len)=yp at *
   clear c g j q t s k;go_enter func51,ntmps51;go_wp2
   go_quiet (fail)
   go_wp2;go_ret;refine⟨_,rfl,?_,?_,ae f _,nV w b 1 _ _⟩
   . exact(I1 _ n (by omega) (by omega) n1).1
   . exact(I1 _ n (by omega) (by omega) n1).2
open Corb
def p2(k:Nat):Nat:=2 ^ k
theorem kS(k:Nat):1<=p2 k:=Nat.one_le_two_pow
theorem lM(k:Nat):p2 (k+1)=p2 k*2:=a12 ..
theorem pd(k:Nat):((p2 k:Nat):Int)=(2:Int) ^ k:=by simp[p2]
theorem bp(n:Int)(a : -9223372036854775808<=n)(b:n<=9223372036854775807):IntKind.i64.wrap n=n:=by
 simp[IntKind.wrap,IntKind.bits,IntKind.signed];omega
theorem ej (n : Int) (w : World) (h : n ≤ 60) :
    Calls prog 252 #[.int .i64 n] w fun e w' => e = .returned (.int .i64 (p2 n.toNat : Nat)) ∧ w' = w := by
  have hle : p2 n.toNat ≤ 2 ^ 60 := a0W (by omega) (by omega)
  generalize hN : p2 n.toNat = N at *
  have HN := af hN
  clear hN
  go_enter func252, ntmps252
  go_wp2
  go_loop [0, 3] (fun m o => ∃ (k : Int), k ≤ 60 ∧ m = .int .i64 k ∧ ∃ p : Nat, o = .int .i64 p ∧ p * p2 k.toNat = N) (fun m _ => (intOf m).toNat)
  case atStart => exact ⟨n, h, rfl, 1, rfl, by have := ae HN; omega⟩
  case round =>
    obtain ⟨k, hk, rfl, p, rfl, hp⟩ := hrel
    by_cases h0 : 0 < k
    . have e : p2 k.toNat = p2 (k - 1).toNat * 2 := by rw [← lM]; congr 1; omega
      have hq : p * 2 * p2 (k - 1).toNat = N := by rw [← hp, e, a2x, a1E 2]
      have hpl : p * 2 ≤ 2 ^ 60 := by
        have h1 : p * 2 * 1 ≤ p * 2 * p2 (k - 1).toNat := Nat.mul_le_mul_left _ (kS _)
        omega
      have HQ := af hq
      have hpl' : (p : Int) ≤ 1152921504606846976 := by have : (2 : Nat) ^ 60 = 1152921504606846976 := by decide
                                                        omega
      clear e hq hpl hp hle
      go_wp2
      go_round
      case rel => exact ⟨k - 1, by omega, rfl, p * 2, by go_num, ae HQ⟩
      case measure => simp [intOf]; omega
    . have hk0 : k.toNat = 0 := by omega
      rw [hk0] at hp
      have HP : Hid (p = N) := by have : p = N := by rw [← hp]; simp [p2]
                                  exact this
      clear hp hk0 hle
      go_wp2
      go_ret
      exact ⟨aO (by rw [ae HP]), rfl⟩
def pOk(num bits:Int):Bool:=inB bits 0 16&&inB num 0 ((p2 bits.toNat:Nat)-1)
theorem aV{num bits:Int} : pOk num bits=true<->(0<=bits/\bits<=16)/\0<=num/\num<(p2 bits.toNat:Nat):=by
 simp only[pOk,a0n,aG];omega
theorem Jp(bits:Int)(c:bits<=16):(1:Int)<=(p2 bits.toNat:Nat)/\((p2 bits.toNat:Nat):Int)<=65536:=by
 have a:p2 bits.toNat<=65536:=y6 bits.toNat (by omega);have b:=kS bits.toNat
 omega
theorem p7(num bits:Int)(w:World) :
  CD 196 #[.agg #[.int .i64 num,.int .i64 bits]] w (.bool (pOk num bits)):=by
 by_cases e:0<=bits
 .
  by_cases b:bits<=16
  .
   by_cases n0:0<=num
   .
    obtain⟨j,k⟩:=Jp bits b;have HP:Hid (pOk num bits=decide (num<(p2 bits.toNat:Nat))):=by
     show pOk num bits=decide (num<(p2 bits.toNat:Nat));rw[a2j,aV,a20];omega
    have hq:=pd bits.toNat
    generalize ((p2 bits.toNat:Nat):Int)=q at *
    have d:=af hq;have a:=bp q (by omega) (by omega);clear hq;have c:IntKind.i64.wrap (2 ^ bits.toNat)=q:=by
     have h:=ae d;rw[←h];exact a
    go_enter a3t,a3u;go_wp2
    go_quiet (fail)
    go_wp2;go_ret;exact⟨aj (ae HP).symm,below_drewN ((a0c _ _).alloc (a0a _) _) _⟩
   .
    have HP:Hid (pOk num bits=false):=by
     show pOk num bits=false;rw[←a2Y,aV];omega
    have i:decide (0<=num)=false:=a0j n0;go_enter a3t,a3u;go_wp2
    go_quiet (fail)
    go_wp2;go_ret;exact⟨aj (ae HP).symm,below_drewN ((a0c _ _).alloc (a0a _) _) _⟩
  .
   have HP:Hid (pOk num bits=false):=by
    show pOk num bits=false;rw[←a2Y,aV];omega
   have g:decide (bits<=16)=false:=a0j b;go_enter a3t,a3u;go_wp2
   go_quiet (fail)
   go_wp2;go_ret;exact⟨aj (ae HP).symm,below_drewN ((a0c _ _).alloc (a0a _) _) _⟩
 .
  have HP:Hid (pOk num bits=false):=by
   show pOk num bits=false;rw[←a2Y,aV];omega
  have f:decide (0<=bits)=false:=a0j e;go_enter a3t,a3u;go_wp2
  go_quiet (fail)
  go_wp2;go_ret;exact⟨aj (ae HP).symm,below_drewN ((a0c _ _).alloc (a0a _) _) _⟩
theorem ze(k n:Nat):((rv (k+1) n:Nat):Int)=2*(rv k n:Nat)+((n/2 ^ k:Nat):Int)%2:=by
 simp only[rv];omega
theorem xq(n k:Nat):((n/2 ^ k:Nat):Int)/2=((n/2 ^ (k+1):Nat):Int):=by
 rw[←nC];omega
theorem rR(num bits:Int)(w:World)(n0:0<=num)(n1:num<65536)(d:0<=bits)(o:bits<=16) :
  Calls prog 285 #[.int .i64 num,.int .i64 bits] w fun e w'=>e = .returned (.int .i64 (rv bits.toNat num.toNat:Nat))/\w'=w:=by
 obtain⟨n,rfl⟩:=a0r n0;obtain⟨b,rfl⟩:=a0r d;rw[a0x,a0x];go_enter func285,ntmps285;go_wp2
 go_loop [0,5,6] (fun m r i=>∃k:Nat,k<=b/\i = .int .i64 k/\r = .int .i64 (rv k n:Nat)/\m = .int .i64 (n/2 ^ k:Nat)) (fun _ _ i=>b-(intOf i).toNat)
 case atStart=>exact⟨0,a0h _,rfl,rfl,by simp⟩
 case round=>
  obtain⟨k,p,rfl,rfl,rfl⟩:=hrel;have j:=MI k n;have c:=y6 k (by omega);have g:n/2 ^ k<=n:=a2k _ _;have e1:=af (ze k n);have e2:=af (xq n k);by_cases f:k<b
  .
   have l:((rv k n:Nat):Int)<65536:=by omega
   have h:((n/2 ^ k:Nat):Int)<65536:=by omega
   generalize ((n/2 ^ k:Nat))=x at *
   generalize rv k n=y at *
   clear j c g;go_wp2
   go_round
   case rel=>exact⟨k+1,by omega,by go_num,by rw[ae e1],by rw[←ae e2]⟩
   case measure=>simp[intOf];omega
  .
   have a:k=b:=by omega
   subst a;go_wp2;go_ret;exact⟨rfl,rfl⟩
def kl(y:Int):Bool:=decide (y%4=0)&&(!decide (y%100=0) || decide (y%400=0))
def fy(y m:Int):Int:=if m=4∨m=6∨m=9∨m=11 then 30 else if m=2 then(if kl y then 29 else 28)else 31
def xu(y:Int):Int:=if kl y then 29 else 28
theorem xk(y:Int):fy y 2=xu y:=by simp[fy,xu]
theorem KH(y m:Int)(h:m=4∨m=6∨m=9∨m=11):fy y m=30:=by simp[fy,h]
theorem KJ(y m:Int)(b:¬ m=4)(c:¬ m=6)(d:¬ m=9)(a:¬ m=11)(h2:¬ m=2):fy y m=31:=by simp[fy,b,c,d,a,h2]
theorem nM(y:Int)(w:World)(d:0<=y)(f:y<=3000) :
  Calls prog 187 #[.int .i64 y] w fun e w'=>e = .returned (.bool (kl y))/\w'=w:=by
 by_cases c:y%4=0
 .
  by_cases b:y%100=0
  .
   by_cases a:y%400=0
   . go_enter a3v,a3w;go_wp2;go_ret;exact⟨aj (by simp[kl,c,a]),rfl⟩
   . go_enter a3v,a3w;go_wp2;go_ret;exact⟨aj (by simp[kl,c,b,a]),rfl⟩
  . go_enter a3v,a3w;go_wp2;go_ret;exact⟨aj (by simp[kl,c,b]),rfl⟩
 .
  have a:¬ y%400=0:=by omega
  go_enter a3v,a3w;go_wp2;go_ret;exact⟨aj (by simp[kl,c,a]),rfl⟩
theorem jR(y m:Int)(w:World)(d:0<=y)(f:y<=3000) :
  Calls prog 191 #[.int .i64 y,.int .i64 m] w fun e w'=>e = .returned (.int .i64 (fy y m))/\w'=w:=by
 by_cases m2:m=2
 .
  subst m2;rw[xk];by_cases c:y%4=0
  .
   by_cases a:y%100=0
   .
    by_cases b:y%400=0
    . go_enter a2O,a2P;go_wp2;go_ret;exact⟨aO (by simp[xu,kl,c,b]),rfl⟩
    . go_enter a2O,a2P;go_wp2;go_ret;exact⟨aO (by simp[xu,kl,c,a,b]),rfl⟩
   . go_enter a2O,a2P;go_wp2;go_ret;exact⟨aO (by simp[xu,kl,c,a]),rfl⟩
  . go_enter a2O,a2P;go_wp2;go_ret;exact⟨aO (by simp[xu,kl,c]),rfl⟩
 .
  by_cases m30:m=4∨m=6∨m=9∨m=11
  .
   rw[KH y m m30];rcases m30 with rfl|rfl|rfl|rfl;all_goals
    go_enter a2O,a2P;go_wp2;go_ret;exact⟨rfl,rfl⟩
  . have m4:¬ m=4:=fun h=>m30 (by simp[h]);have m6:¬ m=6:=fun h=>m30 (by simp[h]);have m9:¬ m=9:=fun h=>m30 (by simp[h]);have m11:¬ m=11:=fun h=>m30 (by simp[h]);rw[KJ y m m4 m6 m9 m11 m2];clear m30;go_enter a2O,a2P;go_wp2;go_ret;exact⟨rfl,rfl⟩
def fx(y m:Int):Int:=if inB m 1 12 then fy y m else 0
theorem eS(y m:Int)(w:World)(g:0<=y)(h:y<=3000) :
  Calls prog 144 #[.int .i64 y,.int .i64 m] w fun e w'=>e = .returned (.int .i64 (fx y m))/\w'=w:=by
 cases a:inB m 1 12
 .
  have hd:fx y m=0:=by simp[fx,a]
  rw[hd];have hb:=dK.1 a;have n1:¬ m=1:=by omega
  have n2:¬ m=2:=by omega
  have n3:¬ m=3:=by omega
  have n4:¬ m=4:=by omega
  have n5:¬ m=5:=by omega
  have n6:¬ m=6:=by omega
  have n7:¬ m=7:=by omega
  have n8:¬ m=8:=by omega
  have n9:¬ m=9:=by omega
  have n10:¬ m=10:=by omega
  have n11:¬ m=11:=by omega
  have n12:¬ m=12:=by omega
  clear a hd hb;go_enter a3x,a3y;go_wp2;go_ret;exact⟨rfl,rfl⟩
 .
  have hd:fx y m=fy y m:=by simp[fx,a]
  rw[hd];obtain⟨d,f⟩:=aG.1 a;clear a hd;have i:m=1∨m=2∨m=3∨m=4∨m=5∨m=6∨m=7∨m=8∨m=9∨m=10∨m=11∨m=12:=by omega
  by_cases m2:m=2
  .
   subst m2;clear i d f;rw[xk];cases c:kl y
   . go_enter a3x,a3y;go_wp2_with (go_at_call 187;refine(nM _ _ g h).mono ?_;rintro e w' ⟨rfl,b⟩;rw[b];clear b;rw[c]);go_ret;exact⟨aO (by simp[xu,c]),rfl⟩
   . go_enter a3x,a3y;go_wp2_with (go_at_call 187;refine(nM _ _ g h).mono ?_;rintro e w' ⟨rfl,b⟩;rw[b];clear b;rw[c]);go_ret;exact⟨aO (by simp[xu,c]),rfl⟩
  .
   rcases i with rfl|rfl|rfl|rfl|rfl|rfl|rfl|rfl|rfl|rfl|rfl|rfl;all_goals first|exact absurd rfl m2|skip
   all_goals
    clear d f m2;go_enter a3x,a3y;go_wp2;go_ret;exact⟨aO (by simp[fy]),rfl⟩
def cb(y mo d h mi s:Int):Bool:=inB y 1980 2107&&(inB mo 1 12&&(inB d 1 (fy y mo)&&(inB h 0 23&&(inB mi 0 59&&(inB s 0 58&&decide (s%2=0))))))
theorem qF(y mo d h mi s:Int)(w:World) :
  CD 150 #[.agg #[.int .i64 y,.int .i64 mo,.int .i64 d,.int .i64 h,.int .i64 mi,.int .i64 s]] w (.bool (cb y mo d h mi s)):=by
 cases b:inB y 1980 2107
 .
  have HP:Hid (cb y mo d h mi s=false):=by simp[Hid,cb,b]
  go_enter a3z,a3A;go_wp2
  go_quiet (first|(go_at_call 58;exact a1b (aE _ _ _ _))|(go_at_call 191;exact a1b (jR _ _ _ (by omega) (by omega))))
  go_wp2_with (go_at_call 58;refine(aE _ _ _ _).mono ?_;rintro e w9 ⟨rfl,a⟩;rw[a];clear a);go_ret;exact⟨aj (ae HP).symm,below_drewN ((a0c _ _).alloc (a0a _) _) _⟩
 .
  skip
  obtain⟨y0,y1⟩:=aG.1 b;cases c:inB mo 1 12
  .
   have HP:Hid (cb y mo d h mi s=false):=by simp[Hid,cb,b,c]
   go_enter a3z,a3A;go_wp2
   go_quiet (first|(go_at_call 58;exact a1b (aE _ _ _ _))|(go_at_call 191;exact a1b (jR _ _ _ (by omega) (by omega))))
   go_wp2_with (go_at_call 58;refine(aE _ _ _ _).mono ?_;rintro e w9 ⟨rfl,a⟩;rw[a];clear a);go_ret;exact⟨aj (ae HP).symm,below_drewN ((a0c _ _).alloc (a0a _) _) _⟩
  .
   skip
   cases hd:inB d 1 (fy y mo)
   .
    have HP:Hid (cb y mo d h mi s=false):=by simp[Hid,cb,b,c,hd]
    go_enter a3z,a3A;go_wp2
    go_quiet (first|(go_at_call 58;exact a1b (aE _ _ _ _))|(go_at_call 191;exact a1b (jR _ _ _ (by omega) (by omega))))
    go_wp2_with (go_at_call 58;refine(aE _ _ _ _).mono ?_;rintro e w9 ⟨rfl,a⟩;rw[a];clear a);go_ret;exact⟨aj (ae HP).symm,below_drewN ((a0c _ _).alloc (a0a _) _) _⟩
   .
    skip
    go_enter a3z,a3A;go_wp2
    go_quiet (first|(go_at_call 58;exact a1b (aE _ _ _ _))|(go_at_call 191;exact a1b (jR _ _ _ (by omega) (by omega))))
    cases f:inB h 0 23
    .
     have HP:Hid (cb y mo d h mi s=false):=by simp[Hid,cb,b,c,hd,f]
     go_wp2_with (go_at_call 58;refine(aE _ _ _ _).mono ?_;rintro e w9 ⟨rfl,a⟩;rw[a];clear a);go_ret;exact⟨aj (ae HP).symm,below_drewN ((a0c _ _).alloc (a0a _) _) _⟩
    .
     skip
     cases g:inB mi 0 59
     .
      have HP:Hid (cb y mo d h mi s=false):=by simp[Hid,cb,b,c,hd,f,g]
      go_wp2_with (go_at_call 58;refine(aE _ _ _ _).mono ?_;rintro e w9 ⟨rfl,a⟩;rw[a];clear a);go_ret;exact⟨aj (ae HP).symm,below_drewN ((a0c _ _).alloc (a0a _) _) _⟩
     .
      skip
      cases i:inB s 0 58
      .
       have HP:Hid (cb y mo d h mi s=false):=by simp[Hid,cb,b,c,hd,f,g,i]
       go_wp2_with (go_at_call 58;refine(aE _ _ _ _).mono ?_;rintro e w9 ⟨rfl,a⟩;rw[a];clear a);go_ret;exact⟨aj (ae HP).symm,below_drewN ((a0c _ _).alloc (a0a _) _) _⟩
      .
       skip
       obtain⟨s0,s1⟩:=aG.1 i;have HP:Hid (cb y mo d h mi s=(s%2 == 0)):=by simp[Hid,cb,b,c,hd,f,g,i];rfl
       go_wp2_with (go_at_call 58;refine(aE _ _ _ _).mono ?_;rintro e w9 ⟨rfl,a⟩;rw[a];clear a);go_ret;exact⟨aj (ae HP).symm,below_drewN ((a0c _ _).alloc (a0a _) _) _⟩
theorem xj(y m:Int):0<=fx y m/\fx y m<=31:=by
 unfold fx fy;split<;>(try split)<;>(try split)<;>(try split)<;>omega
theorem JN{y mo d h mi s:Int}(k:y<1980∨2107<y∨d<1∨fx y mo<d∨h<0∨23<h∨mi<0∨59<mi∨s<0∨58<s):cb y mo d h mi s=false:=by
 cases e:cb y mo d h mi s
 . rfl
 .
  simp only[cb,a0n,aG,a0E]at e;obtain⟨ey,em,ed,eh,ei,es,_⟩:=e;have:fx y mo=fy y mo:=by simp[fx,aG.2 em]
  omega
theorem Nq(y0:1980<=y)(y1:y<=2107)(a:1<=d)(c:0<=h)(f:h<=23)(m0:0<=mi)(m1:mi<=59)(s0:0<=s)(s1:s<=58)(_:True)(b:d<=fx y mo):cb y mo d h mi s=(s%2 == 0):=by
 have em:inB mo 1 12=true:=by
  cases e:inB mo 1 12
  .
   have:fx y mo=0:=by simp[fx,e]
   omega
  . rfl
 have ed:fx y mo=fy y mo:=by simp[fx,em]
 simp only[cb,aG.2 ⟨y0,y1⟩,em,aG.2 ⟨a,ed▸b⟩,aG.2 ⟨c,f⟩,aG.2 ⟨m0,m1⟩,aG.2 ⟨s0,s1⟩,Bool.true_and];rfl
theorem eW(y mo d h mi s:Int)(w:World) :
  CD 94 #[.agg #[.int .i64 y,.int .i64 mo,.int .i64 d,.int .i64 h,.int .i64 mi,.int .i64 s]] w (.bool (cb y mo d h mi s)):=by
 obtain⟨D0,g⟩:=xj y mo;have b:=af (@JN y mo d h mi s);generalize f:fx y mo=D at *
 have c:=af f;clear f;rcases a1G y 1980 with x0|x0
 .
  have HP:Hid (cb y mo d h mi s=false):=af (ae b (by omega));have z0:decide (1980<=y)=false:=by simp;omega
  go_enter a22,a23;go_wp2
  go_quiet ((go_at_call 144;exact a1b ((eS _ _ _ (by omega) (by omega)).mono (by rintro e w9 ⟨rfl,a⟩;exact⟨aO (ae c),a⟩))))
  go_wp2;go_ret;exact⟨aj (ae HP).symm,below_drewN ((a0c _ _).alloc (a0a _) _) _⟩
 .
  rcases a1G 2107 y with x1|x1
  .
   have HP:Hid (cb y mo d h mi s=false):=af (ae b (by omega));have z1:decide (y<=2107)=false:=by simp;omega
   go_enter a22,a23;go_wp2
   go_quiet ((go_at_call 144;exact a1b ((eS _ _ _ (by omega) (by omega)).mono (by rintro e w9 ⟨rfl,a⟩;exact⟨aO (ae c),a⟩))))
   go_wp2;go_ret;exact⟨aj (ae HP).symm,below_drewN ((a0c _ _).alloc (a0a _) _) _⟩
  .
   rcases a1G d 1 with x2|x2
   .
    have HP:Hid (cb y mo d h mi s=false):=af (ae b (by omega));have z2:decide (1<=d)=false:=by simp;omega
    go_enter a22,a23;go_wp2
    go_quiet ((go_at_call 144;exact a1b ((eS _ _ _ (by omega) (by omega)).mono (by rintro e w9 ⟨rfl,a⟩;exact⟨aO (ae c),a⟩))))
    go_wp2;go_ret;exact⟨aj (ae HP).symm,below_drewN ((a0c _ _).alloc (a0a _) _) _⟩
   .
    rcases a1G D d with x3|x3
    .
     have HP:Hid (cb y mo d h mi s=false):=af (ae b (by omega));have z3:decide (d<=D)=false:=by simp;omega
     go_enter a22,a23;go_wp2
     go_quiet ((go_at_call 144;exact a1b ((eS _ _ _ (by omega) (by omega)).mono (by rintro e w9 ⟨rfl,a⟩;exact⟨aO (ae c),a⟩))))
     go_wp2;go_ret;exact⟨aj (ae HP).symm,below_drewN ((a0c _ _).alloc (a0a _) _) _⟩
    .
     go_enter a22,a23;go_wp2
     go_quiet ((go_at_call 144;exact a1b ((eS _ _ _ (by omega) (by omega)).mono (by rintro e w9 ⟨rfl,a⟩;exact⟨aO (ae c),a⟩))))
     rcases a1G h 0 with u0|u0
     . have HP:Hid (cb y mo d h mi s=false):=af (ae b (by omega));go_wp2;go_ret;exact⟨aj (ae HP).symm,below_drewN ((a0c _ _).alloc (a0a _) _) _⟩
     .
      skip
      rcases a1G 23 h with u1|u1
      . have HP:Hid (cb y mo d h mi s=false):=af (ae b (by omega));go_wp2;go_ret;exact⟨aj (ae HP).symm,below_drewN ((a0c _ _).alloc (a0a _) _) _⟩
      .
       skip
       rcases a1G mi 0 with u2|u2
       . have HP:Hid (cb y mo d h mi s=false):=af (ae b (by omega));go_wp2;go_ret;exact⟨aj (ae HP).symm,below_drewN ((a0c _ _).alloc (a0a _) _) _⟩
       .
        skip
        rcases a1G 59 mi with u3|u3
        . have HP:Hid (cb y mo d h mi s=false):=af (ae b (by omega));go_wp2;go_ret;exact⟨aj (ae HP).symm,below_drewN ((a0c _ _).alloc (a0a _) _) _⟩
        .
         skip
         rcases a1G s 0 with u4|u4
         . have HP:Hid (cb y mo d h mi s=false):=af (ae b (by omega));go_wp2;go_ret;exact⟨aj (ae HP).symm,below_drewN ((a0c _ _).alloc (a0a _) _) _⟩
         .
          skip
          rcases a1G 58 s with u5|u5
          . have HP:Hid (cb y mo d h mi s=false):=af (ae b (by omega));go_wp2;go_ret;exact⟨aj (ae HP).symm,below_drewN ((a0c _ _).alloc (a0a _) _) _⟩
          .
           skip
           have HP:Hid (cb y mo d h mi s=(s%2 == 0)):=Nq (by omega) (by omega) (by omega) (by omega) (by omega) (by omega) (by omega) (by omega) (by omega) trivial (by rw[ae c];omega);go_wp2;go_ret;exact⟨aj (ae HP).symm,below_drewN ((a0c _ _).alloc (a0a _) _) _⟩
theorem I8(i:Nat)(x y:Int)(c:0<=x)(d:x<2 ^ i)(h2:0<=y)(e:y<9223372036854775808)(f:x<9223372036854775808)(h:y%2 ^ i=0):bits .or .i64 x y=x+y:=by
 obtain⟨a,rfl⟩:=a0r c;obtain⟨b,rfl⟩:=a0r h2;rw[mD a b (by omega) (by omega),Nat.or_comm,nat_join i b a (by exact_mod_cast h) (by exact_mod_cast d)];omega
def Six(w:World)(b:Nat)(y mo d h mi s:Int):Prop:=
 (w.cell? ⟨b,0,none⟩=some (.int .i64 y)/\w.cell? ⟨b,1,none⟩=some (.int .i64 mo)/\w.cell? ⟨b,2,none⟩=some (.int .i64 d)/\w.cell? ⟨b,3,none⟩=some (.int .i64 h)/\w.cell? ⟨b,4,none⟩=some (.int .i64 mi)/\w.cell? ⟨b,5,none⟩=some (.int .i64 s)) /\
 (w.frozen? ⟨b,0,none⟩=false/\w.frozen? ⟨b,1,none⟩=false/\w.frozen? ⟨b,2,none⟩=false/\w.frozen? ⟨b,3,none⟩=false/\w.frozen? ⟨b,4,none⟩=false/\w.frozen? ⟨b,5,none⟩=false)/\b<w.heap.size
theorem jt(w:World)(y mo d h mi s:Int)(t:TypeId):Six (w.alloc (.cells #[.int .i64 y,.int .i64 mo,.int .i64 d,.int .i64 h,.int .i64 mi,.int .i64 s] t)) w.heap.size y mo d h mi s:=by
 refine⟨⟨?_,?_,?_,?_,?_,?_⟩,⟨?_,?_,?_,?_,?_,?_⟩,?_⟩<;>simp
theorem Six.later(k:Six w b y mo d h mi s)(hb:Below B w w')(a:b<B):Six w' b y mo d h mi s:=by
 obtain⟨⟨c0,c1,c2,c3,c4,e⟩,⟨f0,f1,f2,f3,f4,f5⟩,c⟩:=k;refine⟨⟨?_,?_,?_,?_,?_,?_⟩,⟨?_,?_,?_,?_,?_,?_⟩,a0i c hb.size⟩
 . exact(hb.cell (p:=⟨b,0,none⟩) a).trans c0
 . exact(hb.cell (p:=⟨b,1,none⟩) a).trans c1
 . exact(hb.cell (p:=⟨b,2,none⟩) a).trans c2
 . exact(hb.cell (p:=⟨b,3,none⟩) a).trans c3
 . exact(hb.cell (p:=⟨b,4,none⟩) a).trans c4
 . exact(hb.cell (p:=⟨b,5,none⟩) a).trans e
 . exact(hb.frozen (p:=⟨b,0,none⟩) a).trans f0
 . exact(hb.frozen (p:=⟨b,1,none⟩) a).trans f1
 . exact(hb.frozen (p:=⟨b,2,none⟩) a).trans f2
 . exact(hb.frozen (p:=⟨b,3,none⟩) a).trans f3
 . exact(hb.frozen (p:=⟨b,4,none⟩) a).trans f4
 . exact(hb.frozen (p:=⟨b,5,none⟩) a).trans f5
theorem aR{i j:Nat}{v:Value}{c:Option Value}(k:w.cell? ⟨b,j,none⟩=c)(h:i≠j):(w.setCell ⟨b,i,none⟩ v).cell? ⟨b,j,none⟩=c:=by
 rw[World.cell?_setCell_other _ _ _ _ (fun e=>h (by cases e;rfl))];exact k
theorem Six.store(k:Six w b y mo d h mi s)(y' mo' c e mi' s':Int) :
  Six ((((((w.setCell ⟨b,0,none⟩ (.int .i64 y')).setCell ⟨b,1,none⟩ (.int .i64 mo')).setCell ⟨b,2,none⟩ (.int .i64 c)).setCell ⟨b,3,none⟩ (.int .i64 e)).setCell ⟨b,4,none⟩ (.int .i64 mi')).setCell ⟨b,5,none⟩ (.int .i64 s')) b y' mo' c e mi' s':=by
 obtain⟨⟨c0,c1,c2,c3,c4,f⟩,⟨f0,f1,f2,f3,f4,f5⟩,a⟩:=k;refine⟨⟨?_,?_,?_,?_,?_,?_⟩,⟨?_,?_,?_,?_,?_,?_⟩,?_⟩
 . exact aR (aR (aR (aR (aR (World.cell?_setCell_same _ _ _ c0) (by decide)) (by decide)) (by decide)) (by decide)) (by decide)
 . exact aR (aR (aR (aR (World.cell?_setCell_same _ _ _ (aR c1 (by decide))) (by decide)) (by decide)) (by decide)) (by decide)
 . exact aR (aR (aR (World.cell?_setCell_same _ _ _ (aR (aR c2 (by decide)) (by decide))) (by decide)) (by decide)) (by decide)
 . exact aR (aR (World.cell?_setCell_same _ _ _ (aR (aR (aR c3 (by decide)) (by decide)) (by decide))) (by decide)) (by decide)
 . exact aR (World.cell?_setCell_same _ _ _ (aR (aR (aR (aR c4 (by decide)) (by decide)) (by decide)) (by decide))) (by decide)
 . exact World.cell?_setCell_same _ _ _ (aR (aR (aR (aR (aR f (by decide)) (by decide)) (by decide)) (by decide)) (by decide))
 . simpa using f0
 . simpa using f1
 . simpa using f2
 . simpa using f3
 . simpa using f4
 . simpa using f5
 . simpa using a
theorem po{a:World}(k:Below B a w)(hb:B<=b)(v0 v1 v2 v3 v4 v5:Value):Below B a ((((((w.setCell ⟨b,0,none⟩ v0).setCell ⟨b,1,none⟩ v1).setCell ⟨b,2,none⟩ v2).setCell ⟨b,3,none⟩ v3).setCell ⟨b,4,none⟩ v4).setCell ⟨b,5,none⟩ v5):=
 ap (ap (ap (ap (ap (ap k hb _) hb _) hb _) hb _) hb _) hb _
def stN(y mo d h mi s:Int):Int:=(((((y-1980)*16+mo)*32+d)*32+h)*64+mi)*32+s/2
def stI(y mo d h mi s:Int):Int:=if cb y mo d h mi s then stN y mo d h mi s else -1
theorem N9(k:cb y mo d h mi s=true):(1980<=y/\y<=2107)/\(1<=mo/\mo<=12)/\(1<=d/\d<=fy y mo/\d<=31)/\(0<=h/\h<=23)/\(0<=mi/\mi<=59)/\(0<=s/\s<=58)/\s%2=0:=by
 simp only[cb,a0n,aG,a0E]at k;obtain⟨ey,em,ed,eh,ei,es,e2⟩:=k;have a:fx y mo=fy y mo:=by simp[fx,aG.2 em]
 have h2:=(xj y mo).2;refine⟨ey,em,⟨ed.1,ed.2,?_⟩,eh,ei,es,e2⟩;omega
theorem EI(y mo d h mi s:Int)(w:World)(k:(0<=y/\y<=100000)/\(0<=mo/\mo<=100)/\(0<=d/\d<=100)/\(0<=h/\h<=100)/\(0<=mi/\mi<=100) /\ -100<=s/\s<=100) :
  CD 194 #[.agg #[.int .i64 y,.int .i64 mo,.int .i64 d,.int .i64 h,.int .i64 mi,.int .i64 s]] w (.int .i64 ((((((y-1980)*16+mo)*32+d)*32+h)*64+mi)*32+Int.tdiv s 2)):=by
 obtain⟨⟨y0,y1⟩,⟨m0,m1⟩,⟨a,b⟩,⟨e,f⟩,⟨i0,i1⟩,s0,s1⟩:=k;have t0 : -50<=Int.tdiv s 2:=by have:=Int.tdiv_le_tdiv (c:=2) (by omega) s0;simpa using this
 have t1:Int.tdiv s 2<=50:=by have:=Int.tdiv_le_tdiv (c:=2) (by omega) s1;simpa using this
 go_enter func194,ntmps194;go_wp2;go_ret;exact⟨aO rfl,(a0c _ _).alloc (a0a _) _⟩
def gS(n:Int):Int:=2*(n%32)
def gI(n:Int):Int:=n/32%64
def gH(n:Int):Int:=n/2048%32
def gD(n:Int):Int:=n/65536%32
def gM(n:Int):Int:=n/2097152%16
def gY(n:Int):Int:=n/33554432+1980
theorem EG(n:Int)(w:World)(a:0<=n)(b:n<=4294967295) :
  CD 104 #[.int .i64 n] w (.agg #[.int .i64 (gY n),.int .i64 (gM n),.int .i64 (gD n),.int .i64 (gH n),.int .i64 (gI n),.int .i64 (gS n)]):=by
 go_enter func104,ntmps104;go_wp2;refine a0R (v:=.agg #[.int .i64 (n/32/64/32/32/16+1980),.int .i64 (n/32/64/32/32%16),.int .i64 (n/32/64/32%32),.int .i64 (n/32/64%32),.int .i64 (n/32%64),.int .i64 (2*(n%32))]) (by simp[results,results104,go_sem]) rfl ⟨?_,?_⟩
 .
  have e0:n/32/64/32/32/16+1980=gY n:=by unfold gY;omega
  have e1:n/32/64/32/32%16=gM n:=by unfold gM;omega
  have e2:n/32/64/32%32=gD n:=by unfold gD;omega
  have e3:n/32/64%32=gH n:=by unfold gH;omega
  rw[e0,e1,e2,e3];rfl
 . exact((a0c _ _).alloc (a0a _) _).alloc (by simp) _
def gOk(n:Int):Bool:=inB n 0 4294967295&&cb (gY n) (gM n) (gD n) (gH n) (gI n) (gS n)
def zz(b:Bool)(x:Int):Int:=if b then x else 0
def stG(n:Int):Value:=.agg #[.int .i64 (zz (gOk n) (gY n)),.int .i64 (zz (gOk n) (gM n)),.int .i64 (zz (gOk n) (gD n)),.int .i64 (zz (gOk n) (gH n)),.int .i64 (zz (gOk n) (gI n)),.int .i64 (zz (gOk n) (gS n))]
theorem JK{n:Int}(h:gOk n=false):stG n = .agg #[.int .i64 0,.int .i64 0,.int .i64 0,.int .i64 0,.int .i64 0,.int .i64 0]:=by simp[stG,h,zz]
theorem Md{n:Int}(h:gOk n=true):stG n = .agg #[.int .i64 (gY n),.int .i64 (gM n),.int .i64 (gD n),.int .i64 (gH n),.int .i64 (gI n),.int .i64 (gS n)]:=by simp[stG,h,zz]
def gK(w:World)(b k:Nat):Prop:=
 (∀j,j<16->w.cell? ⟨b,j,none⟩=some (.int .u32 ((if j<k then shN 4 j else 0:Nat):Int))/\w.frozen? ⟨b,j,none⟩=false)/\b<w.heap.size
theorem gK.set{k:Nat}(h:gK w b k)(c:k<16):gK (w.setCell ⟨b,k,none⟩ (.int .u32 (shN 4 k:Nat))) b (k+1):=by
 refine⟨fun j a=>⟨?_,by simpa using(h.1 j a).2⟩,by simpa using h.2⟩;by_cases e:j=k
 . subst e;rw[World.cell?_setCell_same _ _ _ (h.1 j a).1];simp
 .
  rw[World.cell?_setCell_other _ _ _ _ (by simp only[ne_eq,a0F];omega),(h.1 j a).1];by_cases l:j<k
  . rw[a0e l,a0e (by omega)]
  . rw[a0d l,a0d (by omega)]
theorem JX(w:World)(t:TypeId):gK (w.alloc (.cells (Array.replicate 16 (.int .u32 0)) t)) w.heap.size 0:=by
 refine⟨fun j a=>⟨?_,by simp⟩,by simp⟩;simp[a]
theorem vG(w:World) :
  Calls prog 147 #[] w fun e w'=>e = .returned (.func (.func 189) #[] #[.pointer (some ⟨w.heap.size,0,none⟩)])/\gK w' w.heap.size 16/\Below w.heap.size w w':=by
 have f:=JX w 268;go_enter func147,ntmps147;go_wp2_with fail
 go_loopw [3] (fun i wr=>∃k:Nat,k<=16/\i = .int .i64 k/\gK wr w.heap.size k/\Below w.heap.size w wr) (fun i _=>16-(intOf i).toNat)
 case atStart=>exact⟨0,by omega,rfl,f,(a0c _ _).alloc (a0a _) _⟩
 case round=>
  obtain⟨k,g,rfl,a,b⟩:=hrel;have h:(k:Int)<=16:=by omega
  clear g f;by_cases j:(k:Int)<16
  .
   obtain⟨l,m⟩:=a.1 k (by omega);have c:=a.set (by omega);go_wp2_with (go_at_call 188;refine(vF _ _ _ (by omega) (by omega) (by omega) (by omega)).mono ?_;rintro e w' ⟨rfl,rfl⟩);go_roundw
   case rel=>exact⟨k+1,by omega,by go_num,c,ap b (a0a _) _⟩
   case measure=>simp[intOf];omega
  .
   have d:k=16:=by omega
   subst d;go_wp2;go_ret;exact⟨rfl,a,b⟩
theorem xg(b:Nat)(i:Int)(w:World)(h:gK w b 16)(i0:0<=i)(i1:i<16) :
  Calls prog 189 #[.int .u32 i,.pointer (some ⟨b,0,none⟩)] w fun e w'=>e = .returned (.int .u32 (shN 4 i.toNat:Nat))/\w'=w:=by
 obtain⟨k,rfl⟩:=a0r i0;rw[a0x];obtain⟨a,_⟩:=h.1 k (by omega);rw[a0e (by omega)]at a;go_enter func189,ntmps189;go_wp2;go_ret;exact⟨rfl,rfl⟩
theorem J8(w:World)(v0 v1:Value)(t:TypeId):Two (w.alloc (.cells #[v0,v1] t)) w.heap.size v0 v1:=by
 refine⟨by simp,by simp,by simp,by simp,by simp⟩
end Go.Proofs.YtkdlcomfpffhhaaGreatDoor
