/- Of what the proof is made: 10 texts, one behind the other. -/
import Derived.Test.YtchidddpplangaaGreatDoorM3
import Derived.Deep.QuietTactic
import Derived.BigQuiet
import Derived.BigRegion
import Derived.WalkSmall
import Derived.Deep.RegionWith
import Derived.Test.YtchidddpplangaaGreatDoorM1
set_option linter.unusedSimpArgs false
set_option linter.unusedVariables false
set_option maxHeartbeats 4000000
namespace Go.Proofs.YtchidddpplangaaGreatDoor
open Go.Proofs.Tryz
open Go.RowKit
set_option linter.defProp false
variable {B b:Nat}{d h mi mo s y:Int}{v0 v1:Value}{w:World}
def a1g := @Calls.quiet_of_same
def a1D := @wpQuiet_nil
def Two(w:World)(b:Nat)(v0 v1:Value):Prop:=
 w.cell? ⟨b,0,none⟩=some v0/\w.cell? ⟨b,1,none⟩=some v1/\w.frozen? ⟨b,0,none⟩=false/\w.frozen? ⟨b,1,none⟩=false/\b<w.heap.size
theorem ah{a:World}(h:Below B a w){o:Nat}(hb:B<=b)(u:Value):Below B a (w.setCell ⟨b,o,none⟩ u):=h.setCell (p:=⟨b,o,none⟩) hb u
theorem Two.set0(h:Two w b v0 v1)(u:Value):Two (w.setCell ⟨b,0,none⟩ u) b u v1:=by
 obtain⟨c0,c1,f0,f1,hb⟩:=h;refine⟨World.cell?_setCell_same _ _ _ c0,?_,by simpa using f0,by simpa using f1,by simpa using hb⟩;rw[World.cell?_setCell_other _ _ _ _ (by simp)];exact c1
theorem Two.set1(h:Two w b v0 v1)(u:Value):Two (w.setCell ⟨b,1,none⟩ u) b v0 u:=by
 obtain⟨c0,c1,f0,f1,hb⟩:=h;refine⟨?_,World.cell?_setCell_same _ _ _ c1,by simpa using f0,by simpa using f1,by simpa using hb⟩;rw[World.cell?_setCell_other _ _ _ _ (by simp)];exact c0
theorem Two.drew(h:Two w b v0 v1):Two w.drew b v0 v1:=h
open Corb
def p2(k:Nat):Nat:=2 ^ k
theorem mw(k:Nat):1<=p2 k:=Nat.one_le_two_pow
theorem lr(k:Nat):p2 (k+1)=p2 k*2:=a16 ..
theorem j9(k:Nat):((p2 k:Nat):Int)=(2:Int) ^ k:=by simp[p2]
theorem bK(n:Int)(a : -9223372036854775808<=n)(b:n<=9223372036854775807):IntKind.i64.wrap n=n:=by
 simp[IntKind.wrap,IntKind.bits,IntKind.signed];omega
theorem fu (n : Int) (w : World) (h : n ≤ 60) :
    Calls prog 163 #[.int .i64 n] w fun e w' => e = .returned (.int .i64 (p2 n.toNat : Nat)) ∧ w' = w := by
  have hle : p2 n.toNat ≤ 2 ^ 60 := a0N (by omega) (by omega)
  generalize hN : p2 n.toNat = N at *
  have HN := ae hN
  clear hN
  go_enter func163, ntmps163
  go_wp2
  go_loop [0, 3] (fun m o => ∃ (k : Int), k ≤ 60 ∧ m = .int .i64 k ∧ ∃ p : Nat, o = .int .i64 p ∧ p * p2 k.toNat = N) (fun m _ => (intOf m).toNat)
  case atStart => exact ⟨n, h, rfl, 1, rfl, by have := ab HN; omega⟩
  case round =>
    obtain ⟨k, hk, rfl, p, rfl, hp⟩ := hrel
    by_cases h0 : 0 < k
    . have e : p2 k.toNat = p2 (k - 1).toNat * 2 := by rw [← lr]; congr 1; omega
      have hq : p * 2 * p2 (k - 1).toNat = N := by rw [← hp, e, a2u, a1s 2]
      have hpl : p * 2 ≤ 2 ^ 60 := by
        have h1 : p * 2 * 1 ≤ p * 2 * p2 (k - 1).toNat := Nat.mul_le_mul_left _ (mw _)
        omega
      have HQ := ae hq
      have hpl' : (p : Int) ≤ 1152921504606846976 := by have : (2 : Nat) ^ 60 = 1152921504606846976 := by decide
                                                        omega
      clear e hq hpl hp hle
      go_wp2
      go_round
      case rel => exact ⟨k - 1, by omega, rfl, p * 2, by go_num, ab HQ⟩
      case measure => simp [intOf]; omega
    . have hk0 : k.toNat = 0 := by omega
      rw [hk0] at hp
      have HP : Hid (p = N) := by have : p = N := by rw [← hp]; simp [p2]
                                  exact this
      clear hp hk0 hle
      go_wp2
      go_ret
      exact ⟨aH (by rw [ab HP]), rfl⟩
def pOk(num bits:Int):Bool:=inB bits 0 16&&inB num 0 ((p2 bits.toNat:Nat)-1)
theorem aS{num bits:Int} : pOk num bits=true<->(0<=bits/\bits<=16)/\0<=num/\num<(p2 bits.toNat:Nat):=by
 simp only[pOk,a0n,aB];omega
theorem D2(bits:Int)(c:bits<=16):(1:Int)<=(p2 bits.toNat:Nat)/\((p2 bits.toNat:Nat):Int)<=65536:=by
 have a:p2 bits.toNat<=65536:=uC bits.toNat (by omega);have b:=mw bits.toNat
 omega
theorem jS(num bits:Int)(w:World) :
  Ds 175 #[.agg #[.int .i64 num,.int .i64 bits]] w (.bool (pOk num bits)):=by
 by_cases e:0<=bits
 .
  by_cases b:bits<=16
  .
   by_cases n0:0<=num
   .
    obtain⟨j,k⟩:=D2 bits b;have HP:Hid (pOk num bits=decide (num<(p2 bits.toNat:Nat))):=by
     show pOk num bits=decide (num<(p2 bits.toNat:Nat));rw[a2a,aS,a2x];omega
    have hq:=j9 bits.toNat
    generalize ((p2 bits.toNat:Nat):Int)=q at *
    have d:=ae hq;have a:=bK q (by omega) (by omega);clear hq;have c:IntKind.i64.wrap (2 ^ bits.toNat)=q:=by
     have h:=ab d;rw[←h];exact a
    go_enter a3o,a3p;go_wp2
    go_quiet (fail)
    go_wp2;go_ret;exact⟨ak (ab HP).symm,below_drewN ((a0c _ _).alloc (a0a _) _) _⟩
   .
    have HP:Hid (pOk num bits=false):=by
     show pOk num bits=false;rw[←a2U,aS];omega
    have i:decide (0<=num)=false:=a0h n0;go_enter a3o,a3p;go_wp2
    go_quiet (fail)
    go_wp2;go_ret;exact⟨ak (ab HP).symm,below_drewN ((a0c _ _).alloc (a0a _) _) _⟩
  .
   have HP:Hid (pOk num bits=false):=by
    show pOk num bits=false;rw[←a2U,aS];omega
   have g:decide (bits<=16)=false:=a0h b;go_enter a3o,a3p;go_wp2
   go_quiet (fail)
   go_wp2;go_ret;exact⟨ak (ab HP).symm,below_drewN ((a0c _ _).alloc (a0a _) _) _⟩
 .
  have HP:Hid (pOk num bits=false):=by
   show pOk num bits=false;rw[←a2U,aS];omega
  have f:decide (0<=bits)=false:=a0h e;go_enter a3o,a3p;go_wp2
  go_quiet (fail)
  go_wp2;go_ret;exact⟨ak (ab HP).symm,below_drewN ((a0c _ _).alloc (a0a _) _) _⟩
def btI(num bits:Int):Int:=if pOk num bits=true then(rv bits.toNat num.toNat:Nat)else -1
theorem Ez{num bits:Int}(h:pOk num bits=true):btI num bits=(rv bits.toNat num.toNat:Nat):=a0e h
theorem NO{num bits:Int}(h:pOk num bits=false):btI num bits = -1:=a0d (by simp[h])
theorem rG(k n:Nat):((rv (k+1) n:Nat):Int)=2*(rv k n:Nat)+((n/2 ^ k:Nat):Int)%2:=by
 simp only[rv];omega
theorem zm(n k:Nat):((n/2 ^ k:Nat):Int)/2=((n/2 ^ (k+1):Nat):Int):=by
 rw[←oR];omega
theorem M0(n k:Nat):(n:Int)/2 ^ k=((n/2 ^ k:Nat):Int):=by
 exact(Int.natCast_ediv n (2 ^ k)).symm
theorem tN(num bits:Int)(w:World)(n0:0<=num)(n1:num<65536)(d:0<=bits)(o:bits<=16) :
  Calls prog 225 #[.int .i64 num,.int .i64 bits] w fun e w'=>e = .returned (.int .i64 (rv bits.toNat num.toNat:Nat))/\w'=w:=by
 obtain⟨n,rfl⟩:=a0t n0;obtain⟨b,rfl⟩:=a0t d;rw[a0p,a0p];go_enter func225,ntmps225;go_wp2
 go_loop [0,5,6] (fun m r i=>∃k:Nat,k<=b/\i = .int .i64 k/\r = .int .i64 (rv k n:Nat)/\m = .int .i64 (n/2 ^ k:Nat)) (fun _ _ i=>b-(intOf i).toNat)
 case atStart=>exact⟨0,a0g _,rfl,rfl,by simp⟩
 case round=>
  obtain⟨k,p,rfl,rfl,rfl⟩:=hrel;have j:=K0 k n;have c:=uC k (by omega);have g:n/2 ^ k<=n:=a1V _ _;have e1:=ae (rG k n);have e2:=ae (zm n k);by_cases f:k<b
  .
   have l:((rv k n:Nat):Int)<65536:=by omega
   have h:((n/2 ^ k:Nat):Int)<65536:=by omega
   generalize ((n/2 ^ k:Nat))=x at *
   generalize rv k n=y at *
   clear j c g;go_wp2
   go_round
   case rel=>exact⟨k+1,by omega,by go_num,by rw[ab e1],by rw[←ab e2]⟩
   case measure=>simp[intOf];omega
  .
   have a:k=b:=by omega
   subst a;go_wp2;go_ret;exact⟨rfl,rfl⟩
theorem ql(num bits:Int)(w:World) :
  Ds 215 #[.int .i64 num,.int .i64 bits] w (.int .i64 (btI num bits)):=by
 cases h:pOk num bits
 . have c:=ae (NO h);go_enter func215,ntmps215;go_wp2_with (go_at_call 175;refine(jS _ _ _).mono ?_;rintro e w' ⟨rfl,hb⟩);go_ret;exact⟨aH (ab c).symm,hb⟩
 .
  have c:=ae (Ez h);obtain⟨⟨f,g⟩,n0,n1⟩:=aS.1 h;have q:=(D2 bits g).2;have n2:num<65536:=by omega
  clear n1 q;obtain⟨n,rfl⟩:=a0t n0;obtain⟨b,rfl⟩:=a0t f;rw[a0p,a0p]at c;go_enter func215,ntmps215;go_wp2_with (go_at_call 175;refine(jS _ _ _).mono ?_;rintro e w' ⟨rfl,hb⟩)
  go_loop [5,6,13] (fun r _ i=>∃k:Nat,k<=b/\i = .int .i64 k/\r = .int .i64 (rv k n:Nat)) (fun _ _ i=>b-(intOf i).toNat)
  case atStart=>exact⟨0,a0g _,rfl,rfl⟩
  case round=>
   obtain⟨k,u,rfl,rfl⟩:=hrel;have o:=K0 k n;have d:=uC k (by omega);have l:n/2 ^ k<=n:=a1V _ _;have e1:=ae (rG k n);by_cases j:k<b
   .
    have p:((rv k n:Nat):Int)<65536:=by omega
    have m:((n/2 ^ k:Nat):Int)<65536:=by omega
    have s:=M0 n k;have a:(k:Int)<=16:=by omega
    generalize ((n/2 ^ k:Nat))=x at *
    generalize rv k n=y at *
    have t:=mj (x:Int) (by omega) (by omega);have v:=zQ 1 ((y:Int)*2) ((x:Int)%2) (by omega) (by omega) (by omega) (by omega) (by omega) (by omega);clear o d l;go_wp2
    go_round
    case rel=>exact⟨k+1,by omega,by go_num,by rw[ab e1];go_num⟩
    case measure=>simp[intOf];omega
   .
    have a:k=b:=by omega
    subst a;go_wp2;go_ret;exact⟨aH (ab c).symm,hb⟩
def lK(y:Int):Bool:=decide (y%4=0)&&(!decide (y%100=0) || decide (y%400=0))
def iA(y m:Int):Int:=if m=4∨m=6∨m=9∨m=11 then 30 else if m=2 then(if lK y then 29 else 28)else 31
def zr(y:Int):Int:=if lK y then 29 else 28
theorem zf(y:Int):iA y 2=zr y:=by simp[iA,zr]
theorem Mc(y m:Int)(h:m=4∨m=6∨m=9∨m=11):iA y m=30:=by simp[iA,h]
theorem Md(y m:Int)(b:¬ m=4)(c:¬ m=6)(d:¬ m=9)(a:¬ m=11)(h2:¬ m=2):iA y m=31:=by simp[iA,b,c,d,a,h2]
theorem pf(y:Int)(w:World)(d:0<=y)(f:y<=3000) :
  Calls prog 152 #[.int .i64 y] w fun e w'=>e = .returned (.bool (lK y))/\w'=w:=by
 by_cases c:y%4=0
 .
  by_cases b:y%100=0
  .
   by_cases a:y%400=0
   . go_enter a3q,a3r;go_wp2;go_ret;exact⟨ak (by simp[lK,c,a]),rfl⟩
   . go_enter a3q,a3r;go_wp2;go_ret;exact⟨ak (by simp[lK,c,b,a]),rfl⟩
  . go_enter a3q,a3r;go_wp2;go_ret;exact⟨ak (by simp[lK,c,b]),rfl⟩
 .
  have a:¬ y%400=0:=by omega
  go_enter a3q,a3r;go_wp2;go_ret;exact⟨ak (by simp[lK,c,a]),rfl⟩
theorem lp(y m:Int)(w:World)(d:0<=y)(f:y<=3000) :
  Calls prog 70 #[.int .i64 y,.int .i64 m] w fun e w'=>e = .returned (.int .i64 (iA y m))/\w'=w:=by
 by_cases m2:m=2
 .
  subst m2;rw[zf];by_cases c:y%4=0
  .
   by_cases a:y%100=0
   .
    by_cases b:y%400=0
    . go_enter a2y,a2z;go_wp2;go_ret;exact⟨aH (by simp[zr,lK,c,b]),rfl⟩
    . go_enter a2y,a2z;go_wp2;go_ret;exact⟨aH (by simp[zr,lK,c,a,b]),rfl⟩
   . go_enter a2y,a2z;go_wp2;go_ret;exact⟨aH (by simp[zr,lK,c,a]),rfl⟩
  . go_enter a2y,a2z;go_wp2;go_ret;exact⟨aH (by simp[zr,lK,c]),rfl⟩
 .
  by_cases m30:m=4∨m=6∨m=9∨m=11
  .
   rw[Mc y m m30];rcases m30 with rfl|rfl|rfl|rfl;all_goals
    go_enter a2y,a2z;go_wp2;go_ret;exact⟨rfl,rfl⟩
  . have m4:¬ m=4:=fun h=>m30 (by simp[h]);have m6:¬ m=6:=fun h=>m30 (by simp[h]);have m9:¬ m=9:=fun h=>m30 (by simp[h]);have m11:¬ m=11:=fun h=>m30 (by simp[h]);rw[Md y m m4 m6 m9 m11 m2];clear m30;go_enter a2y,a2z;go_wp2;go_ret;exact⟨rfl,rfl⟩
def gm(y m:Int):Int:=if inB m 1 12 then iA y m else 0
theorem fO(y m:Int)(w:World)(g:0<=y)(h:y<=3000) :
  Calls prog 112 #[.int .i64 y,.int .i64 m] w fun e w'=>e = .returned (.int .i64 (gm y m))/\w'=w:=by
 cases a:inB m 1 12
 .
  have hd:gm y m=0:=by simp[gm,a]
  rw[hd];have hb:=dN.1 a;have n1:¬ m=1:=by omega
  have n2:¬ m=2:=by omega
  have n3:¬ m=3:=by omega
  have n4:¬ m=4:=by omega
  have n5:¬ m=5:=by omega
  have n6:¬ m=6:=by omega
  have n7:¬ m=7:=by omega
  have n8:¬ m=8:=by omega
  have n9:¬ m=9:=by omega
  have n10:¬ m=10:=by omega
  have n11:¬ m=11:=by omega
  have n12:¬ m=12:=by omega
  clear a hd hb;go_enter a3s,a3t;go_wp2;go_ret;exact⟨rfl,rfl⟩
 .
  have hd:gm y m=iA y m:=by simp[gm,a]
  rw[hd];obtain⟨d,f⟩:=aB.1 a;clear a hd;have i:m=1∨m=2∨m=3∨m=4∨m=5∨m=6∨m=7∨m=8∨m=9∨m=10∨m=11∨m=12:=by omega
  by_cases m2:m=2
  .
   subst m2;clear i d f;rw[zf];cases c:lK y
   . go_enter a3s,a3t;go_wp2_with (go_at_call 152;refine(pf _ _ g h).mono ?_;rintro e w' ⟨rfl,b⟩;rw[b];clear b;rw[c]);go_ret;exact⟨aH (by simp[zr,c]),rfl⟩
   . go_enter a3s,a3t;go_wp2_with (go_at_call 152;refine(pf _ _ g h).mono ?_;rintro e w' ⟨rfl,b⟩;rw[b];clear b;rw[c]);go_ret;exact⟨aH (by simp[zr,c]),rfl⟩
  .
   rcases i with rfl|rfl|rfl|rfl|rfl|rfl|rfl|rfl|rfl|rfl|rfl|rfl;all_goals first|exact absurd rfl m2|skip
   all_goals
    clear d f m2;go_enter a3s,a3t;go_wp2;go_ret;exact⟨aH (by simp[iA]),rfl⟩
def dt(y mo d h mi s:Int):Bool:=inB y 1980 2107&&(inB mo 1 12&&(inB d 1 (iA y mo)&&(inB h 0 23&&(inB mi 0 59&&(inB s 0 58&&decide (s%2=0))))))
theorem sf(y mo d h mi s:Int)(w:World) :
  Ds 49 #[.agg #[.int .i64 y,.int .i64 mo,.int .i64 d,.int .i64 h,.int .i64 mi,.int .i64 s]] w (.bool (dt y mo d h mi s)):=by
 cases b:inB y 1980 2107
 .
  have HP:Hid (dt y mo d h mi s=false):=by simp[Hid,dt,b]
  go_enter func49,a3v;go_wp2
  go_quiet (first|(go_at_call 24;exact a1g (aG _ _ _ _))|(go_at_call 70;exact a1g (lp _ _ _ (by omega) (by omega))))
  go_wp2_with (go_at_call 24;refine(aG _ _ _ _).mono ?_;rintro e w9 ⟨rfl,a⟩;rw[a];clear a);go_ret;exact⟨ak (ab HP).symm,below_drewN ((a0c _ _).alloc (a0a _) _) _⟩
 .
  skip
  obtain⟨y0,y1⟩:=aB.1 b;cases c:inB mo 1 12
  .
   have HP:Hid (dt y mo d h mi s=false):=by simp[Hid,dt,b,c]
   go_enter func49,a3v;go_wp2
   go_quiet (first|(go_at_call 24;exact a1g (aG _ _ _ _))|(go_at_call 70;exact a1g (lp _ _ _ (by omega) (by omega))))
   go_wp2_with (go_at_call 24;refine(aG _ _ _ _).mono ?_;rintro e w9 ⟨rfl,a⟩;rw[a];clear a);go_ret;exact⟨ak (ab HP).symm,below_drewN ((a0c _ _).alloc (a0a _) _) _⟩
  .
   skip
   cases hd:inB d 1 (iA y mo)
   .
    have HP:Hid (dt y mo d h mi s=false):=by simp[Hid,dt,b,c,hd]
    go_enter func49,a3v;go_wp2
    go_quiet (first|(go_at_call 24;exact a1g (aG _ _ _ _))|(go_at_call 70;exact a1g (lp _ _ _ (by omega) (by omega))))
    go_wp2_with (go_at_call 24;refine(aG _ _ _ _).mono ?_;rintro e w9 ⟨rfl,a⟩;rw[a];clear a);go_ret;exact⟨ak (ab HP).symm,below_drewN ((a0c _ _).alloc (a0a _) _) _⟩
   .
    skip
    go_enter func49,a3v;go_wp2
    go_quiet (first|(go_at_call 24;exact a1g (aG _ _ _ _))|(go_at_call 70;exact a1g (lp _ _ _ (by omega) (by omega))))
    cases f:inB h 0 23
    .
     have HP:Hid (dt y mo d h mi s=false):=by simp[Hid,dt,b,c,hd,f]
     go_wp2_with (go_at_call 24;refine(aG _ _ _ _).mono ?_;rintro e w9 ⟨rfl,a⟩;rw[a];clear a);go_ret;exact⟨ak (ab HP).symm,below_drewN ((a0c _ _).alloc (a0a _) _) _⟩
    .
     skip
     cases g:inB mi 0 59
     .
      have HP:Hid (dt y mo d h mi s=false):=by simp[Hid,dt,b,c,hd,f,g]
      go_wp2_with (go_at_call 24;refine(aG _ _ _ _).mono ?_;rintro e w9 ⟨rfl,a⟩;rw[a];clear a);go_ret;exact⟨ak (ab HP).symm,below_drewN ((a0c _ _).alloc (a0a _) _) _⟩
     .
      skip
      cases i:inB s 0 58
      .
       have HP:Hid (dt y mo d h mi s=false):=by simp[Hid,dt,b,c,hd,f,g,i]
       go_wp2_with (go_at_call 24;refine(aG _ _ _ _).mono ?_;rintro e w9 ⟨rfl,a⟩;rw[a];clear a);go_ret;exact⟨ak (ab HP).symm,below_drewN ((a0c _ _).alloc (a0a _) _) _⟩
      .
       skip
       obtain⟨s0,s1⟩:=aB.1 i;have HP:Hid (dt y mo d h mi s=(s%2 == 0)):=by simp[Hid,dt,b,c,hd,f,g,i];rfl
       go_wp2_with (go_at_call 24;refine(aG _ _ _ _).mono ?_;rintro e w9 ⟨rfl,a⟩;rw[a];clear a);go_ret;exact⟨ak (ab HP).symm,below_drewN ((a0c _ _).alloc (a0a _) _) _⟩
theorem ze(y m:Int):0<=gm y m/\gm y m<=31:=by
 unfold gm iA;split<;>(try split)<;>(try split)<;>(try split)<;>omega
theorem Lg{y mo d h mi s:Int}(k:y<1980∨2107<y∨d<1∨gm y mo<d∨h<0∨23<h∨mi<0∨59<mi∨s<0∨58<s):dt y mo d h mi s=false:=by
 cases e:dt y mo d h mi s
 . rfl
 .
  simp only[dt,a0n,aB,a0w]at e;obtain⟨ey,em,ed,eh,ei,es,_⟩:=e;have:gm y mo=iA y mo:=by simp[gm,aB.2 em]
  omega
theorem Oh(y0:1980<=y)(y1:y<=2107)(a:1<=d)(c:0<=h)(f:h<=23)(m0:0<=mi)(m1:mi<=59)(s0:0<=s)(s1:s<=58)(_:True)(b:d<=gm y mo):dt y mo d h mi s=(s%2 == 0):=by
 have em:inB mo 1 12=true:=by
  cases e:inB mo 1 12
  .
   have:gm y mo=0:=by simp[gm,e]
   omega
  . rfl
 have ed:gm y mo=iA y mo:=by simp[gm,em]
 simp only[dt,aB.2 ⟨y0,y1⟩,em,aB.2 ⟨a,ed▸b⟩,aB.2 ⟨c,f⟩,aB.2 ⟨m0,m1⟩,aB.2 ⟨s0,s1⟩,a3w];rfl
theorem dw(y mo d h mi s:Int)(w:World) :
  Ds 86 #[.agg #[.int .i64 y,.int .i64 mo,.int .i64 d,.int .i64 h,.int .i64 mi,.int .i64 s]] w (.bool (dt y mo d h mi s)):=by
 obtain⟨D0,g⟩:=ze y mo;have b:=ae (@Lg y mo d h mi s);generalize f:gm y mo=D at *
 have c:=ae f;clear f;rcases a1u y 1980 with x0|x0
 .
  have HP:Hid (dt y mo d h mi s=false):=ae (ab b (by omega));have z0:decide (1980<=y)=false:=by simp;omega
  go_enter a2W,a2X;go_wp2
  go_quiet ((go_at_call 112;exact a1g ((fO _ _ _ (by omega) (by omega)).mono (by rintro e w9 ⟨rfl,a⟩;exact⟨aH (ab c),a⟩))))
  go_wp2;go_ret;exact⟨ak (ab HP).symm,below_drewN ((a0c _ _).alloc (a0a _) _) _⟩
 .
  rcases a1u 2107 y with x1|x1
  .
   have HP:Hid (dt y mo d h mi s=false):=ae (ab b (by omega));have z1:decide (y<=2107)=false:=by simp;omega
   go_enter a2W,a2X;go_wp2
   go_quiet ((go_at_call 112;exact a1g ((fO _ _ _ (by omega) (by omega)).mono (by rintro e w9 ⟨rfl,a⟩;exact⟨aH (ab c),a⟩))))
   go_wp2;go_ret;exact⟨ak (ab HP).symm,below_drewN ((a0c _ _).alloc (a0a _) _) _⟩
  .
   rcases a1u d 1 with x2|x2
   .
    have HP:Hid (dt y mo d h mi s=false):=ae (ab b (by omega));have z2:decide (1<=d)=false:=by simp;omega
    go_enter a2W,a2X;go_wp2
    go_quiet ((go_at_call 112;exact a1g ((fO _ _ _ (by omega) (by omega)).mono (by rintro e w9 ⟨rfl,a⟩;exact⟨aH (ab c),a⟩))))
    go_wp2;go_ret;exact⟨ak (ab HP).symm,below_drewN ((a0c _ _).alloc (a0a _) _) _⟩
   .
    rcases a1u D d with x3|x3
    .
     have HP:Hid (dt y mo d h mi s=false):=ae (ab b (by omega));have z3:decide (d<=D)=false:=by simp;omega
     go_enter a2W,a2X;go_wp2
     go_quiet ((go_at_call 112;exact a1g ((fO _ _ _ (by omega) (by omega)).mono (by rintro e w9 ⟨rfl,a⟩;exact⟨aH (ab c),a⟩))))
     go_wp2;go_ret;exact⟨ak (ab HP).symm,below_drewN ((a0c _ _).alloc (a0a _) _) _⟩
    .
     go_enter a2W,a2X;go_wp2
     go_quiet ((go_at_call 112;exact a1g ((fO _ _ _ (by omega) (by omega)).mono (by rintro e w9 ⟨rfl,a⟩;exact⟨aH (ab c),a⟩))))
     rcases a1u h 0 with u0|u0
     . have HP:Hid (dt y mo d h mi s=false):=ae (ab b (by omega));go_wp2;go_ret;exact⟨ak (ab HP).symm,below_drewN ((a0c _ _).alloc (a0a _) _) _⟩
     .
      skip
      rcases a1u 23 h with u1|u1
      . have HP:Hid (dt y mo d h mi s=false):=ae (ab b (by omega));go_wp2;go_ret;exact⟨ak (ab HP).symm,below_drewN ((a0c _ _).alloc (a0a _) _) _⟩
      .
       skip
       rcases a1u mi 0 with u2|u2
       . have HP:Hid (dt y mo d h mi s=false):=ae (ab b (by omega));go_wp2;go_ret;exact⟨ak (ab HP).symm,below_drewN ((a0c _ _).alloc (a0a _) _) _⟩
       .
        skip
        rcases a1u 59 mi with u3|u3
        . have HP:Hid (dt y mo d h mi s=false):=ae (ab b (by omega));go_wp2;go_ret;exact⟨ak (ab HP).symm,below_drewN ((a0c _ _).alloc (a0a _) _) _⟩
        .
         skip
         rcases a1u s 0 with u4|u4
         . have HP:Hid (dt y mo d h mi s=false):=ae (ab b (by omega));go_wp2;go_ret;exact⟨ak (ab HP).symm,below_drewN ((a0c _ _).alloc (a0a _) _) _⟩
         .
          skip
          rcases a1u 58 s with u5|u5
          . have HP:Hid (dt y mo d h mi s=false):=ae (ab b (by omega));go_wp2;go_ret;exact⟨ak (ab HP).symm,below_drewN ((a0c _ _).alloc (a0a _) _) _⟩
          .
           skip
           have HP:Hid (dt y mo d h mi s=(s%2 == 0)):=Oh (by omega) (by omega) (by omega) (by omega) (by omega) (by omega) (by omega) (by omega) (by omega) trivial (by rw[ab c];omega);go_wp2;go_ret;exact⟨ak (ab HP).symm,below_drewN ((a0c _ _).alloc (a0a _) _) _⟩
theorem kH(i:Nat)(x y:Int)(c:0<=x)(d:x<2 ^ i)(h2:0<=y)(e:y<9223372036854775808)(f:x<9223372036854775808)(h:y%2 ^ i=0):bits .or .i64 x y=x+y:=by
 obtain⟨a,rfl⟩:=a0t c;obtain⟨b,rfl⟩:=a0t h2;rw[lk a b (by omega) (by omega),Nat.or_comm,nat_join i b a (by exact_mod_cast h) (by exact_mod_cast d)];omega
def Six(w:World)(b:Nat)(y mo d h mi s:Int):Prop:=
 (w.cell? ⟨b,0,none⟩=some (.int .i64 y)/\w.cell? ⟨b,1,none⟩=some (.int .i64 mo)/\w.cell? ⟨b,2,none⟩=some (.int .i64 d)/\w.cell? ⟨b,3,none⟩=some (.int .i64 h)/\w.cell? ⟨b,4,none⟩=some (.int .i64 mi)/\w.cell? ⟨b,5,none⟩=some (.int .i64 s)) /\
 (w.frozen? ⟨b,0,none⟩=false/\w.frozen? ⟨b,1,none⟩=false/\w.frozen? ⟨b,2,none⟩=false/\w.frozen? ⟨b,3,none⟩=false/\w.frozen? ⟨b,4,none⟩=false/\w.frozen? ⟨b,5,none⟩=false)/\b<w.heap.size
theorem kN(w:World)(y mo d h mi s:Int)(t:TypeId):Six (w.alloc (.cells #[.int .i64 y,.int .i64 mo,.int .i64 d,.int .i64 h,.int .i64 mi,.int .i64 s] t)) w.heap.size y mo d h mi s:=by
 refine⟨⟨?_,?_,?_,?_,?_,?_⟩,⟨?_,?_,?_,?_,?_,?_⟩,?_⟩<;>simp
theorem Six.later{w':World}(k:Six w b y mo d h mi s)(hb:Below B w w')(a:b<B):Six w' b y mo d h mi s:=by
 obtain⟨⟨c0,c1,c2,c3,c4,e⟩,⟨f0,f1,f2,f3,f4,f5⟩,c⟩:=k;refine⟨⟨?_,?_,?_,?_,?_,?_⟩,⟨?_,?_,?_,?_,?_,?_⟩,a0m c hb.size⟩
 . exact(hb.cell (p:=⟨b,0,none⟩) a).trans c0
 . exact(hb.cell (p:=⟨b,1,none⟩) a).trans c1
 . exact(hb.cell (p:=⟨b,2,none⟩) a).trans c2
 . exact(hb.cell (p:=⟨b,3,none⟩) a).trans c3
 . exact(hb.cell (p:=⟨b,4,none⟩) a).trans c4
 . exact(hb.cell (p:=⟨b,5,none⟩) a).trans e
 . exact(hb.frozen (p:=⟨b,0,none⟩) a).trans f0
 . exact(hb.frozen (p:=⟨b,1,none⟩) a).trans f1
 . exact(hb.frozen (p:=⟨b,2,none⟩) a).trans f2
 . exact(hb.frozen (p:=⟨b,3,none⟩) a).trans f3
 . exact(hb.frozen (p:=⟨b,4,none⟩) a).trans f4
 . exact(hb.frozen (p:=⟨b,5,none⟩) a).trans f5
theorem aT{i j:Nat}{v:Value}{c:Option Value}(k:w.cell? ⟨b,j,none⟩=c)(h:i≠j):(w.setCell ⟨b,i,none⟩ v).cell? ⟨b,j,none⟩=c:=by
 rw[World.cell?_setCell_other _ _ _ _ (fun e=>h (by cases e;rfl))];exact k
theorem Six.store(k:Six w b y mo d h mi s)(y' mo' c e mi' s':Int) :
  Six ((((((w.setCell ⟨b,0,none⟩ (.int .i64 y')).setCell ⟨b,1,none⟩ (.int .i64 mo')).setCell ⟨b,2,none⟩ (.int .i64 c)).setCell ⟨b,3,none⟩ (.int .i64 e)).setCell ⟨b,4,none⟩ (.int .i64 mi')).setCell ⟨b,5,none⟩ (.int .i64 s')) b y' mo' c e mi' s':=by
 obtain⟨⟨c0,c1,c2,c3,c4,f⟩,⟨f0,f1,f2,f3,f4,f5⟩,a⟩:=k;refine⟨⟨?_,?_,?_,?_,?_,?_⟩,⟨?_,?_,?_,?_,?_,?_⟩,?_⟩
 . exact aT (aT (aT (aT (aT (World.cell?_setCell_same _ _ _ c0) (by decide)) (by decide)) (by decide)) (by decide)) (by decide)
 . exact aT (aT (aT (aT (World.cell?_setCell_same _ _ _ (aT c1 (by decide))) (by decide)) (by decide)) (by decide)) (by decide)
 . exact aT (aT (aT (World.cell?_setCell_same _ _ _ (aT (aT c2 (by decide)) (by decide))) (by decide)) (by decide)) (by decide)
 . exact aT (aT (World.cell?_setCell_same _ _ _ (aT (aT (aT c3 (by decide)) (by decide)) (by decide))) (by decide)) (by decide)
 . exact aT (World.cell?_setCell_same _ _ _ (aT (aT (aT (aT c4 (by decide)) (by decide)) (by decide)) (by decide))) (by decide)
 . exact World.cell?_setCell_same _ _ _ (aT (aT (aT (aT (aT f (by decide)) (by decide)) (by decide)) (by decide)) (by decide))
 . simpa using f0
 . simpa using f1
 . simpa using f2
 . simpa using f3
 . simpa using f4
 . simpa using f5
 . simpa using a
theorem qK{a:World}(k:Below B a w)(hb:B<=b)(v0 v1 v2 v3 v4 v5:Value):Below B a ((((((w.setCell ⟨b,0,none⟩ v0).setCell ⟨b,1,none⟩ v1).setCell ⟨b,2,none⟩ v2).setCell ⟨b,3,none⟩ v3).setCell ⟨b,4,none⟩ v4).setCell ⟨b,5,none⟩ v5):=
 ah (ah (ah (ah (ah (ah k hb _) hb _) hb _) hb _) hb _) hb _
theorem Bj{w1:World}{t:TypeId}(hb:Below (w.alloc (.cells #[.int .i64 y,.int .i64 mo,.int .i64 d,.int .i64 h,.int .i64 mi,.int .i64 s] t)).heap.size (w.alloc (.cells #[.int .i64 y,.int .i64 mo,.int .i64 d,.int .i64 h,.int .i64 mi,.int .i64 s] t)) w1) :
  Six w1 w.heap.size y mo d h mi s/\Below w.heap.size w w1:=
 ⟨(kN w y mo d h mi s t).later hb (by simp),((a0c _ _).alloc (a0a _) _).trans (hb.mono (by simp))⟩
def stN(y mo d h mi s:Int):Int:=(((((y-1980)*16+mo)*32+d)*32+h)*64+mi)*32+s/2
def stI(y mo d h mi s:Int):Int:=if dt y mo d h mi s then stN y mo d h mi s else -1
theorem Nz(k:dt y mo d h mi s=true):(1980<=y/\y<=2107)/\(1<=mo/\mo<=12)/\(1<=d/\d<=iA y mo/\d<=31)/\(0<=h/\h<=23)/\(0<=mi/\mi<=59)/\(0<=s/\s<=58)/\s%2=0:=by
 simp only[dt,a0n,aB,a0w]at k;obtain⟨ey,em,ed,eh,ei,es,e2⟩:=k;have a:gm y mo=iA y mo:=by simp[gm,aB.2 em]
 have h2:=(ze y mo).2;refine⟨ey,em,⟨ed.1,ed.2,?_⟩,eh,ei,es,e2⟩;omega
theorem qs(y mo d h mi s:Int)(w:World) :
  Ds 84 #[.agg #[.int .i64 y,.int .i64 mo,.int .i64 d,.int .i64 h,.int .i64 mi,.int .i64 s]] w (.int .i64 (stI y mo d h mi s)):=by
 cases k:dt y mo d h mi s
 .
  have e:stI y mo d h mi s = -1:=by simp[stI,k]
  rw[e];clear e;go_enter func84,ntmps84;go_wp2_with fail;refine(dw y mo d h mi s _).mono ?_;rintro e w1 ⟨rfl,hb⟩;rw[k];go_wp2;go_ret;exact⟨rfl,(Bj hb).2⟩
 .
  have e:stI y mo d h mi s=stN y mo d h mi s:=by simp[stI,k]
  rw[e];clear e;obtain⟨⟨y0,y1⟩,⟨m0,m1⟩,⟨c,_,f⟩,⟨g,i⟩,⟨i0,i1⟩,⟨s0,s1⟩,s2⟩:=Nz k;go_enter func84,ntmps84;go_wp2_with fail;refine(dw y mo d h mi s _).mono ?_;rintro e w1 ⟨rfl,hb⟩;rw[k];obtain⟨⟨⟨c0,c1,c2,c3,c4,b⟩,_,_⟩,a⟩:=Bj hb;clear hb;go_wp2;go_ret;refine⟨aH ?_,a⟩;rw[kH 5 (s/2) (mi*32) (by omega) (by omega) (by omega) (by omega) (by omega) (by omega)];rw[kH 11 _ (h*2048) (by omega) (by omega) (by omega) (by omega) (by omega) (by omega)];rw[kH 16 _ (d*65536) (by omega) (by omega) (by omega) (by omega) (by omega) (by omega)];rw[kH 21 _ (mo*2097152) (by omega) (by omega) (by omega) (by omega) (by omega) (by omega)];rw[kH 25 _ ((y-1980)*33554432) (by omega) (by omega) (by omega) (by omega) (by omega) (by omega)];unfold stN;omega
theorem Gt(y mo d h mi s:Int)(w:World)(k:(0<=y/\y<=100000)/\(0<=mo/\mo<=100)/\(0<=d/\d<=100)/\(0<=h/\h<=100)/\(0<=mi/\mi<=100) /\ -100<=s/\s<=100) :
  Ds 71 #[.agg #[.int .i64 y,.int .i64 mo,.int .i64 d,.int .i64 h,.int .i64 mi,.int .i64 s]] w (.int .i64 ((((((y-1980)*16+mo)*32+d)*32+h)*64+mi)*32+Int.tdiv s 2)):=by
 obtain⟨⟨y0,y1⟩,⟨m0,m1⟩,⟨a,b⟩,⟨e,f⟩,⟨i0,i1⟩,s0,s1⟩:=k;have t0 : -50<=Int.tdiv s 2:=by have:=Int.tdiv_le_tdiv (c:=2) (by omega) s0;simpa using this
 have t1:Int.tdiv s 2<=50:=by have:=Int.tdiv_le_tdiv (c:=2) (by omega) s1;simpa using this
 go_enter func71,ntmps71;go_wp2;go_ret;exact⟨aH rfl,(a0c _ _).alloc (a0a _) _⟩
def gS(n:Int):Int:=2*(n%32)
def gI(n:Int):Int:=n/32%64
def gH(n:Int):Int:=n/2048%32
def gD(n:Int):Int:=n/65536%32
def gM(n:Int):Int:=n/2097152%16
def gY(n:Int):Int:=n/33554432+1980
theorem Gr(n:Int)(w:World)(a:0<=n)(b:n<=4294967295) :
  Ds 46 #[.int .i64 n] w (.agg #[.int .i64 (gY n),.int .i64 (gM n),.int .i64 (gD n),.int .i64 (gH n),.int .i64 (gI n),.int .i64 (gS n)]):=by
 go_enter func46,ntmps46;go_wp2;refine a0F (v:=.agg #[.int .i64 (n/32/64/32/32/16+1980),.int .i64 (n/32/64/32/32%16),.int .i64 (n/32/64/32%32),.int .i64 (n/32/64%32),.int .i64 (n/32%64),.int .i64 (2*(n%32))]) (by simp[results,results46,go_sem]) rfl ⟨?_,?_⟩
 .
  have e0:n/32/64/32/32/16+1980=gY n:=by unfold gY;omega
  have e1:n/32/64/32/32%16=gM n:=by unfold gM;omega
  have e2:n/32/64/32%32=gD n:=by unfold gD;omega
  have e3:n/32/64%32=gH n:=by unfold gH;omega
  rw[e0,e1,e2,e3];rfl
 . exact((a0c _ _).alloc (a0a _) _).alloc (by simp) _
def gOk(n:Int):Bool:=inB n 0 4294967295&&dt (gY n) (gM n) (gD n) (gH n) (gI n) (gS n)
def zz(b:Bool)(x:Int):Int:=if b then x else 0
def stG(n:Int):Value:=.agg #[.int .i64 (zz (gOk n) (gY n)),.int .i64 (zz (gOk n) (gM n)),.int .i64 (zz (gOk n) (gD n)),.int .i64 (zz (gOk n) (gH n)),.int .i64 (zz (gOk n) (gI n)),.int .i64 (zz (gOk n) (gS n))]
theorem Lf{n:Int}(h:gOk n=false):stG n = .agg #[.int .i64 0,.int .i64 0,.int .i64 0,.int .i64 0,.int .i64 0,.int .i64 0]:=by simp[stG,h,zz]
theorem M8{n:Int}(h:gOk n=true):stG n = .agg #[.int .i64 (gY n),.int .i64 (gM n),.int .i64 (gD n),.int .i64 (gH n),.int .i64 (gI n),.int .i64 (gS n)]:=by simp[stG,h,zz]
def iT(w:World)(b k:Nat):Prop:=
 (∀j,j<16->w.cell? ⟨b,j,none⟩=some (.int .u32 ((if j<k then shN 4 j else 0:Nat):Int))/\w.frozen? ⟨b,j,none⟩=false)/\b<w.heap.size
theorem iT.set{k:Nat}(h:iT w b k)(c:k<16):iT (w.setCell ⟨b,k,none⟩ (.int .u32 (shN 4 k:Nat))) b (k+1):=by
 refine⟨fun j a=>⟨?_,by simpa using(h.1 j a).2⟩,by simpa using h.2⟩;by_cases e:j=k
 . subst e;rw[World.cell?_setCell_same _ _ _ (h.1 j a).1];simp
 .
  rw[World.cell?_setCell_other _ _ _ _ (by simp only[ne_eq,a0B];omega),(h.1 j a).1];by_cases l:j<k
  . rw[a0e l,a0e (by omega)]
  . rw[a0d l,a0d (by omega)]
theorem Lo(w:World)(t:TypeId):iT (w.alloc (.cells (Array.replicate 16 (.int .u32 0)) t)) w.heap.size 0:=by
 refine⟨fun j a=>⟨?_,by simp⟩,by simp⟩;simp[a]
theorem xr(w:World) :
  Calls prog 151 #[] w fun e w'=>e = .returned (.func (.func 197) #[] #[.pointer (some ⟨w.heap.size,0,none⟩)])/\iT w' w.heap.size 16/\Below w.heap.size w w':=by
 have f:=Lo w 276;go_enter func151,ntmps151;go_wp2_with fail
 go_loopw [3] (fun i wr=>∃k:Nat,k<=16/\i = .int .i64 k/\iT wr w.heap.size k/\Below w.heap.size w wr) (fun i _=>16-(intOf i).toNat)
 case atStart=>exact⟨0,by omega,rfl,f,(a0c _ _).alloc (a0a _) _⟩
 case round=>
  obtain⟨k,g,rfl,a,b⟩:=hrel;have h:(k:Int)<=16:=by omega
  clear g f;by_cases j:(k:Int)<16
  .
   obtain⟨l,m⟩:=a.1 k (by omega);have c:=a.set (by omega);go_wp2_with (go_at_call 196;refine(xo _ _ _ (by omega) (by omega) (by omega) (by omega)).mono ?_;rintro e w' ⟨rfl,rfl⟩);go_roundw
   case rel=>exact⟨k+1,by omega,by go_num,c,ah b (a0a _) _⟩
   case measure=>simp[intOf];omega
  .
   have d:k=16:=by omega
   subst d;go_wp2;go_ret;exact⟨rfl,a,b⟩
theorem zb(b:Nat)(i:Int)(w:World)(h:iT w b 16)(i0:0<=i)(i1:i<16) :
  Calls prog 197 #[.int .u32 i,.pointer (some ⟨b,0,none⟩)] w fun e w'=>e = .returned (.int .u32 (shN 4 i.toNat:Nat))/\w'=w:=by
 obtain⟨k,rfl⟩:=a0t i0;rw[a0p];obtain⟨a,_⟩:=h.1 k (by omega);rw[a0e (by omega)]at a;go_enter func197,ntmps197;go_wp2;go_ret;exact⟨rfl,rfl⟩
theorem Lu(w:World)(v0 v1:Value)(t:TypeId):Two (w.alloc (.cells #[v0,v1] t)) w.heap.size v0 v1:=by
 refine⟨by simp,by simp,by simp,by simp,by simp⟩
end Go.Proofs.YtchidddpplangaaGreatDoor
