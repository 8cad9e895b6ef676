/- Texts. -/
import Derived.Test.YtckocaibjciplaaGreatDoorRows
import Derived.WalkSpells
import Derived.Test.YtckocaibjciplaaGreatDoorM2
import Derived.Test.YtckocaibjciplaaGreatDoorM1
set_option linter.all false
set_option maxHeartbeats 400000
namespace Go.Proofs.YtckocaibjciplaaGreatDoor
open Go.Proofs.Tryz
open Go.RowKit
def cE:prog.follows .mixedOrders=true:=by kernel_rfl
def cC{w:World}{o:Obj}:Below w.heap.size w (w.alloc o):=(Below.refl _ _).alloc (Nat.le_refl _) _
abbrev Ds(f:Nat)(a:Array Value)(w:World)(v:Value):Prop:=Calls prog f a w fun e w'=>e = .returned v/\Below w.heap.size w w'
def a0c := @Below.refl
def a0D := @underlying122
def a0N := @Below.heap_setCell
def a0X := @underlying22
def a1i := @Below.heap_alloc
def a1w := @underlying156
def a1D := @func275
def a1E := @ntmps275
def a1S := @underlying27
def a14 := @underlying5
def a15 := @underlying9
def a2d := @underlying3
def a2g := @underlying187
def a2z := @results50
def a2F := @func119
def a2G := @ntmps119
def a2S := @func140
def a2T := @ntmps140
def a2U := @func50
def a2V := @ntmps50
def a23 := @func107
def a24 := @ntmps107
def a27 := @run_convert_bytes_back
def a3b := @underlying249
def a3j := @underlying192
def a3l := @func84
def a3m := @ntmps84
def a3r := @func156
def a3s := @ntmps156
def a3t := @func177
def a3u := @ntmps177
def a3v := @func145
def a3w := @ntmps145
def a3y := @ntmps87
def a3C := @func212
def a3D := @ntmps212
def a3N := @ownsRow_setCell_below
def a3O := @underlying319
def a3Z := @ntmps95
def a32 := @ntmps49
def af{p:Prop}(h:p):Hid p:=h
def ae{p:Prop}(h:Hid p):p:=h
def aI{k:IntKind}{a b:Int}(h:a=b):Ending.returned (.int k a) = .returned (.int k b):=by rw[h]
def am{a b:Bool}(h:a=b):Ending.returned (.bool a) = .returned (.bool b):=by rw[h]
def inB(n lo hi:Int):Bool:=decide (lo<=n)&&decide (n<=hi)
def aG{n lo a:Int} : inB n lo a=true<->lo<=n/\n<=a:=by simp[inB]
def eJ{n lo a:Int} : inB n lo a=false<->n<lo∨a<n:=by
 rw[←a2Y,aG];omega
def aS(n lo a:Int)(w:World) :
  Calls prog 46 #[n,lo,a] w fun e w'=>e = .returned (.bool (inB n lo a))/\w'=w:=by
 by_cases h:lo<=n
 . go_enter func46,ntmps46;go_wp2;go_ret;exact⟨am (by simp[inB,h]),rfl⟩
 . go_enter func46,ntmps46;go_wp2;go_ret;exact⟨am (by simp[inB];omega),rfl⟩
def cO:List UInt8->Nat
 | []=>0
 | b :: l=>b.toNat+256*cO l
def jb(a b:List UInt8):cO (a++b)=cO a+2 ^ (8*a.length)*cO b:=by
 induction a with
 | nil=>simp[cO]
 | cons x a ih=>
  simp only[a1m,cO,ih,a0B];have e:2 ^ (8*(a.length+1))=256*2 ^ (8*a.length):=by rw[a2m,a0S,a1h]
  rw[e,a2m,a1J];omega
def qA(l:List UInt8):cO l<2 ^ (8*l.length):=by
 induction l with
 | nil=>simp[cO]
 | cons x l ih=>
  simp only[cO,a0B];have e:2 ^ (8*(l.length+1))=256*2 ^ (8*l.length):=by rw[a2m,a0S,a1h]
  rw[e];have:=x.toNat_lt;omega
def DF(l:List UInt8)(j:Nat):cO l/2 ^ (8*j)%256=(l.getD j 0).toNat:=by
 induction l generalizing j with
 | nil=>simp[cO]
 | cons x l ih=>
  have a:=x.toNat_lt;cases j with
  | zero=>
   simp only[cO,Nat.mul_zero,Nat.pow_zero,Nat.div_one,List.getD_cons_zero];omega
  | succ j=>
   simp only[cO,a2C];rw[←ih j,show 8*(j+1)=8+8*j by omega,a0S,←a1T]
   congr 2
   show(x.toNat+256*cO l)/256=cO l;omega
def QC(l:List UInt8)(p:Nat):(l.getD (p/8) 0).toNat/2 ^ (p%8)%2=cO l/2 ^ p%2:=by
 rw[←DF];have e8:256=2 ^ (p%8)*2 ^ (8-p%8):=by
  rw[←a0S,show p%8+(8-p%8)=8 by omega]
 have e2:2∣2 ^ (8-p%8):=by
  rw[show 8-p%8=(7-p%8)+1 by omega,a1r];exact Nat.dvd_mul_left _ _
 rw[e8,a3n,Nat.mod_mod_of_dvd _ e2,a1T,←a0S,show 8*(p/8)+p%8=p by omega]
def KQ(l:List UInt8)(p:Nat)(h:8*l.length<=p):cO l/2 ^ p%2=0:=by
 rw[a1U (a0l (qA l) (a0Q (by omega) h))]
def bC:List Nat:=[16,17,18,0,8,7,9,6,10,5,11,4,12,3,13,2,14,1,15]
def xS(n:Int)(w:World) :
  Calls prog 146 #[n] w fun e w'=>e = .returned (.bool (inB n 0 4294967295))/\w'=w:=by
 by_cases h:0<=n
 . go_enter func146,ntmps146;go_wp2;go_ret;exact⟨am (by simp[inB,h]),rfl⟩
 . go_enter func146,ntmps146;go_wp2;go_ret;exact⟨am (by simp[inB];omega),rfl⟩
open Corb
def Qa(x:Nat)(h:x<4294967296):bits .and .u32 (x:Int) 1=(x:Int)%2:=by
 have:=u32_and_nat x 1 h (by omega);rw[show((1:Nat):Int)=1 from rfl]at this;rw[this,nat_mask1];omega
def DC(x:Nat)(h:x<4294967296):bits .xor .u32 ((x:Int)/2) 3988292384=((x/2 ^^^ 3988292384:Nat):Int):=by
 have:=a2D (x/2) 3988292384 (by omega) (by omega);rw[show((x/2:Nat):Int)=(x:Int)/2 by omega]at this;exact this
def Ns(x:Nat)(h:x%2=1):sh x=x/2 ^^^ 3988292384:=a0d h
def GK(x:Nat)(h:¬ x%2=1):sh x=x/2:=a0e h
def yF(r n:Int)(w:World)(d:0<=r)(o:r<4294967296)(b:0<=n)(l:n<=1000000) :
  Calls prog 178 #[.int .u32 r,n] w fun e w'=>e = .returned (.int .u32 (shN n.toNat r.toNat:Nat))/\w'=w:=by
 obtain⟨R,rfl⟩:=a0p d;obtain⟨m,rfl⟩:=a0p b;rw[a0o,a0o];go_enter func178,ntmps178;go_wp2
 go_loop [0,6] (fun x i=>∃k:Nat,k<=m/\i = .int .i64 k/\x = .int .u32 (shN k R:Nat)) (fun _ i=>m-(intOf i).toNat)
 case atStart=>exact⟨0,a0g _,rfl,rfl⟩
 case round=>
  obtain⟨k,q,rfl,rfl⟩:=hrel;have g:=vP k R (by omega);have f:=af (xO k R);by_cases j:k<m
  .
   generalize h:shN k R=x at *
   clear h;have p:=Qa x g;have h2:=DC x g;by_cases a:x%2=1
   .
    have c:(x:Int)%2=1:=by omega
    have H:=af a;clear a;go_wp2
    go_round
    case rel=>exact⟨k+1,by omega,by go_num,by rw[ae f,Ns x H]⟩
    case measure=>simp[intOf];omega
   .
    have c:(x:Int)%2=0:=by omega
    have H:=af a;clear a;go_wp2
    go_round
    case rel=>exact⟨k+1,by omega,by go_num,by rw[ae f,GK x H];rfl⟩
    case measure=>simp[intOf];omega
  . go_wp2;go_ret;exact⟨aI (by rw[show k=m by omega]),rfl⟩
def qy(x:Nat)(b:Nat)(h:x<4294967296)(hb:b<256):bits .xor .u32 (x:Int) (b:Int)=((x ^^^ b:Nat):Int):=
 a2D x b h (by omega)
def EO(c b:Int)(w:World)(h:0<=c)(s:c<4294967296)(f:0<=b)(r:b<256) :
  Calls prog 152 #[.int .u32 c,.int .u8 b] w fun e w'=>e = .returned (.int .u32 (shN 8 (c.toNat ^^^ b.toNat):Nat))/\w'=w:=by
 obtain⟨R,rfl⟩:=a0p h;obtain⟨B,rfl⟩:=a0p f;rw[a0o,a0o];have j:=qy R B (by omega) (by omega);have a:R ^^^ B<4294967296:=a1I (n:=32) (by omega) (by omega);generalize R ^^^ B=X at *
 go_enter func152,ntmps152;go_wp2
 go_loop [0,5] (fun x i=>∃k:Nat,k<=8/\i = .int .i64 k/\x = .int .u32 (shN k X:Nat)) (fun _ i=>8-(intOf i).toNat)
 case atStart=>exact⟨0,by omega,rfl,rfl⟩
 case round=>
  obtain⟨k,o,rfl,rfl⟩:=hrel;have t:=vP k X a;have p:(k:Int)<=8:=by omega
  clear o;have l:=af (xO k X);clear j a;by_cases q:(k:Int)<8
  .
   generalize m:shN k X=x at *
   clear m;have h2:=DC x t;by_cases d:x%2=1
   .
    have g:(x:Int)%2=1:=by omega
    have H:=af d;clear d;go_wp2
    go_round
    case rel=>exact⟨k+1,by omega,by go_num,by rw[ae l,Ns x H]⟩
    case measure=>simp[intOf];omega
   .
    have g:(x:Int)%2=0:=by omega
    have H:=af d;clear d;go_wp2
    go_round
    case rel=>exact⟨k+1,by omega,by go_num,by rw[ae l,GK x H];rfl⟩
    case measure=>simp[intOf];omega
  . go_wp2;go_ret;exact⟨aI (by rw[show k=8 by omega]),rfl⟩
def xW(s:ByteArray)(k:Nat)(h:k<s.size):s.data.toList.take (k+1)=s.data.toList.take k++[s[k]]:=by
 rw[a1e (by simpa using h)];rfl
def xd(c:Nat)(l:List UInt8)(b:UInt8):fold c (l++[b])=shN 8 (fold c l ^^^ b.toNat):=by
 rw[AQ];rfl
def EM(c:Int)(s:ByteArray)(w:World)(m:0<=c)(q:c<4294967296)(p:s.size<=maxLen) :
  Calls prog 117 #[.int .u32 c,s] w fun e w'=>e = .returned (.int .u32 (aC c.toNat s.data.toList:Nat))/\w'=w:=by
 obtain⟨C,rfl⟩:=a0p m;rw[a0o];unfold maxLen at p;have g:bits .xor .u32 (C:Int) 4294967295=((C ^^^ full:Nat):Int):=a2D C 4294967295 (by omega) (by omega);have a:C ^^^ full<4294967296:=a1I (n:=32) (by omega) (by decide);have l:Hid (aC C s.data.toList=fold (C ^^^ full) s.data.toList ^^^ full):=rfl;generalize C ^^^ full=X at *
 generalize b:aC C s.data.toList=F at *
 clear b;go_enter func117,ntmps117;go_wp2
 go_loop [5,6] (fun c i=>∃k:Nat,k<=s.size/\i = .int .i64 k/\c = .int .u32 (fold X (s.data.toList.take k):Nat)) (fun _ i=>s.size-(intOf i).toNat)
 case atStart=>exact⟨0,a0g _,rfl,rfl⟩
 case round=>
  obtain⟨k,r,rfl,rfl⟩:=hrel;have o:=yQ X (s.data.toList.take k) a;by_cases d:k<s.size
  .
   have f:Hid (fold X (s.data.toList.take (k+1))=shN 8 (fold X (s.data.toList.take k) ^^^ s[k].toNat)):=by
    rw[xW s k d,xd];exact rfl
   have hb:(s[k].toNat:Int)<256:=by have:=yB s[k];omega
   generalize fold X (s.data.toList.take k)=x at *
   clear g a;go_wp2_with (go_at_call 152;refine(EO _ _ _ (by omega) (by omega) (by omega) (by omega)).mono ?_;rintro e w'⟨rfl,rfl⟩)
   go_round
   case rel=>exact⟨k+1,by omega,by go_num,by rw[ae f]⟩
   case measure=>simp[intOf];omega
  .
   have t:bits .xor .u32 ((fold X (s.data.toList.take k):Nat):Int) 4294967295=((fold X (s.data.toList.take k) ^^^ full:Nat):Int):=a2D _ 4294967295 o (by omega);have j:Hid (fold X (s.data.toList.take k) ^^^ full=F):=by
    have h:=ae l;rw[h,a0u (by simp;omega)];exact rfl
   generalize fold X (s.data.toList.take k) ^^^ full=v at *
   generalize fold X (s.data.toList.take k)=x at *
   clear g a;go_wp2;go_ret;exact⟨aI (by rw[ae j]),rfl⟩
def sL(s:ByteArray)(w:World)(a:s.size<=maxLen) :
  Calls prog 85 #[s] w fun e w'=>e = .returned (.int .i64 (aC 0 s.data.toList:Nat))/\w'=w:=by
 have hb:aC 0 s.data.toList<4294967296:=gt _ _ (by omega);go_enter func85,ntmps85;go_wp2_with (go_at_call 117;refine(EM _ _ _ (by omega) (by omega) a).mono ?_;rintro e w'⟨rfl,rfl⟩);go_ret;exact⟨rfl,rfl⟩
def cmI(c:Int)(l:List UInt8):Int:=if inB c 0 4294967295=true then(aC c.toNat l:Nat)else -1
def Ga{c:Int}{l:List UInt8}(h:inB c 0 4294967295=true):cmI c l=(aC c.toNat l:Nat):=a0d h
def QI{c:Int}{l:List UInt8}(h:inB c 0 4294967295=false):cmI c l = -1:=a0e (by simp[h])
def dm{a b:ByteArray}(h:a.data.toList=b.data.toList):a=b:=ByteArray.ext (Array.toList_inj.1 h)
