/- Texts. -/
import Derived.Test.YtfannoajibacnaaGreatDoorRows
import Derived.WalkSpells
import Derived.Test.YtfannoajibacnaaGreatDoorM2
set_option linter.all false
set_option maxHeartbeats 400000
namespace Go.Proofs.YtfannoajibacnaaGreatDoor
open Go.Proofs.Tryz
open Go.RowKit
def cE:prog.follows .mixedOrders=true:=by kernel_rfl
def cC{w:World}{o:Obj}:Below w.heap.size w (w.alloc o):=(Below.refl _ _).alloc (Nat.le_refl _) _
abbrev Ds(f:Nat)(a:Array Value)(w:World)(v:Value):Prop:=Calls prog f a w fun e w'=>e = .returned v/\Below w.heap.size w w'
def a0c := @Below.refl
def a0F := @underlying129
def a0M := @Below.heap_setCell
def a01 := @underlying22
def a1h := @underlying31
def a1k := @Below.heap_alloc
def a1C := @underlying164
def a1N := @func284
def a1O := @ntmps284
def a10 := @underlying3
def a16 := @underlying5
def a17 := @underlying9
def a2m := @underlying195
def a2C := @results58
def a2J := @func96
def a2K := @ntmps96
def a20 := @func152
def a22 := @ntmps152
def a23 := @func58
def a24 := @ntmps58
def a3a := @func89
def a3b := @ntmps89
def a3c := @results83
def a3e := @run_convert_bytes_back
def a3j := @underlying258
def a3q := @underlying200
def a3s := @func94
def a3t := @ntmps94
def a3z := @func168
def a3A := @ntmps168
def a3B := @func162
def a3C := @ntmps162
def a3D := @func128
def a3E := @ntmps128
def a3G := @ntmps60
def a3K := @func226
def a3L := @ntmps226
def a3V := @ownsRow_setCell_below
def a3W := @underlying326
def a34 := @results45
def a36 := @func104
def a38 := @ntmps104
def a4a := @ntmps57
def a4c := @ntmps21
def af{p:Prop}(h:p):Hid p:=h
def ae{p:Prop}(h:Hid p):p:=h
def aJ{k:IntKind}{a b:Int}(h:a=b):Ending.returned (.int k a) = .returned (.int k b):=by rw[h]
def am{a b:Bool}(h:a=b):Ending.returned (.bool a) = .returned (.bool b):=by rw[h]
def inB(n lo hi:Int):Bool:=decide (lo<=n)&&decide (n<=hi)
def aI{n lo a:Int} : inB n lo a=true<->lo<=n/\n<=a:=by simp[inB]
def fs{n lo a:Int} : inB n lo a=false<->n<lo∨a<n:=by
 rw[←a27,aI];omega
def aU(n lo a:Int)(w:World) :
  Calls prog 54 #[n,lo,a] w fun e w'=>e = .returned (.bool (inB n lo a))/\w'=w:=by
 by_cases h:lo<=n
 . go_enter func54,ntmps54;go_wp2;go_ret;exact⟨am (by simp[inB,h]),rfl⟩
 . go_enter func54,ntmps54;go_wp2;go_ret;exact⟨am (by simp[inB];omega),rfl⟩
def di:List UInt8->Nat
 | []=>0
 | b :: l=>b.toNat+256*di l
def jK(a b:List UInt8):di (a++b)=di a+2 ^ (8*a.length)*di b:=by
 induction a with
 | nil=>simp[di]
 | cons x a ih=>
  simp only[a1q,di,ih,a0C];have e:2 ^ (8*(a.length+1))=256*2 ^ (8*a.length):=by rw[a2r,a0T,a1j]
  rw[e,a2r,a1R];omega
def r9(l:List UInt8):di l<2 ^ (8*l.length):=by
 induction l with
 | nil=>simp[di]
 | cons x l ih=>
  simp only[di,a0C];have e:2 ^ (8*(l.length+1))=256*2 ^ (8*l.length):=by rw[a2r,a0T,a1j]
  rw[e];have:=x.toNat_lt;omega
def FP(l:List UInt8)(j:Nat):di l/2 ^ (8*j)%256=(l.getD j 0).toNat:=by
 induction l generalizing j with
 | nil=>simp[di]
 | cons x l ih=>
  have a:=x.toNat_lt;cases j with
  | zero=>
   simp only[di,Nat.mul_zero,Nat.pow_zero,Nat.div_one,List.getD_cons_zero];omega
  | succ j=>
   simp only[di,a2G];rw[←ih j,show 8*(j+1)=8+8*j by omega,a0T,←a1Y]
   congr 2
   show(x.toNat+256*di l)/256=di l;omega
def TI(l:List UInt8)(p:Nat):(l.getD (p/8) 0).toNat/2 ^ (p%8)%2=di l/2 ^ p%2:=by
 rw[←FP];have e8:256=2 ^ (p%8)*2 ^ (8-p%8):=by
  rw[←a0T,show p%8+(8-p%8)=8 by omega]
 have e2:2∣2 ^ (8-p%8):=by
  rw[show 8-p%8=(7-p%8)+1 by omega,a1x];exact Nat.dvd_mul_left _ _
 rw[e8,a3u,Nat.mod_mod_of_dvd _ e2,a1Y,←a0T,show 8*(p/8)+p%8=p by omega]
def Nk(l:List UInt8)(p:Nat)(h:8*l.length<=p):di l/2 ^ p%2=0:=by
 rw[a1Z (a0h (r9 l) (a0P (by omega) h))]
def bK:List Nat:=[16,17,18,0,8,7,9,6,10,5,11,4,12,3,13,2,14,1,15]
def zP(n:Int)(w:World) :
  Calls prog 157 #[n] w fun e w'=>e = .returned (.bool (inB n 0 4294967295))/\w'=w:=by
 by_cases h:0<=n
 . go_enter func157,ntmps157;go_wp2;go_ret;exact⟨am (by simp[inB,h]),rfl⟩
 . go_enter func157,ntmps157;go_wp2;go_ret;exact⟨am (by simp[inB];omega),rfl⟩
open Corb
def S9(x:Nat)(h:x<4294967296):bits .and .u32 (x:Int) 1=(x:Int)%2:=by
 have:=u32_and_nat x 1 h (by omega);rw[show((1:Nat):Int)=1 from rfl]at this;rw[this,nat_mask1];omega
def FN(x:Nat)(h:x<4294967296):bits .xor .u32 ((x:Int)/2) 3988292384=((x/2 ^^^ 3988292384:Nat):Int):=by
 have:=a2H (x/2) 3988292384 (by omega) (by omega);rw[show((x/2:Nat):Int)=(x:Int)/2 by omega]at this;exact this
def Qh(x:Nat)(h:x%2=1):sh x=x/2 ^^^ 3988292384:=a0d h
def JE(x:Nat)(h:¬ x%2=1):sh x=x/2:=a0e h
def Ay(r n:Int)(w:World)(d:0<=r)(o:r<4294967296)(b:0<=n)(l:n<=1000000) :
  Calls prog 189 #[.int .u32 r,n] w fun e w'=>e = .returned (.int .u32 (shN n.toNat r.toNat:Nat))/\w'=w:=by
 obtain⟨R,rfl⟩:=a0r d;obtain⟨m,rfl⟩:=a0r b;rw[a0n,a0n];go_enter func189,ntmps189;go_wp2
 go_loop [0,6] (fun x i=>∃k:Nat,k<=m/\i = .int .i64 k/\x = .int .u32 (shN k R:Nat)) (fun _ i=>m-(intOf i).toNat)
 case atStart=>exact⟨0,a0g _,rfl,rfl⟩
 case round=>
  obtain⟨k,q,rfl,rfl⟩:=hrel;have g:=xR k R (by omega);have f:=af (zL k R);by_cases j:k<m
  .
   generalize h:shN k R=x at *;clear h;have p:=S9 x g;have h2:=FN x g;by_cases a:x%2=1
   .
    have c:(x:Int)%2=1:=(by omega);have H:=af a;clear a;go_wp2
    go_round
    case rel=>exact⟨k+1,by omega,by go_num,by rw[ae f,Qh x H]⟩
    case measure=>simp[intOf];omega
   .
    have c:(x:Int)%2=0:=(by omega);have H:=af a;clear a;go_wp2
    go_round
    case rel=>exact⟨k+1,by omega,by go_num,by rw[ae f,JE x H];rfl⟩
    case measure=>simp[intOf];omega
  . go_wp2;go_ret;exact⟨aJ (by rw[show k=m by omega]),rfl⟩
def rY(x:Nat)(b:Nat)(h:x<4294967296)(hb:b<256):bits .xor .u32 (x:Int) (b:Int)=((x ^^^ b:Nat):Int):=
 a2H x b h (by omega)
def GW(c b:Int)(w:World)(h:0<=c)(s:c<4294967296)(f:0<=b)(r:b<256) :
  Calls prog 164 #[.int .u32 c,.int .u8 b] w fun e w'=>e = .returned (.int .u32 (shN 8 (c.toNat ^^^ b.toNat):Nat))/\w'=w:=by
 obtain⟨R,rfl⟩:=a0r h;obtain⟨B,rfl⟩:=a0r f;rw[a0n,a0n];have j:=rY R B (by omega) (by omega);have a:R ^^^ B<4294967296:=a1Q (n:=32) (by omega) (by omega);generalize R ^^^ B=X at *;go_enter func164,ntmps164;go_wp2
 go_loop [0,5] (fun x i=>∃k:Nat,k<=8/\i = .int .i64 k/\x = .int .u32 (shN k X:Nat)) (fun _ i=>8-(intOf i).toNat)
 case atStart=>exact⟨0,by omega,rfl,rfl⟩
 case round=>
  obtain⟨k,o,rfl,rfl⟩:=hrel;have t:=xR k X a;have p:(k:Int)<=8:=by omega
  clear o;have l:=af (zL k X);clear j a;by_cases q:(k:Int)<8
  .
   generalize m:shN k X=x at *;clear m;have h2:=FN x t;by_cases d:x%2=1
   .
    have g:(x:Int)%2=1:=(by omega);have H:=af d;clear d;go_wp2
    go_round
    case rel=>exact⟨k+1,by omega,by go_num,by rw[ae l,Qh x H]⟩
    case measure=>simp[intOf];omega
   .
    have g:(x:Int)%2=0:=(by omega);have H:=af d;clear d;go_wp2
    go_round
    case rel=>exact⟨k+1,by omega,by go_num,by rw[ae l,JE x H];rfl⟩
    case measure=>simp[intOf];omega
  . go_wp2;go_ret;exact⟨aJ (by rw[show k=8 by omega]),rfl⟩
def zT(s:ByteArray)(k:Nat)(h:k<s.size):s.data.toList.take (k+1)=s.data.toList.take k++[s[k]]:=by
 rw[a1e (by simpa using h)];rfl
def zf(c:Nat)(l:List UInt8)(b:UInt8):fold c (l++[b])=shN 8 (fold c l ^^^ b.toNat):=by
 rw[DF];rfl
def GV(c:Int)(s:ByteArray)(w:World)(m:0<=c)(q:c<4294967296)(p:s.size<=maxLen) :
  Calls prog 130 #[.int .u32 c,s] w fun e w'=>e = .returned (.int .u32 (aE c.toNat s.data.toList:Nat))/\w'=w:=by
 obtain⟨C,rfl⟩:=a0r m;rw[a0n];unfold maxLen at p;have g:bits .xor .u32 (C:Int) 4294967295=((C ^^^ full:Nat):Int):=a2H C 4294967295 (by omega) (by omega);have a:C ^^^ full<4294967296:=a1Q (n:=32) (by omega) (by decide);have l:Hid (aE C s.data.toList=fold (C ^^^ full) s.data.toList ^^^ full):=rfl;generalize C ^^^ full=X,b:aE C s.data.toList=F at *;clear b;go_enter func130,ntmps130;go_wp2
 go_loop [5,6] (fun c i=>∃k:Nat,k<=s.size/\i = .int .i64 k/\c = .int .u32 (fold X (s.data.toList.take k):Nat)) (fun _ i=>s.size-(intOf i).toNat)
 case atStart=>exact⟨0,a0g _,rfl,rfl⟩
 case round=>
  obtain⟨k,r,rfl,rfl⟩:=hrel;have o:=AX X (s.data.toList.take k) a;by_cases d:k<s.size
  .
   have f:Hid (fold X (s.data.toList.take (k+1))=shN 8 (fold X (s.data.toList.take k) ^^^ s[k].toNat)):=by
    rw[zT s k d,zf];exact rfl
   have hb:(s[k].toNat:Int)<256:=by have:=Au s[k];omega
   generalize fold X (s.data.toList.take k)=x at *;clear g a;go_wp2_with (go_at_call 164;apply(GW _ _ _ (by omega) (by omega) (by omega) (by omega)).mono;rintro e w'⟨rfl,rfl⟩)
   go_round
   case rel=>exact⟨k+1,by omega,by go_num,by rw[ae f]⟩
   case measure=>simp[intOf];omega
  .
   have t:bits .xor .u32 ((fold X (s.data.toList.take k):Nat):Int) 4294967295=((fold X (s.data.toList.take k) ^^^ full:Nat):Int):=a2H _ 4294967295 o (by omega);have j:Hid (fold X (s.data.toList.take k) ^^^ full=F):=by
    have h:=ae l;rw[h,a0t (by simp;omega)];exact rfl
   generalize fold X (s.data.toList.take k) ^^^ full=v,fold X (s.data.toList.take k)=x at *;clear g a;go_wp2;go_ret;exact⟨aJ (by rw[ae j]),rfl⟩
def uu(s:ByteArray)(w:World)(a:s.size<=maxLen) :
  Calls prog 95 #[s] w fun e w'=>e = .returned (.int .i64 (aE 0 s.data.toList:Nat))/\w'=w:=by
 have hb:aE 0 s.data.toList<4294967296:=ig _ _ (by omega);go_enter func95,ntmps95;go_wp2_with (go_at_call 130;apply(GV _ _ _ (by omega) (by omega) a).mono;rintro e w'⟨rfl,rfl⟩);go_ret;exact⟨rfl,rfl⟩
def cmI(c:Int)(l:List UInt8):Int:=if inB c 0 4294967295=true then(aE c.toNat l:Nat)else -1
def I4{c:Int}{l:List UInt8}(h:inB c 0 4294967295=true):cmI c l=(aE c.toNat l:Nat):=a0d h
def TP{c:Int}{l:List UInt8}(h:inB c 0 4294967295=false):cmI c l = -1:=a0e (by simp[h])
def ck{a b:ByteArray}(h:a.data.toList=b.data.toList):a=b:=ByteArray.ext (Array.toList_inj.1 h)
