/- Of what the proof is made: 3 texts, one behind the other. -/
import Derived.Test.YtbacpebljannfaaGreatDoorM7
import Derived.Test.YtbacpebljannfaaGreatDoorRb1
import Derived.Test.YtbacpebljannfaaGreatDoorM3
set_option linter.unusedSimpArgs false
set_option maxHeartbeats 1600000
namespace Go.Proofs.YtbacpebljannfaaGreatDoor
open Go.RowKit Corb
def pu:List Int:=[0,0,0,0,0,0,0,0,1,1,1,1,2,2,2,2,3,3,3,3,4,4,4,4,5,5,5,5]
def o0:List Int:=[0,0,0,0,1,1,2,2,3,3,4,4,5,5,6,6,7,7,8,8,9,9,10,10,11,11,12,12,13,13]
theorem rf{w:World}(cs:Array Value)(n:Nat)(l:List Int)(hl:l.map (Value.int .i64)=cs.toList)(hn:l.length=n)(hm:n<=maxLen):ak (w.alloc (.cells cs 3)) w.heap.size (.slice (some ⟨w.heap.size,0,none⟩) n n) l:=by
 subst hn;have hs:cs.size=l.length*1:=by
  have:=congrArg List.length hl;simpa using this.symm
 have:=a06 (base:=w.heap.size) (e:=3) (size:=1) w cs l.length (a0a _) hm hs;show World.ownsRow _ _ _ _ _ _ _;rw[hl];exact this
theorem uu(w:World) :
  Calls Tryz.prog 163 #[] w fun e w'=>e = .returned (.slice (some ⟨w.heap.size,0,none⟩) 28 28)/\ak w' w.heap.size (.slice (some ⟨w.heap.size,0,none⟩) 28 28) pu/\Below w.heap.size w w':=by
 go_enter Tryz.func163,Tryz.ntmps163;go_wp2;go_ret;exact⟨rfl,rf _ 28 pu rfl rfl (by unfold maxLen;omega),(a0c _ _).alloc (a0a _) _⟩
theorem tK(w:World) :
  Calls Tryz.prog 164 #[] w fun e w'=>e = .returned (.slice (some ⟨w.heap.size,0,none⟩) 30 30)/\ak w' w.heap.size (.slice (some ⟨w.heap.size,0,none⟩) 30 30) o0/\Below w.heap.size w w':=by
 go_enter Tryz.func164,Tryz.ntmps164;go_wp2;go_ret;exact⟨rfl,rf _ 30 o0 rfl rfl (by unfold maxLen;omega),(a0c _ _).alloc (a0a _) _⟩
def ko(l:List Int)(f:Int):Nat->Int
 | 0=>f
 | k+1=>ko l f k+(p2 (l.getD k 0).toNat:Nat)
def jb(l:List Int)(f:Int)(k:Nat):List Int:=(List.range k).map (ko l f)
theorem oa(l:List Int)(f:Int)(k:Nat):(jb l f k).length=k:=by simp[jb]
theorem xD(l:List Int)(f:Int)(k:Nat):jb l f (k+1)=jb l f k++[ko l f k]:=by simp[jb,List.range_succ]
set_option maxRecDepth 100000 in
theorem qS(a:Option Addr)(cap n:Nat)(l:List Int)(f:Int)(w:World)(hn:l.length=n)(h:aZ w a l)(hm:(n:Int)<=30)(hb:∀i,i<n->0<=l.getD i 0/\l.getD i 0<=16)(hf:∀k,k<=n->0<=ko l f k/\ko l f k<=100000) :
  Calls Tryz.prog 162 #[.slice a n cap,.int .i64 f] w fun e w'=>∃v,e = .returned v/\ak w' w.heap.size v (jb l f n)/\Below w.heap.size w w':=by
 obtain⟨i0,hi,hz0,hz1,hz2⟩:=a0x Tryz.infoInt;have hq0:Hid (ak (w.alloc (.cells #[] 3)) w.heap.size (.slice (some ⟨w.heap.size,0,none⟩) 0 0) (jb l f 0)):=ak.lit _ _ (a0a _);have hb0:Hid (Below w.heap.size w (w.alloc (.cells #[] 3))):=(a0c _ _).alloc (a0a _) _;have HH:=af h;have Hn:=af hn;have HB:=af hb;have HF:=af hf;have H0:Hid (ko l f 0=f):=rfl;clear h hn hb hf;go_enter Tryz.func162,Tryz.ntmps162;go_wp2_with fail
 go_loopw [1,5,6] (fun fr v i wr=>∃k:Nat,k<=n/\i = .int .i64 k/\fr = .int .i64 (ko l f k)/\ak wr w.heap.size v (jb l f k)/\Below w.heap.size w wr) (fun _ _ i _=>n-(intOf i).toNat)
 case atStart=>exact⟨0,a0m _,rfl,rfl,ae hq0,ae hb0⟩
 case round=>
  obtain⟨k,hk,rfl,rfl,hq,hbel⟩:=hrel;have hlen:Hid ((jb l f k).length=k):=oa l f k;obtain⟨va,vc,rfl⟩:=hq.formN (ae hlen);have hkI:(k:Int)<=30:=by omega
  have HK:=af hk;by_cases hlt:k<n
  ·
   have hltI:(k:Int)<(n:Int):=by omega
   have hst:Hid (jb l f k++[ko l f k]=jb l f (k+1)):=(xD l f k).symm;have hsf:Hid (ko l f (k+1)=ko l f k+(p2 (l.getD k 0).toNat:Nat)):=rfl;have bd:Hid (k+1<=maxLen/\(k+1)*8<=140737488355328):=by show _/\_;unfold maxLen;omega
   obtain⟨f0,f1⟩:=ae HF k (by omega);obtain⟨f2,f3⟩:=ae HF (k+1) (by omega);rw[ae hsf]at f2 f3;obtain⟨y0,y1⟩:=ae HB k hlt;have hqo:=af (hq.own (ae hlen));have HBel:=af hbel;have hbs:=hbel.size;obtain⟨g,o,rfl,hg,hc⟩:=(ae HH) (by rw[ae Hn];omega);have c0:=hc k (by rw[ae Hn];exact hlt);have HC:Hid (∀W,Below w.heap.size w W->W.cell? ⟨g,o+k,none⟩=some (.int .i64 (l.getD k 0))):=fun W hW=>(hW.cell (p:=⟨g,o+k,none⟩) hg).trans c0;have y2:l.getD k 0<=60:=by omega
   have HPw:=af (fun W=>oI (l.getD k 0) W y2);clear hq hbel hk hc c0 HH;generalize hF:ko l f k=F at *
   generalize hY:l.getD k 0=Y at *
   clear hF hY;generalize hP:p2 Y.toNat=P at *
   clear hP;go_wp2_with (first
    | (at_builtin;refine a0A _ rfl _ _ 84 rfl w.heap.size 3 i0 (.int .i64 0) 1 8 a0h hi hz0 hz1 hz2 rfl (by decide) (.slice va k vc) _ _ rfl (a0p (ae hqo) _) ⟨wr.heap.size,0,none⟩ 1 1 [.int .i64 F] rfl rfl (cO _ _ rfl _ _) (eU _) (ae bd).1 (ae bd).2 (ay hbs _) ?_;intro v' x2 hown hgrow hnil;clear hnil;have hb2:=aF (v:=.slice va k vc) hgrow (ae hqo) (a0a _) hbs (ae HBel);have hcc:=ae HC x2 hb2;clear hgrow)
    | (go_at_call 160;refine(ae HPw _).mono ?_;rintro e w' ⟨rfl,hw⟩;rw[hw];clear hw))
   have hq2:=eZ (ae hlen) hown;rw[ae hst]at hq2;clear hown;go_roundw
   case rel=>exact⟨k+1,by omega,by go_num,by rw[ae hsf],hq2,hb2⟩
   case measure=>simp[intOf];omega
  ·
   obtain rfl:k=n:=by omega
   go_wp2;go_ret;exact⟨_,rfl,hq,hbel⟩
def lq(l:List Int)(num:Int):Nat->Nat->Nat
 | 0,k=>k
 | f+1,k=>if k+1<l.length/\l.getD (k+1) 0<=num then lq l num f (k+1)else k
def wW(l:List Int)(num:Int):Nat:=lq l num l.length 0
theorem Cc{l:List Int}{num:Int}{f k:Nat}(h:¬ (k+1<l.length/\l.getD (k+1) 0<=num)):lq l num f k=k:=by
 cases f with
 | zero=>rfl
 | succ f=>simp only[lq];rw[a0e h]
theorem Cb{l:List Int}{num:Int}{f k:Nat}(h:k+1<l.length/\l.getD (k+1) 0<=num):lq l num (f+1) k=lq l num f (k+1):=by simp only[lq];rw[a0d h]
set_option maxRecDepth 100000 in
theorem lM(a:Option Addr)(cap n:Nat)(l:List Int)(num:Int)(w:World)(hn:l.length=n)(h:aZ w a l)(hm:(n:Int)<=30)(h1:1<=n) :
  Calls Tryz.prog 166 #[.slice a n cap,.int .i64 num] w fun e w'=>e = .returned (.int .i64 (wW l num:Nat))/\w'=w:=by
 have Hst:=af (fun f k=>@Cc l num f k);have Hsp:=af (fun f k=>@Cb l num f k);have H0:Hid (wW l num=lq l num n 0):=by show wW l num=_;unfold wW;rw[hn]
 rw[hn]at Hst Hsp;have Hn:=af hn;obtain⟨g,o,rfl,hg,hc⟩:=h (by omega);have HC:=af hc;rw[hn]at HC;have h1I:(1:Int)<=(n:Int):=by omega
 clear hn h hc;go_enter Tryz.func166,Tryz.ntmps166;go_wp2_with fail
 go_loop [5] (fun i=>∃k:Nat,k<n/\i = .int .i64 k/\lq l num n 0=lq l num (n-k) k) (fun i=>n-(intOf i).toNat)
 case atStart=>exact⟨0,by omega,rfl,rfl⟩
 case round=>
  obtain⟨k,hk,rfl,he⟩:=hrel;have HE:=af he;clear he;have hkI:(k:Int)<(n:Int):=by omega
  obtain⟨K,hK⟩:∃K:Int,(k:Int)+1=K:=⟨_,rfl⟩;by_cases hlt:k+1<n
  ·
   have hltI:(k:Int)+1<(n:Int):=by omega
   have c0:=ae HC (k+1) hlt;have hd1:decide ((k:Int)+1<(n:Int))=true:=by simpa using hltI
   have hbd:(k:Int)+1<=30:=by omega
   have ek:((k+1:Nat):Int)=(k:Int)+1:=by omega
   by_cases hle:l.getD (k+1) 0<=num
   ·
    have HX:Hid (lq l num n 0=lq l num (n-(k+1)) (k+1)):=by
     show lq l num n 0=_;rw[ae HE,show n-k=(n-(k+1))+1 by omega];exact ae Hsp _ _ ⟨hlt,hle⟩
    have hd2:decide (l.getD (k+1) 0<=num)=true:=by simpa using hle
    generalize l.getD (k+1) 0=Y at *
    clear hK;go_wp2
    go_round
    case rel=>exact⟨k+1,by omega,by go_num,ae HX⟩
    case measure=>simp[intOf];omega
   ·
    have HX:Hid (lq l num n 0=k):=by
     show lq l num n 0=_;rw[ae HE];exact ae Hst _ _ (fun h=>hle h.2)
    have hd2:decide (l.getD (k+1) 0<=num)=false:=by simpa using hle
    generalize l.getD (k+1) 0=Y at *
    clear hK;go_wp2;go_ret;exact⟨aH (by rw[ae H0,ae HX]),rfl⟩
  ·
   have hltI:¬ (k:Int)+1<(n:Int):=by omega
   have hd1:decide ((k:Int)+1<(n:Int))=false:=by simpa using hltI
   have HX:Hid (lq l num n 0=k):=by
    show lq l num n 0=_;rw[ae HE];exact ae Hst _ _ (fun h=>hlt h.1)
   clear hK;go_wp2;go_ret;exact⟨aH (by rw[ae H0,ae HX]),rfl⟩
def jo:List Int:=jb pu 3 28
def ja:List Int:=jb o0 1 30
theorem DZ:jo=(List.range 28).map (fun k=>((stF 3 4 k).1:Int)):=by decide +kernel
theorem CJ:ja=(List.range 30).map (fun k=>((stF 1 2 k).1:Int)):=by decide +kernel
theorem D3:pu=(List.range 28).map (fun k=>((stF 3 4 k).2:Int)):=by decide +kernel
theorem CV:o0=(List.range 30).map (fun k=>((stF 1 2 k).2:Int)):=by decide +kernel
theorem Bv:(List.range 61).all (fun y=>decide (y<3) || decide (wW jo (y:Int)=fnd 3 4 y 27))=true:=by decide +kernel
theorem Ak:(List.range 251).all (fun z=>decide (z<1) || decide (wW ja (z:Int)=fnd 1 2 z 29))=true:=by decide +kernel
theorem wj(y:Nat)(h0:3<=y)(h1:y<=60):wW jo (y:Int)=fnd 3 4 y 27:=by
 have:=a1h.1 Bv y (List.mem_range.2 (by omega));simp only[a1s,a0F]at this;rcases this with h|h
 · omega
 · exact h
theorem uR(z:Nat)(h0:1<=z)(h1:z<=250):wW ja (z:Int)=fnd 1 2 z 29:=by
 have:=a1h.1 Ak z (List.mem_range.2 (by omega));simp only[a1s,a0F]at this;rcases this with h|h
 · omega
 · exact h
theorem jI(f:Nat->Int)(n k:Nat)(h:k<n):((List.range n).map f).getD k 0=f k:=by simp[List.getD,h]
theorem DY(k:Nat)(h:k<28):jo.getD k 0=((stF 3 4 k).1:Int):=by rw[DZ];exact jI _ _ _ h
theorem CI(k:Nat)(h:k<30):ja.getD k 0=((stF 1 2 k).1:Int):=by rw[CJ];exact jI _ _ _ h
theorem D2(k:Nat)(h:k<28):pu.getD k 0=((stF 3 4 k).2:Int):=by rw[D3];exact jI _ _ _ h
theorem CQ(k:Nat)(h:k<30):o0.getD k 0=((stF 1 2 k).2:Int):=by rw[CV];exact jI _ _ _ h
theorem kS(a:Option Addr)(cap:Nat)(w:World)(h:aZ w a pu) :
  Calls Tryz.prog 162 #[.slice a 28 cap,.int .i64 3] w fun e w'=>∃v,e = .returned v/\ak w' w.heap.size v jo/\Below w.heap.size w w':=
 qS a cap 28 pu 3 w rfl h (by omega) (by decide +kernel) (by decide +kernel)
theorem kR(a:Option Addr)(cap:Nat)(w:World)(h:aZ w a o0) :
  Calls Tryz.prog 162 #[.slice a 30 cap,.int .i64 1] w fun e w'=>∃v,e = .returned v/\ak w' w.heap.size v ja/\Below w.heap.size w w':=
 qS a cap 30 o0 1 w rfl h (by omega) (by decide +kernel) (by decide +kernel)
def Eh:List Int:=ct.map fun(i:Nat)=>(i:Int)
theorem Ej:Eh.length=19:=rfl
theorem Ei(j:Nat)(h:j<19):Eh.getD j 0=(ct.getD j 0:Nat):=by
 have hj:j<ct.length:=h;unfold Eh;simp[List.getD,hj]
theorem vU(w:World):Calls Tryz.prog 171 #[] w fun e w'=>(∃g,e = .returned (.slice (some ⟨g,0,none⟩) 19 19)/\ak w' w.heap.size (.slice (some ⟨g,0,none⟩) 19 19) Eh)/\Below w.heap.size w w':=by
 go_enter Tryz.func171,Tryz.ntmps171;go_wp2;go_ret;exact⟨⟨_,rfl,rf _ 19 Eh rfl rfl (by unfold maxLen;omega)⟩,(a0c _ _).alloc (a0a _) _⟩
end Go.Proofs.YtbacpebljannfaaGreatDoor
