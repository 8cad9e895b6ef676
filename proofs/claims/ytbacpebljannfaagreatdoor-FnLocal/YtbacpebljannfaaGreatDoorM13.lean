/- Of what the proof is made: 3 texts, one behind the other. -/
import Derived.Test.YtbacpebljannfaaGreatDoorM7
import Derived.Test.YtbacpebljannfaaGreatDoorRb1
import Derived.Test.YtbacpebljannfaaGreatDoorM3
set_option linter.unusedSimpArgs false
set_option maxHeartbeats 1600000
namespace Go.Proofs.YtbacpebljannfaaGreatDoor
open Go.RowKit Corb
def pT:List Int:=[0,0,0,0,0,0,0,0,1,1,1,1,2,2,2,2,3,3,3,3,4,4,4,4,5,5,5,5]
def pD:List Int:=[0,0,0,0,1,1,2,2,3,3,4,4,5,5,6,6,7,7,8,8,9,9,10,10,11,11,12,12,13,13]
theorem rP{w:World}(cs:Array Value)(n:Nat)(l:List Int)(hl:l.map (Value.int .i64)=cs.toList)(hn:l.length=n)(hm:n<=maxLen):ak (w.alloc (.cells cs 3)) w.heap.size (.slice (some ⟨w.heap.size,0,none⟩) n n) l:=by
 subst hn;have hs:cs.size=l.length*1:=by
  have:=congrArg List.length hl;simpa using this.symm
 have:=a08 (base:=w.heap.size) (e:=3) (size:=1) w cs l.length (a0a _) hm hs;show World.ownsRow _ _ _ _ _ _ _;rw[hl];exact this
theorem vo(w:World) :
  Calls Tryz.prog 163 #[] w fun e w'=>e = .returned (.slice (some ⟨w.heap.size,0,none⟩) 28 28)/\ak w' w.heap.size (.slice (some ⟨w.heap.size,0,none⟩) 28 28) pT/\Below w.heap.size w w':=by
 go_enter Tryz.func163,Tryz.ntmps163;go_wp2;go_ret;exact⟨rfl,rP _ 28 pT rfl rfl (by unfold maxLen;omega),(a0c _ _).alloc (a0a _) _⟩
theorem uC(w:World) :
  Calls Tryz.prog 164 #[] w fun e w'=>e = .returned (.slice (some ⟨w.heap.size,0,none⟩) 30 30)/\ak w' w.heap.size (.slice (some ⟨w.heap.size,0,none⟩) 30 30) pD/\Below w.heap.size w w':=by
 go_enter Tryz.func164,Tryz.ntmps164;go_wp2;go_ret;exact⟨rfl,rP _ 30 pD rfl rfl (by unfold maxLen;omega),(a0c _ _).alloc (a0a _) _⟩
def lf(l:List Int)(f:Int):Nat->Int
 | 0=>f
 | k+1=>lf l f k+(p2 (l.getD k 0).toNat:Nat)
def jB(l:List Int)(f:Int)(k:Nat):List Int:=(List.range k).map (lf l f)
theorem oJ(l:List Int)(f:Int)(k:Nat):(jB l f k).length=k:=by simp[jB]
theorem yS(l:List Int)(f:Int)(k:Nat):jB l f (k+1)=jB l f k++[lf l f k]:=by simp[jB,List.range_succ]
set_option maxRecDepth 100000 in
theorem rF(a:Option Addr)(cap n:Nat)(l:List Int)(f:Int)(w:World)(hn:l.length=n)(h:be w a l)(hm:(n:Int)<=30)(hb:∀i,i<n->0<=l.getD i 0/\l.getD i 0<=16)(hf:∀k,k<=n->0<=lf l f k/\lf l f k<=100000) :
  Calls Tryz.prog 162 #[.slice a n cap,.int .i64 f] w fun e w'=>∃v,e = .returned v/\ak w' w.heap.size v (jB l f n)/\Below w.heap.size w w':=by
 obtain⟨i0,hi,hz0,hz1,hz2⟩:=a0w Tryz.infoInt;have hq0:Hid (ak (w.alloc (.cells #[] 3)) w.heap.size (.slice (some ⟨w.heap.size,0,none⟩) 0 0) (jB l f 0)):=ak.lit _ _ (a0a _);have hb0:Hid (Below w.heap.size w (w.alloc (.cells #[] 3))):=(a0c _ _).alloc (a0a _) _;have HH:=af h;have Hn:=af hn;have HB:=af hb;have HF:=af hf;have H0:Hid (lf l f 0=f):=rfl;clear h hn hb hf;go_enter Tryz.func162,Tryz.ntmps162;go_wp2_with fail
 go_loopw [1,5,6] (fun fr v i wr=>∃k:Nat,k<=n/\i = .int .i64 k/\fr = .int .i64 (lf l f k)/\ak wr w.heap.size v (jB l f k)/\Below w.heap.size w wr) (fun _ _ i _=>n-(intOf i).toNat)
 case atStart=>exact⟨0,a0l _,rfl,rfl,ae hq0,ae hb0⟩
 case round=>
  obtain⟨k,hk,rfl,rfl,hq,hbel⟩:=hrel;have hlen:Hid ((jB l f k).length=k):=oJ l f k;obtain⟨va,vc,rfl⟩:=hq.formN (ae hlen);have hkI:(k:Int)<=30:=by omega
  have HK:=af hk;by_cases hlt:k<n
  ·
   have hltI:(k:Int)<(n:Int):=by omega
   have hst:Hid (jB l f k++[lf l f k]=jB l f (k+1)):=(yS l f k).symm;have hsf:Hid (lf l f (k+1)=lf l f k+(p2 (l.getD k 0).toNat:Nat)):=rfl;have bd:Hid (k+1<=maxLen/\(k+1)*8<=140737488355328):=by show _/\_;unfold maxLen;omega
   obtain⟨f0,f1⟩:=ae HF k (by omega);obtain⟨f2,f3⟩:=ae HF (k+1) (by omega);rw[ae hsf]at f2 f3;obtain⟨y0,y1⟩:=ae HB k hlt;have hqo:=af (hq.own (ae hlen));have HBel:=af hbel;have hbs:=hbel.size;obtain⟨g,o,rfl,hg,hc⟩:=(ae HH) (by rw[ae Hn];omega);have c0:=hc k (by rw[ae Hn];exact hlt);have HC:Hid (∀W,Below w.heap.size w W->W.cell? ⟨g,o+k,none⟩=some (.int .i64 (l.getD k 0))):=fun W hW=>(hW.cell (p:=⟨g,o+k,none⟩) hg).trans c0;have y2:l.getD k 0<=60:=by omega
   have HPw:=af (fun W=>pi (l.getD k 0) W y2);clear hq hbel hk hc c0 HH;generalize hF:lf l f k=F at *
   generalize hY:l.getD k 0=Y at *
   clear hF hY;generalize hP:p2 Y.toNat=P at *
   clear hP;go_wp2_with (first
    | (at_builtin;refine a0B _ rfl _ _ 84 rfl w.heap.size 3 i0 (.int .i64 0) 1 8 a0h hi hz0 hz1 hz2 rfl (by decide) (.slice va k vc) _ _ rfl (a0o (ae hqo) _) ⟨wr.heap.size,0,none⟩ 1 1 [.int .i64 F] rfl rfl (cX _ _ rfl _ _) (fC _) (ae bd).1 (ae bd).2 (az hbs _) ?_;intro v' x2 hown hgrow hnil;clear hnil;have hb2:=aF (v:=.slice va k vc) hgrow (ae hqo) (a0a _) hbs (ae HBel);have hcc:=ae HC x2 hb2;clear hgrow)
    | (go_at_call 160;refine(ae HPw _).mono ?_;rintro e w' ⟨rfl,hw⟩;rw[hw];clear hw))
   have hq2:=fG (ae hlen) hown;rw[ae hst]at hq2;clear hown;go_roundw
   case rel=>exact⟨k+1,by omega,by go_num,by rw[ae hsf],hq2,hb2⟩
   case measure=>simp[intOf];omega
  ·
   obtain rfl:k=n:=by omega
   go_wp2;go_ret;exact⟨_,rfl,hq,hbel⟩
def lQ(l:List Int)(num:Int):Nat->Nat->Nat
 | 0,k=>k
 | f+1,k=>if k+1<l.length/\l.getD (k+1) 0<=num then lQ l num f (k+1)else k
def ym(l:List Int)(num:Int):Nat:=lQ l num l.length 0
theorem DO{l:List Int}{num:Int}{f k:Nat}(h:¬ (k+1<l.length/\l.getD (k+1) 0<=num)):lQ l num f k=k:=by
 cases f with
 | zero=>rfl
 | succ f=>simp only[lQ];rw[a0e h]
theorem DN{l:List Int}{num:Int}{f k:Nat}(h:k+1<l.length/\l.getD (k+1) 0<=num):lQ l num (f+1) k=lQ l num f (k+1):=by simp only[lQ];rw[a0d h]
set_option maxRecDepth 100000 in
theorem ml(a:Option Addr)(cap n:Nat)(l:List Int)(num:Int)(w:World)(hn:l.length=n)(h:be w a l)(hm:(n:Int)<=30)(h1:1<=n) :
  Calls Tryz.prog 166 #[.slice a n cap,.int .i64 num] w fun e w'=>e = .returned (.int .i64 (ym l num:Nat))/\w'=w:=by
 have Hst:=af (fun f k=>@DO l num f k);have Hsp:=af (fun f k=>@DN l num f k);have H0:Hid (ym l num=lQ l num n 0):=by show ym l num=_;unfold ym;rw[hn]
 rw[hn]at Hst Hsp;have Hn:=af hn;obtain⟨g,o,rfl,hg,hc⟩:=h (by omega);have HC:=af hc;rw[hn]at HC;have h1I:(1:Int)<=(n:Int):=by omega
 clear hn h hc;go_enter Tryz.func166,Tryz.ntmps166;go_wp2_with fail
 go_loop [5] (fun i=>∃k:Nat,k<n/\i = .int .i64 k/\lQ l num n 0=lQ l num (n-k) k) (fun i=>n-(intOf i).toNat)
 case atStart=>exact⟨0,by omega,rfl,rfl⟩
 case round=>
  obtain⟨k,hk,rfl,he⟩:=hrel;have HE:=af he;clear he;have hkI:(k:Int)<(n:Int):=by omega
  obtain⟨K,hK⟩:∃K:Int,(k:Int)+1=K:=⟨_,rfl⟩;by_cases hlt:k+1<n
  ·
   have hltI:(k:Int)+1<(n:Int):=by omega
   have c0:=ae HC (k+1) hlt;have hd1:decide ((k:Int)+1<(n:Int))=true:=by simpa using hltI
   have hbd:(k:Int)+1<=30:=by omega
   have ek:((k+1:Nat):Int)=(k:Int)+1:=by omega
   by_cases hle:l.getD (k+1) 0<=num
   ·
    have HX:Hid (lQ l num n 0=lQ l num (n-(k+1)) (k+1)):=by
     show lQ l num n 0=_;rw[ae HE,show n-k=(n-(k+1))+1 by omega];exact ae Hsp _ _ ⟨hlt,hle⟩
    have hd2:decide (l.getD (k+1) 0<=num)=true:=by simpa using hle
    generalize l.getD (k+1) 0=Y at *
    clear hK;go_wp2
    go_round
    case rel=>exact⟨k+1,by omega,by go_num,ae HX⟩
    case measure=>simp[intOf];omega
   ·
    have HX:Hid (lQ l num n 0=k):=by
     show lQ l num n 0=_;rw[ae HE];exact ae Hst _ _ (fun h=>hle h.2)
    have hd2:decide (l.getD (k+1) 0<=num)=false:=by simpa using hle
    generalize l.getD (k+1) 0=Y at *
    clear hK;go_wp2;go_ret;exact⟨aH (by rw[ae H0,ae HX]),rfl⟩
  ·
   have hltI:¬ (k:Int)+1<(n:Int):=by omega
   have hd1:decide ((k:Int)+1<(n:Int))=false:=by simpa using hltI
   have HX:Hid (lQ l num n 0=k):=by
    show lQ l num n 0=_;rw[ae HE];exact ae Hst _ _ (fun h=>hlt h.1)
   clear hK;go_wp2;go_ret;exact⟨aH (by rw[ae H0,ae HX]),rfl⟩
def jN:List Int:=jB pT 3 28
def jA:List Int:=jB pD 1 30
theorem Fl:jN=(List.range 28).map (fun k=>((stF 3 4 k).1:Int)):=by decide +kernel
theorem Ef:jA=(List.range 30).map (fun k=>((stF 1 2 k).1:Int)):=by decide +kernel
theorem Fp:pT=(List.range 28).map (fun k=>((stF 3 4 k).2:Int)):=by decide +kernel
theorem Ei:pD=(List.range 30).map (fun k=>((stF 1 2 k).2:Int)):=by decide +kernel
theorem Db:(List.range 61).all (fun y=>decide (y<3) || decide (ym jN (y:Int)=fnd 3 4 y 27))=true:=by decide +kernel
theorem BL:(List.range 251).all (fun z=>decide (z<1) || decide (ym jA (z:Int)=fnd 1 2 z 29))=true:=by decide +kernel
theorem xy(y:Nat)(h0:3<=y)(h1:y<=60):ym jN (y:Int)=fnd 3 4 y 27:=by
 have:=a1j.1 Db y (List.mem_range.2 (by omega));simp only[a1f,a0z]at this;rcases this with h|h
 · omega
 · exact h
theorem vN(z:Nat)(h0:1<=z)(h1:z<=250):ym jA (z:Int)=fnd 1 2 z 29:=by
 have:=a1j.1 BL z (List.mem_range.2 (by omega));simp only[a1f,a0z]at this;rcases this with h|h
 · omega
 · exact h
theorem kk(f:Nat->Int)(n k:Nat)(h:k<n):((List.range n).map f).getD k 0=f k:=by simp[List.getD,h]
theorem Fj(k:Nat)(h:k<28):jN.getD k 0=((stF 3 4 k).1:Int):=by rw[Fl];exact kk _ _ _ h
theorem Ee(k:Nat)(h:k<30):jA.getD k 0=((stF 1 2 k).1:Int):=by rw[Ef];exact kk _ _ _ h
theorem Fo(k:Nat)(h:k<28):pT.getD k 0=((stF 3 4 k).2:Int):=by rw[Fp];exact kk _ _ _ h
theorem Eh(k:Nat)(h:k<30):pD.getD k 0=((stF 1 2 k).2:Int):=by rw[Ei];exact kk _ _ _ h
theorem lC(a:Option Addr)(cap:Nat)(w:World)(h:be w a pT) :
  Calls Tryz.prog 162 #[.slice a 28 cap,.int .i64 3] w fun e w'=>∃v,e = .returned v/\ak w' w.heap.size v jN/\Below w.heap.size w w':=
 rF a cap 28 pT 3 w rfl h (by omega) (by decide +kernel) (by decide +kernel)
theorem lB(a:Option Addr)(cap:Nat)(w:World)(h:be w a pD) :
  Calls Tryz.prog 162 #[.slice a 30 cap,.int .i64 1] w fun e w'=>∃v,e = .returned v/\ak w' w.heap.size v jA/\Below w.heap.size w w':=
 rF a cap 30 pD 1 w rfl h (by omega) (by decide +kernel) (by decide +kernel)
def FF:List Int:=bH.map fun(i:Nat)=>(i:Int)
theorem FH:FF.length=19:=rfl
theorem FG(j:Nat)(h:j<19):FF.getD j 0=(bH.getD j 0:Nat):=by
 have hj:j<bH.length:=h;unfold FF;simp[List.getD,hj]
theorem wX(w:World):Calls Tryz.prog 171 #[] w fun e w'=>(∃g,e = .returned (.slice (some ⟨g,0,none⟩) 19 19)/\ak w' w.heap.size (.slice (some ⟨g,0,none⟩) 19 19) FF)/\Below w.heap.size w w':=by
 go_enter Tryz.func171,Tryz.ntmps171;go_wp2;go_ret;exact⟨⟨_,rfl,rP _ 19 FF rfl rfl (by unfold maxLen;omega)⟩,(a0c _ _).alloc (a0a _) _⟩
end Go.Proofs.YtbacpebljannfaaGreatDoor
