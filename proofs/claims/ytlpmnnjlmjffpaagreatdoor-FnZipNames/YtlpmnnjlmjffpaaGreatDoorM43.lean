/- Of what the proof is made: 3 texts, one behind the other. -/
import Derived.Test.YtlpmnnjlmjffpaaGreatDoorM41
import Derived.Test.YtlpmnnjlmjffpaaGreatDoorM40
import Derived.Lib.ItoaNum
import Derived.Lib.IndexMore
import Derived.Test.YtlpmnnjlmjffpaaGreatDoorM18
import Derived.Test.YtlpmnnjlmjffpaaGreatDoorM4
set_option maxRecDepth 100000
set_option linter.unusedSimpArgs false
set_option linter.unusedVariables false
set_option maxHeartbeats 12800000
namespace Go.Proofs.YtlpmnnjlmjffpaaGreatDoor
open Go.Proofs.Tryz
open Corb
open Go.Lib (decDigits)
variable {i:Nat}{l:ByteArray}
def I2(n:Nat)(b:UInt8):Nat:=n*10+(b.toNat-48)
def jF(l:List UInt8):Nat:=l.foldl I2 0
def jX(b:UInt8):Bool:=decide (48<=b.toNat)&&decide (b.toNat<=57)
def On(l:List UInt8):Prop:=l≠[]/\(∀b∈l,jX b=true)/\¬ (1<l.length/\l.head?=some 48)
instance (l:List UInt8):Decidable (On l):=inferInstanceAs (Decidable (_/\_/\_))
def kc(l:List UInt8):Int:=if On l/\l.length<=6 then(jF l:Int)else -1
theorem ml(m:List UInt8)(d:UInt8):jF (m++[d])=jF m*10+(d.toNat-48):=by
 unfold jF;rw[List.foldl_append];rfl
theorem yu:∀(l:List UInt8) (a:Nat),0<a->0<l.foldl I2 a
 | [],_,h=>h
 | b :: l,a,h=>yu l (I2 a b) (by unfold I2;omega)
theorem Mf{m:List UInt8}(h:m≠[])(a:∀b∈m,jX b=true)(c:m.head?≠some 48):0<jF m:=by
 cases m with
 | nil=>exact absurd rfl h
 | cons b m=>
  have hb:=a b (by simp);simp only[jX,a0h,a0o]at hb;have:b.toNat≠48:=fun e=>c (by rw[List.head?_cons];congr 1;exact UInt8.toNat_inj.1 (by rw[e];rfl));exact yu m _ (by unfold I2;omega)
theorem xK{d:UInt8}(h:jX d=true):UInt8.ofNat (48+(d.toNat-48))=d:=by
 simp only[jX,a0h,a0o]at h;rw[show 48+(d.toNat-48)=d.toNat by omega];exact UInt8.ofNat_toNat
theorem DT:∀(n:Nat) (l:List UInt8),l.length=n->On l->decDigits (jF l)=l
 | 0,l,hl,h=>absurd (a1R hl) h.1
 | n+1,l,hl,h=>by
  obtain⟨i,h2,o⟩:=h;obtain⟨m,d,rfl⟩:∃m d,l=m++[d]:=⟨l.dropLast,l.getLast i,(List.dropLast_concat_getLast i).symm⟩;have hd:jX d=true:=h2 d (by simp);have c:=hd;simp only[jX,a0h,a0o]at c;rw[ml];by_cases a:m=[]
  .
   subst a;have e:jF []*10+(d.toNat-48)=d.toNat-48:=by show 0*10+_=_;omega
   rw[e,decDigits,a2o (by omega),xK hd];rfl
  .
   have g:m.length=n:=by simp at hl;exact hl
   have f:(m++[d]).head?=m.head?:=by cases m with
    | nil=>exact absurd rfl a
    | cons b m=>rfl
   have k:0<m.length:=by cases m with
    | nil=>exact absurd rfl a
    | cons b m=>simp
   have j:m.head?≠some 48:=fun e=>o ⟨by simp;omega,by rw[f];exact e⟩;have p:=Mf a (fun b hb=>h2 b (by simp[hb])) j;have ih:=DT n m g ⟨a,fun b hb=>h2 b (by simp[hb]),fun e=>j e.2⟩;rw[decDigits,dif_neg (by omega),show(jF m*10+(d.toNat-48))/10=jF m by omega,show(jF m*10+(d.toNat-48))%10=d.toNat-48 by omega,ih,xK hd]
theorem ru(n:Nat):jF (decDigits n)=n/\(decDigits n≠[]/\∀b∈decDigits n,jX b=true)/\(1<=n->(decDigits n).head?≠some 48):=by
 induction n using Nat.strongRecOn with
 | _ n ih=>
  have hb:∀k,k<10->(UInt8.ofNat (48+k)).toNat=48+k:=fun k i=>by rw[a29];omega
  by_cases h:n<10
  .
   rw[decDigits,a2o h];refine⟨?_,⟨by simp,?_⟩,?_⟩
   . show 0*10+((UInt8.ofNat (48+n)).toNat-48)=n;rw[hb n h];omega
   . intro b a;rw[a09.1 a];simp only[jX,hb n h,a0h,a0o];omega
   . intro g e;rw[List.head?_cons,a0k]at e;have:=congrArg UInt8.toNat e;rw[hb n h]at this;have d:(48:UInt8).toNat=48:=rfl;omega
  .
   obtain⟨i1,⟨i2,i3⟩,i4⟩:=ih (n/10) (by omega);rw[decDigits,dif_neg h];refine⟨?_,⟨by simp,?_⟩,?_⟩
   . rw[ml,i1,hb (n%10) (by omega)];omega
   .
    intro b a;rcases a1b.1 a with a|a
    . exact i3 b a
    . rw[a09.1 a];simp only[jX,hb (n%10) (by omega),a0h,a0o];omega
   .
    intro _;have c:(decDigits (n/10)++[UInt8.ofNat (48+n%10)]).head?=(decDigits (n/10)).head?:=by
     cases f:decDigits (n/10)with
     | nil=>exact absurd f i2
     | cons b m=>rfl
    rw[c];exact i4 (by omega)
theorem wv:∀(k n:Nat),n<10 ^ (k+1)->(decDigits n).length<=k+1
 | 0,n,h=>by rw[decDigits,a2o (by simpa using h)];simp
 | k+1,n,h=>by
  by_cases a:n<10
  . rw[decDigits,a2o a];simp
  . rw[decDigits,dif_neg a];have:=wv k (n/10) (by rw[a1s]at h;omega);simp;omega
theorem OG{l:List UInt8}{n:Nat} : kc l=(n:Int)<->l=decDigits n/\n<1000000:=by
 unfold kc;constructor
 .
  intro h
  split at h
  .
   rename_i hc;have a:jF l=n:=by omega
   have e:=DT _ l rfl hc.1;rw[a]at e;refine⟨e.symm,?_⟩;have c:=Lib.lt_pow_nDigits n;have h2:Lib.nDigits n<=6:=by rw[←Lib.decDigits_length,e];exact hc.2
   have d:10 ^ Lib.nDigits n<=10 ^ 6:=a0K (by decide) h2;have f:(10:Nat) ^ 6=1000000:=by decide
   omega
  . omega
 .
  rintro⟨rfl,a⟩;obtain⟨c,⟨h2,d⟩,f⟩:=ru n;have i:=wv 5 n (by simpa using a);have b:¬ (1<(decDigits n).length/\(decDigits n).head?=some 48):=by
   rintro⟨e1,e2⟩;by_cases g:1<=n
   . exact f g e2
   .
    have:n=0:=by omega
    subst this;rw[decDigits,a2o (by decide)]at e1;exact absurd e1 (by simp)
  rw[a0e ⟨⟨h2,d,b⟩,i⟩,c]
theorem Gc{x T:ByteArray}(h:ep x=some T):jk x<=800:=by
 obtain⟨hd,e⟩:=fw h;obtain⟨d,g,b⟩:=gx.1 hd;have i:=(dz (n:=(enO x T).n) (t:=(enO x T).t) e).1;have a:(nmB x).size<=43:=i;rw[iU (by omega)]at a;have f:=rS (s:=x) b;have c:=Co hd;by_cases hb:enB (wd x.data.toList 8 2) (wd x.data.toList 10 4) (wd x.data.toList 14 4) (wd x.data.toList 22 4) (nmB x) (bdB x)=true
 . have:=yc hb;unfold jk;omega
 . rw[a0d hb]at c;have:=Ew c;rw[h]at this;cases this
theorem vZ{s:ByteArray} : ∀{k:Nat} {q:List En×ByteArray×Nat},zst s k=some q->q.2.2<=800*k
 | 0,q,h=>by cases h;exact a0g _
 | k+1,q,h=>by
  obtain⟨r,T,c,h2,rfl⟩:=dr h;have a:=vZ c;have b:=Gc h2;show r.2.2+jk (sub s r.2.2)<=_;omega
theorem DG{s:ByteArray}{l:List En}(h:aQ s=some l):s.size<=6000:=by
 obtain⟨m,q,a,_,b,c⟩:=gN h;have f:=(fg b).2;obtain⟨a1,a2,_,_,a5⟩:=dN a;have d:=vZ a;have e:=congrArg ByteArray.size c;rw[fz,a0u,dV]at e;omega
def aJ(x:ByteArray):ByteArray:=⟨(decDigits x.size).toArray⟩++⟨#[10]⟩++x
theorem jd(x:ByteArray):(aJ x).data.toList=decDigits x.size++(10 :: x.data.toList):=by
 simp[aJ]
def bR(l:ByteArray)(i:Nat):ByteArray:=l.extract (i+1) l.size
theorem mC(l:ByteArray)(i:Nat):(bR l i).data.toList=l.data.toList.drop (i+1):=by
 rw[bR,ext_list];exact a0A (by simp)
theorem Ax(h:Lib.indexByte l.data.toList 10=(i:Int)):l=aJ (bR l i)<->l.data.toList.take i=decDigits (bR l i).size:=by
 obtain⟨a,_⟩:=a3V h;have b:i<l.data.toList.length:=(List.getElem?_eq_some_iff.1 a).1;have e0:l.data.toList=l.data.toList.take i++(10 :: l.data.toList.drop (i+1)):=by
  conv=>lhs;rw[←a1E i l.data.toList,a2V b]
  rw[(List.getElem?_eq_some_iff.1 a).2]
 constructor
 .
  intro e;have e1:=congrArg (fun y:ByteArray=>y.data.toList) e;simp only[jd,mC]at e1;rw[e0]at e1;have c:(l.data.toList.take i).length=(decDigits (bR l i).size).length:=by
   have:=congrArg List.length e1;simp only[a0m,a0B]at this;rw[←e0]at this;omega
  rw[←e0]at e1;exact(a1h (by rw[←e0];exact e1) c).1
 . intro e;apply aO;rw[jd,mC,←e];exact e0
theorem Np{x:ByteArray}(h:Lib.indexByte l.data.toList 10 = -1):l≠aJ x:=by
 intro e;have a:=Lib.indexByte_none h (decDigits x.size).length;rw[e,jd,List.getElem?_append_right (a0a _),a2j]at a;exact a rfl
def iV(l:ByteArray):Option ByteArray:=if 0<=Lib.indexByte l.data.toList 10 then(if l=aJ (bR l (Lib.indexByte l.data.toList 10).toNat)/\(aQ (bR l (Lib.indexByte l.data.toList 10).toNat)).isSome=true then some (bR l (Lib.indexByte l.data.toList 10).toNat)else none)else none
theorem rH(h:Lib.indexByte l.data.toList 10 = -1):iV l=none:=by unfold iV;rw[h,a0d (by decide)]
theorem xj(h:Lib.indexByte l.data.toList 10=(i:Int)):iV l=if l=aJ (bR l i)/\(aQ (bR l i)).isSome=true then some (bR l i)else none:=by
 unfold iV;rw[h,a0e (by omega),a0l]
theorem KG(h:Lib.indexByte l.data.toList 10=(i:Int)):iV l=if kc (l.data.toList.take i)=((bR l i).size:Int)/\(aQ (bR l i)).isSome=true then some (bR l i)else none:=by
 rw[xj h];have:(l=aJ (bR l i)/\(aQ (bR l i)).isSome=true)<->(kc (l.data.toList.take i)=((bR l i).size:Int)/\(aQ (bR l i)).isSome=true):=by
  rw[OG,Ax h];constructor
  . rintro⟨a,b⟩;obtain⟨l',d⟩:=Option.isSome_iff_exists.1 b;have:=DG d;exact⟨⟨a,by omega⟩,b⟩
  . rintro⟨⟨a,_⟩,b⟩;exact⟨a,b⟩
 by_cases c:l=aJ (bR l i)/\(aQ (bR l i)).isSome=true
 . rw[a0e c,a0e (this.1 c)]
 . rw[a0d c,a0d (fun e=>c (this.2 e))]
end Go.Proofs.YtlpmnnjlmjffpaaGreatDoor
namespace Go.Proofs.YtlpmnnjlmjffpaaGreatDoor
open Go.Proofs.Tryz
open Go.RowKit Corb
open Go.Lib (decDigits)
variable {W w:World}{k:Nat}{l:List UInt8}{ps:List Value}{s:ByteArray}
theorem Fg{n:Nat}(h:n<10):decDigits n=[UInt8.ofNat (48+n)]:=by rw[decDigits,a2o h]
theorem L4{n:Nat}(h:¬ n<10):decDigits n=decDigits (n/10)++[UInt8.ofNat (48+n%10)]:=by rw[decDigits,dif_neg h]
theorem jV(n:Nat)(h:n<=9999999):(decDigits n).length<=7:=wv 6 n (by omega)
theorem ve(n:Nat):n<=2000000->∀w,CD 70 #[.int .i64 (n:Nat)] w (.string ⟨(decDigits n).toArray⟩):=by
 have m:prog.follows .mixedOrders=true:=by kernel_rfl
 induction n using Nat.strongRecOn with
 | _ n ih=>
  intro u w;have B:(n:Int)<=2000000:=by omega
  by_cases h:n<10
  .
   obtain⟨y,hy⟩:∃y,48+n=y:=⟨_,rfl⟩;have j:=af (Fg h);rw[hy]at j;have r:(n:Int)<10:=by omega
   have e5:(48:Int)+(n:Int)=(y:Int):=by omega
   have t:(y:Int)<58:=by omega
   have G:IntKind.u8.wrap (y:Int)=(y:Int):=by simp only[IntKind.wrap,IntKind.bits,IntKind.signed];simp;omega
   have l:=(ts w w.heap.size y (a0a _) (by omega)).text;have A:=af ((a0c w.heap.size w).alloc (a0a _) (.cells #[.int .u8 (y:Int)] 5));clear hy ih u;go_enter func70,ntmps70;go_wp2;go_ret;exact⟨by rw[ae j];rfl,ae A⟩
  .
   obtain⟨y,hy⟩:∃y,48+n%10=y:=⟨_,rfl⟩;obtain⟨q,hq⟩:∃q,n/10=q:=⟨_,rfl⟩;have j:=af (L4 h);rw[hy,hq]at j;have C:=af (ih q (by omega) (by omega));have r:¬ (n:Int)<10:=by omega
   have F:(q:Int)<=2000000:=by omega
   have e1:Int.tmod (n:Int) 10=(y:Int)-48:=by rw[a14 (by omega)];omega
   have e2:Int.tdiv (n:Int) 10=(q:Int):=by rw[Int.tdiv_eq_ediv_of_nonneg (by omega)];omega
   have e3:(n:Int)%10=(y:Int)-48:=by omega
   have e4:(n:Int)/10=(q:Int):=by omega
   have e5:(48:Int)+((y:Int)-48)=(y:Int):=by omega
   have t:(y:Int)<58:=by omega
   have o:y<256:=by omega
   have G:IntKind.u8.wrap (y:Int)=(y:Int):=by simp only[IntKind.wrap,IntKind.bits,IntKind.signed];simp;omega
   have wq:IntKind.i64.wrap (q:Int)=(q:Int):=by rw[a0T];omega
   have wy:IntKind.i64.wrap (y:Int)=(y:Int):=by rw[a0T];omega
   have z:=jV q (by omega);obtain⟨D,hD⟩:∃D,(⟨(decDigits q).toArray⟩:ByteArray)=D:=⟨_,rfl⟩;have s:D.size<=7:=by rw[←hD];exact z
   have E:¬ 9223372036854775807<D.size+(⟨#[UInt8.ofNat y]⟩:ByteArray).size:=by show ¬ _<D.size+1;omega
   have v:D.size<=9223372036854775806:=by omega
   have g:Hid ((⟨(decDigits n).toArray⟩:ByteArray)=D++⟨#[UInt8.ofNat y]⟩):=by
    show _=_;rw[ae j,←hD];apply aO;simp
   rw[hD]at C;clear hy hq ih u z hD s j;go_enter func70,ntmps70;go_wp2_with fail;have k:Hid (Below w.heap.size w w.drew):=(a0c _ _).drew;refine wp_region_held_drew (S:=fun W=>Below w.heap.size w W) m (ae k) (fun b=>?_);refine ag 0 (.int .i64 (n:Nat)) rfl (by kernel_rfl) (fun _ _ _ h=>h) rfl (fun W a=>by go_simp) b ?_;refine ag 1 (.int .i64 (q:Nat)) rfl (by kernel_rfl) (fun _ _ _ h=>h) rfl (fun W a=>by go_simp) b ?_;refine ag 3 (.int .i64 (n:Nat)) rfl (by kernel_rfl) (fun _ _ _ h=>h) rfl (fun W a=>by go_simp) b ?_;refine ag 4 (.int .i64 ((y:Int)-48)) rfl (by kernel_rfl) (fun _ _ _ h=>h) rfl (fun W a=>by go_simp) b ?_;refine ag 5 (.int .i64 (y:Int)) rfl (by kernel_rfl) (fun _ _ _ h=>h) rfl (fun W a=>by go_simp) b ?_;refine ag 6 (.int .u8 (y:Int)) rfl (by kernel_rfl) (fun _ _ _ h=>h) rfl (fun W a=>by go_simp) b ?_;refine wpAnyH_ready (rs:=[2,7]) (by kernel_rfl) (by simp) ?_;refine AllReadyH.cons rfl (fun K d=>?_) (AllReadyH.cons rfl (fun K d=>?_) AllReadyH.nil)
   . go_simp;go_at_call 70;refine(ae C _).mono ?_;rintro e x1 ⟨rfl,i⟩;have c:=af (ak (ae k) i);have f:=af ((ae c).alloc (ae c).size (.cells #[.int .u8 (y:Int)] 5));have l:=(ts x1 w.heap.size y (ae c).size o).text;refine Shut.out d _ _ (ae c) (fun b=>?_);clear d K i;refine ah 7 (by kernel_rfl) rfl fun K d=>?_;go_simp;refine Shut.out d _ _ (ae f) (fun b=>?_);clear d K;refine ah 8 (by kernel_rfl) rfl fun K d=>?_;go_simp;refine Shut.out d _ _ (ae f) (fun b=>?_);clear d K;refine ag 9 (.string (D++⟨#[UInt8.ofNat y]⟩)) rfl (by kernel_rfl) (fun _ _ _ h=>h) rfl (fun W a=>by go_simp) b ?_;refine ag 10 (.string (D++⟨#[UInt8.ofNat y]⟩)) rfl (by kernel_rfl) (fun _ _ _ h=>h) rfl (fun W a=>by go_simp) b ?_;refine wpAnyH_done (by kernel_rfl) ?_ _;go_wp2;go_ret;exact⟨by rw[ae g];rfl,ae f⟩
   . go_simp;have f:Hid (Below w.heap.size w (w.alloc (.cells #[.int .u8 (y:Int)] 5)).drew):=((a0c w.heap.size w).alloc (a0a _) _).drew;have p:Hid (aN (w.alloc (.cells #[.int .u8 (y:Int)] 5)).drew w.heap.size (.slice (some ⟨w.heap.size,0,none⟩) 1 1) [UInt8.ofNat y]):=(ts w w.heap.size y (a0a _) o).later (a0c _ _).drew (a0a _);obtain⟨WA,hWA⟩:∃x,(w.alloc (.cells #[.int .u8 (y:Int)] 5)).drew=x:=⟨_,rfl⟩;rw[hWA]at f p;rw[hWA];refine Shut.out d _ _ (ae f) (fun _=>?_);clear d K hWA;refine dX (S':=fun W=>Below w.heap.size w W/\aN W w.heap.size (.slice (some ⟨w.heap.size,0,none⟩) 1 1) [UInt8.ofNat y]) (fun _ h=>h.1) _ _ _ _ ?_;have b:Below w.heap.size w WA/\aN WA w.heap.size (.slice (some ⟨w.heap.size,0,none⟩) 1 1) [UInt8.ofNat y]:=⟨ae f,ae p⟩;refine ag 8 (.string ⟨#[UInt8.ofNat y]⟩) rfl (by kernel_rfl) (fun _ _ _ h=>h) rfl (fun W a=>by have l:=a.2.text;go_simp) b ?_;refine ah 2 (by kernel_rfl) rfl fun K d=>?_;go_simp;go_at_call 70;refine(ae C _).mono ?_;rintro e x1 ⟨rfl,i⟩;have c:=af (ak (ae f) i);refine Shut.out d _ _ ⟨ae c,(ae p).later i (a0a _)⟩ (fun b=>?_);clear d K i;refine ag 9 (.string (D++⟨#[UInt8.ofNat y]⟩)) rfl (by kernel_rfl) (fun _ _ _ h=>h) rfl (fun W a=>by go_simp) b ?_;refine ag 10 (.string (D++⟨#[UInt8.ofNat y]⟩)) rfl (by kernel_rfl) (fun _ _ _ h=>h) rfl (fun W a=>by go_simp) b ?_;refine wpAnyH_done (by kernel_rfl) ?_ _;go_wp2;go_ret;exact⟨by rw[ae g];rfl,ae c⟩
theorem FR(x:ByteArray)(w:World)(h:x.size<=1048576) :
  CD 44 #[.string x] w (.string (aJ x)):=by
 have C:=af (ve x.size (by omega) w);have d:Hid (aJ x=⟨(decDigits x.size).toArray⟩++⟨#[10]⟩++x):=rfl;have f:=jV x.size (by omega);have i:(x.size:Int)<=1048576:=by omega
 obtain⟨D,hD⟩:∃D,(⟨(decDigits x.size).toArray⟩:ByteArray)=D:=⟨_,rfl⟩;have c:D.size<=7:=by rw[←hD];exact f
 have g:(D.size:Int)<=7:=by omega
 have j:¬ 9223372036854775807<D.size+(⟨#[10]⟩:ByteArray).size:=by show ¬ _<D.size+1;omega
 have h2:¬ 9223372036854775807<D.size+(⟨#[10]⟩:ByteArray).size+x.size:=by show ¬ _<D.size+1+_;omega
 rw[hD]at C d;clear hD f c h;go_enter func44,ntmps44;go_wp2_with fail;refine(ae C).mono ?_;rintro e x1 ⟨rfl,a⟩;have b:=af a;clear a C;go_wp2;go_ret;exact⟨by rw[ae d];rfl,ae b⟩
theorem I4{b:UInt8}(h:l[k]?=some b):jF (l.take (k+1))=jF (l.take k)*10+(b.toNat-48):=by
 rw[a3K,h];exact ml _ _
theorem MM{b:UInt8}(h:l[k]?=some b)(hb:jX b=false):kc l = -1:=by
 unfold kc;rw[a0d];rintro⟨⟨_,h2,_⟩,_⟩;have:=h2 b (List.mem_of_getElem? h);rw[hb]at this;cases this
theorem JY(h:6<l.length):kc l = -1:=by
 unfold kc;rw[a0d (fun e=>by have:=e.2;omega)]
theorem JZ:kc [] = -1:=by unfold kc;rw[a0d (fun e=>e.1.1 rfl)]
theorem J0(h:1<l.length)(a:l[0]?=some 48):kc l = -1:=by
 unfold kc;rw[a0d (fun e=>e.1.2.2 ⟨h,by rw[List.head?_eq_getElem?];exact a⟩)]
theorem El(a:l≠[])(c:∀b∈l,jX b=true)(d:l.length<=6)(f:¬ (1<l.length/\l[0]?=some 48)):kc l=(jF l:Int):=by
 unfold kc;rw[a0e ⟨⟨a,c,fun e=>f ⟨e.1,by rw[←List.head?_eq_getElem?];exact e.2⟩⟩,d⟩]
theorem byte_at(s:ByteArray)(k:Nat)(b:k<s.size):s.data.toList[k]?=some s[k]:=by
 have a:k<s.data.toList.length:=by simpa using b
 rw[List.getElem?_eq_getElem a];rfl
theorem I3:∀(k:Nat) (l:List UInt8),(∀b∈l,jX b=true)->l.length=k->jF l<10 ^ k
 | 0,l,_,h=>by rw[a1R h];decide
 | k+1,l,ha,h=>by
  obtain⟨m,d,rfl⟩:∃m d,l=m++[d]:=⟨l.dropLast,l.getLast (by intro e;rw[e]at h;cases h),(List.dropLast_concat_getLast _).symm⟩;have ih:=I3 k m (fun b hb=>ha b (by simp[hb])) (by simpa using h);have hd:=ha d (by simp);simp only[jX,a0h,a0o]at hd;rw[ml,a1s];omega
theorem FG(s:ByteArray)(w:World)(P:s.size<=1048576) :
  Calls prog 50 #[.string s] w fun e w'=>e = .returned (.int .i64 (kc s.data.toList))/\w'=w:=by
 have Q:(s.size:Int)<=1048576:=by omega
 have j:s.data.toList.length=s.size:=by simp
 have a:=af j;clear P j;go_enter func50,ntmps50;go_wp2_with fail
 go_loop [3,4] (fun n i=>∃k:Nat,k<=s.size/\k<=6/\i = .int .i64 k/\n = .int .i64 (jF (s.data.toList.take k):Nat)/\∀b∈s.data.toList.take k,jX b=true) (fun _ i=>s.size-(intOf i).toNat)
 case atStart=>exact⟨0,a0g _,a0g _,rfl,rfl,fun b hb=>by simp at hb⟩
 case round=>
  obtain⟨k,U,I,rfl,rfl,h⟩:=hrel;have A:(k:Int)<=(s.size:Int):=by omega
  have L:(k:Int)<=6:=by omega
  have c:=af h;have K:=I3 k (s.data.toList.take k) h (by rw[a0v,ae a];omega);have t:jF (s.data.toList.take k)<1000000:=a0j K (a0K (by decide) I:10 ^ k<=10 ^ 6);obtain⟨V,hVe⟩:∃V,jF (s.data.toList.take k)=V:=⟨_,rfl⟩;rw[hVe]at t;rw[hVe];have u:(V:Int)<1000000:=by omega
  have f:=af hVe;clear h K t hVe;by_cases p:k<s.size
  .
   have M:(k:Int)<(s.size:Int):=by omega
   have d:=af (byte_at s k p);by_cases x:jX s[k]=true
   .
    have y:=x;simp only[jX,a0h,a0o]at y;have z:¬ (s[k].toNat:Int)<48:=by omega
    have G:¬ (57:Int)<(s[k].toNat:Int):=by omega
    by_cases O:k=6
    .
     have g:=af (JY (l:=s.data.toList) (by rw[ae a];omega));have H:(6:Int)<=(k:Int):=by omega
     clear O;go_wp2;go_ret;exact⟨by rw[ae g];rfl,rfl⟩
    .
     have H:¬ (6:Int)<=(k:Int):=by omega
     have q:=af (I4 (ae d));have C:Hid (∀b∈s.data.toList.take (k+1),jX b=true):=by
      intro b hb;rw[a3K,ae d]at hb;rcases a1b.1 hb with hb|hb
      . exact ae c b hb
      . simp at hb;rw[hb];exact x
     have R:IntKind.u8.wrap ((s[k].toNat:Int)-48)=(s[k].toNat:Int)-48:=by simp only[IntKind.wrap,IntKind.bits,IntKind.signed];simp;omega
     have o:Hid (((jF (s.data.toList.take (k+1)):Nat):Int)=(V:Int)*10+((s[k].toNat:Int)-48)):=by show _=_;rw[ae q,ae f];omega
     clear y x q;go_wp2
     go_round
     case rel=>exact⟨k+1,by omega,by omega,by go_num,by rw[ae o],ae C⟩
     case measure=>simp[intOf];omega
   .
    have F:jX s[k]=false:=by simpa using x
    have g:=af (MM (ae d) F);simp only[jX,a0h,a0o]at x;by_cases N:s[k].toNat<48
    .
     have z:(s[k].toNat:Int)<48:=by omega
     go_wp2;go_ret;exact⟨by rw[ae g];rfl,rfl⟩
    .
     have z:¬ (s[k].toNat:Int)<48:=by omega
     have G:(57:Int)<(s[k].toNat:Int):=by omega
     go_wp2;go_ret;exact⟨by rw[ae g];rfl,rfl⟩
  .
   obtain rfl:k=s.size:=by omega
   have B:s.data.toList.take s.size=s.data.toList:=a0A (by rw[ae a];exact a0a _);rw[B]at c f;clear B;by_cases D:s.size=0
   .
    have m:s.data.toList=[]:=a1R (by rw[ae a];exact D);have g:Hid (kc s.data.toList = -1):=by show _=_;rw[m];exact JZ
    have r:(s.size:Int)=0:=by omega
    clear m;go_wp2;go_ret;exact⟨by rw[ae g];rfl,rfl⟩
   .
    have r:¬ (s.size:Int)=0:=by omega
    have d:=af (byte_at s 0 (by omega));by_cases J:1<s.size
    .
     have E:(1:Int)<(s.size:Int):=by omega
     by_cases hb:s[0].toNat=48
     .
      have v:(s[0].toNat:Int)=48:=by omega
      have e48:s[0]=48:=UInt8.toNat_inj.1 hb;have g:=af (J0 (l:=s.data.toList) (by rw[ae a];exact J) (by rw[ae d,e48]));go_wp2;go_ret;exact⟨by rw[ae g];rfl,rfl⟩
     .
      have v:¬ (s[0].toNat:Int)=48:=by omega
      have g:Hid (kc s.data.toList=(V:Int)):=((El (l:=s.data.toList) (fun e=>D (by rw[←ae a,e];rfl)) (ae c) (by rw[ae a];omega) (fun e=>hb (by have:=e.2;rw[ae d,a0k]at this;rw[this];rfl))).trans (by rw[ae f]));have S:((s[0].toNat:Int) == 48)=false:=a0V.2 v;have T:((s.size:Int) == 0)=false:=a0V.2 r;clear A p hb c f d a u;go_wp2;go_ret;exact⟨by rw[ae g];rfl,rfl⟩
    .
     have E:¬ (1:Int)<(s.size:Int):=by omega
     have g:Hid (kc s.data.toList=(V:Int)):=((El (l:=s.data.toList) (fun e=>D (by rw[←ae a,e];rfl)) (ae c) (by rw[ae a];omega) (fun e=>J (by rw[←ae a];exact e.1))).trans (by rw[ae f]));clear A p c f d a u;go_wp2;go_ret;exact⟨by rw[ae g];rfl,rfl⟩
def xR(s:ByteArray):List ByteArray:=if 0<=Lib.indexByte s.data.toList 10 then [s.extract 0 (Lib.indexByte s.data.toList 10).toNat,bR s (Lib.indexByte s.data.toList 10).toNat]else [s]
theorem xT(h:Lib.indexByte s.data.toList 10 = -1):xR s=[s]:=by unfold xR;rw[h,a0d (by decide)]
theorem xS{i:Nat}(h:Lib.indexByte s.data.toList 10=(i:Int)):xR s=[s.extract 0 i,bR s i]:=by unfold xR;rw[h,a0e (by omega),a0l]
theorem lJ(l:List UInt8):Lib.indexByte l 10 = -1∨∃i:Nat,Lib.indexByte l 10=(i:Int):=by
 have:=Lib.indexByte_ge l 10;by_cases h:Lib.indexByte l 10 = -1
 . exact .inl h
 . exact .inr ⟨(Lib.indexByte l 10).toNat,by omega⟩
def ML(s:ByteArray)(k:Nat):Prop:=∀j,j<k->s.data.toList[j]?≠some 10
theorem MJ(h:ML s k)(b:s.data.toList[k]?=some 10):Lib.indexByte s.data.toList 10=(k:Int):=by
 rcases lJ s.data.toList with e|⟨o,e⟩
 . exact absurd b (Lib.indexByte_none e k)
 .
  obtain⟨c,h2⟩:=a3V e;rcases a3O o k with a|rfl|a
  . exact absurd c (h o a)
  . exact e
  . exact absurd b (h2 k a)
theorem MK(h:ML s s.size):Lib.indexByte s.data.toList 10 = -1:=by
 rcases lJ s.data.toList with e|⟨o,e⟩
 . exact e
 .
  have a:=(a3V e).1;have b:o<s.size:=by
   have:=(List.getElem?_eq_some_iff.1 a).1;simpa using this
  exact absurd a (h o b)
theorem Ca(s:ByteArray)(w:World)(T:s.size<=1048576) :
  Calls prog 49 #[.string s,.int .u8 10,.int .i64 1] w fun e w'=>∃v,e = .returned v/\cH w' w.heap.size v (xR s)/\Below w.heap.size w w':=by
 obtain⟨i0,G,u,x,y⟩:=a0w Tryz.infoStr;have U:(s.size:Int)<=1048576:=by omega
 have M:=af (cH.lit w w.heap.size (a0a _));have I:Hid (Below w.heap.size w (w.alloc (.cells #[] 9))):=(a0c _ _).alloc (a0a _) _;have z:Hid ((1<=maxLen/\1*16<=140737488355328)/\(2<=maxLen/\2*16<=140737488355328)):=by show(_/\_)/\(_/\_);unfold maxLen;omega
 clear T;go_enter func49,ntmps49;go_wp2_with fail
 go_loopw [7,8,9] (fun v fr i wr=>∃(k f:Nat) (P:List ByteArray),k<=s.size/\i = .int .i64 k/\fr = .int .i64 f/\cH wr w.heap.size v P/\Below w.heap.size w wr/\((P=[]/\f=0/\ML s k)∨(∃p:Nat,Lib.indexByte s.data.toList 10=(p:Int)/\P=[s.extract 0 p]/\f=p+1/\k=p+1))) (fun _ _ i _=>s.size-(intOf i).toNat)
 case atStart=>exact⟨0,0,[],a0g _,rfl,rfl,ae M,ae I,.inl ⟨rfl,rfl,fun j N=>absurd N (by omega)⟩⟩
 case round=>
  obtain⟨k,f,P,V,rfl,rfl,hq,t,L⟩:=hrel;have S:(k:Int)<=(s.size:Int):=by omega
  have o:=t.size;have m:=af t;rcases L with⟨rfl,rfl,F⟩|⟨p,O,rfl,rfl,rfl⟩
  .
   obtain⟨va,vc,rfl⟩:=hq.formN (n:=0) rfl;have h:=af (hq.own (n:=0) rfl);have B:=af F;clear hq t F;by_cases E:k<s.size
   .
    have A:(k:Int)<(s.size:Int):=by omega
    have C:=af (byte_at s k E);by_cases hb:s[k].toNat=10
    .
     have J:(s[k].toNat:Int)=10:=by omega
     have e10:s[k]=10:=UInt8.toNat_inj.1 hb;have HP:=af (MJ (ae B) (by rw[ae C,e10]));go_wp2_with (at_builtin;refine a0x _ rfl _ _ 24 rfl w.heap.size 9 i0 (.string ByteArray.empty) 1 16 a2l G u x y rfl (by decide) _ _ _ rfl (a0n (ae h) _) ⟨wr.heap.size,0,none⟩ 1 1 [.string (s.extract 0 k)] rfl rfl (bh _ _ rfl _ _) (mF _) (ae z).1.1 (ae z).1.2 (an o _) ?_;intro v' x2 c a g;clear g);have d:=aE (v:=.slice va 0 vc) a (ae h) (a0a _) o (ae m);have r:=af (eW (l:=[]) (b:=s.extract 0 k) rfl c);have q:=af d;clear c a d;go_wp2;go_roundw
     case rel=>exact⟨k+1,k+1,[s.extract 0 k],by omega,by go_num,by go_num,ae r,ae q,.inr ⟨k,ae HP,rfl,rfl,rfl⟩⟩
     case measure=>simp[intOf];omega
    .
     have J:¬ (s[k].toNat:Int)=10:=by omega
     have H:Hid (ML s (k+1)):=by
      intro j N e;by_cases K:j=k
      . subst K;rw[ae C,a0k]at e;exact hb (by rw[e];rfl)
      . exact ae B j (by omega) e
     have Q:Hid (cH wr w.heap.size (.slice va 0 vc) []):=ae h;go_wp2;go_roundw
     case rel=>exact⟨k+1,0,[],by omega,by go_num,rfl,ae Q,ae m,.inl ⟨rfl,rfl,ae H⟩⟩
     case measure=>simp[intOf];omega
   .
    obtain rfl:k=s.size:=by omega
    have D:=af (xT (MK (ae B)));go_wp2_with (at_builtin;refine a0x _ rfl _ _ 24 rfl w.heap.size 9 i0 (.string ByteArray.empty) 1 16 a2l G u x y rfl (by decide) _ _ _ rfl (a0n (ae h) _) ⟨wr.heap.size,0,none⟩ 1 1 [.string s] rfl rfl (bh _ _ rfl _ _) (mF _) (ae z).1.1 (ae z).1.2 (an o _) ?_;intro v' x2 c a g;clear g);have d:=aE (v:=.slice va 0 vc) a (ae h) (a0a _) o (ae m);have r:=af (eW (l:=[]) (b:=s) rfl c);have q:=af d;clear c a d;go_wp2;go_ret;exact⟨_,rfl,by rw[ae D];exact ae r,ae q⟩
  .
   obtain⟨va,vc,rfl⟩:=hq.formN (n:=1) rfl;have h:=af (hq.own (n:=1) rfl);have D:=af (xS O);have R:Hid (bR s p=s.extract (p+1) s.size):=rfl;rw[ae R]at D;clear hq t O;by_cases E:p+1<s.size
   .
    have A:(p:Int)+1<(s.size:Int):=by omega
    go_wp2_with (at_builtin;refine a0x _ rfl _ _ 24 rfl w.heap.size 9 i0 (.string ByteArray.empty) 1 16 a2l G u x y rfl (by decide) _ _ _ rfl (a0n (ae h) _) ⟨wr.heap.size,0,none⟩ 1 1 [.string (s.extract (p+1) s.size)] rfl rfl (bh _ _ rfl _ _) (mF _) (ae z).2.1 (ae z).2.2 (an o _) ?_;intro v' x2 c a g;clear g);have d:=aE (v:=.slice va 1 vc) a (ae h) (a0a _) o (ae m);have r:=af (eW (l:=[s.extract 0 p]) (b:=s.extract (p+1) s.size) rfl c);have q:=af d;clear c a d;go_wp2;go_ret;exact⟨_,rfl,by rw[ae D];exact ae r,ae q⟩
   .
    have A:¬ (p:Int)+1<(s.size:Int):=by omega
    go_wp2_with (at_builtin;refine a0x _ rfl _ _ 24 rfl w.heap.size 9 i0 (.string ByteArray.empty) 1 16 a2l G u x y rfl (by decide) _ _ _ rfl (a0n (ae h) _) ⟨wr.heap.size,0,none⟩ 1 1 [.string (s.extract (p+1) s.size)] rfl rfl (bh _ _ rfl _ _) (mF _) (ae z).2.1 (ae z).2.2 (an o _) ?_;intro v' x2 c a g;clear g);have d:=aE (v:=.slice va 1 vc) a (ae h) (a0a _) o (ae m);have r:=af (eW (l:=[s.extract 0 p]) (b:=s.extract (p+1) s.size) rfl c);have q:=af d;clear c a d;go_wp2;go_ret;exact⟨_,rfl,by rw[ae D];exact ae r,ae q⟩
def clN(b:Int)(z:Nat):Nat:=if b<0 then 0 else if (z:Int)<b then z else b.toNat
def ee(a b:ByteArray):Value:=.agg #[.string a,.string b]
def gr(t l x:ByteArray)(b:Int):Value:=if ((aQ t).isSome&&decide (l=⟨#[]⟩))=true/\(aQ x).isSome=true then ee t ((aJ x).extract 0 (clN b (aJ x).size))else ee ⟨#[]⟩ ⟨#[]⟩
def fm(t l:ByteArray):Value:=match iV l with
 | some x=>.tuple #[ee x ⟨#[]⟩,.bool true]
 | none=>if (aQ t).isSome=true then .tuple #[ee t ⟨#[]⟩,.bool true]else .tuple #[ee ⟨#[]⟩ ⟨#[]⟩,.bool false]
theorem kU(w:World)(a b:Array Value)(T1 T2:TypeId):Below w.heap.size w ((w.alloc (.cells a T1)).alloc (.cells b T2))/\Blk ((w.alloc (.cells a T1)).alloc (.cells b T2)) w.heap.size a.toList/\Blk ((w.alloc (.cells a T1)).alloc (.cells b T2)) (w.heap.size+1) b.toList:=by
 have e:(w.alloc (.cells a T1)).heap.size=w.heap.size+1:=by simp
 have c:=au w a T1;have h2:=au (w.alloc (.cells a T1)) b T2;rw[e]at h2;exact⟨((a0c _ _).alloc (a0a _) _).alloc (by rw[e];omega) _,c.later ((a0c _ _).alloc (a0a _) _) c.1,h2⟩
def DkS(w W:World)(ps rs:List Value):Prop:=Below w.heap.size w W/\Blk W w.heap.size ps/\Blk W (w.heap.size+1) rs
theorem DkS.later{W':World}{rs:List Value}(h:DkS w W ps rs)(hb:Below W.heap.size W W'):DkS w W' ps rs:=⟨ak h.1 hb,h.2.1.later hb h.2.1.1,h.2.2.later hb h.2.2.1⟩
theorem DkS.drew{rs:List Value}(h:DkS w W ps rs):DkS w W.drew ps rs:=⟨h.1.drew,h.2.1.drew,h.2.2.drew⟩
theorem DkS.put{a b:ByteArray}{u v:Value}(h:DkS w W ps [u,v]):DkS w ((W.setCell ⟨w.heap.size+1,0,none⟩ (.string a)).setCell ⟨w.heap.size+1,1,none⟩ (.string b)) ps [.string a,.string b]:=
 ⟨aj (aj h.1 (by omega) _) (by omega) _,(h.2.1.set_other _ (by omega)).set_other _ (by omega),(h.2.2.set 0 (.string a)).set 1 (.string b)⟩
theorem DkS.put3{a b c:ByteArray}{u v x:Value}(h:DkS w W ps [u,v,x]):DkS w (((W.setCell ⟨w.heap.size+1,0,none⟩ (.string a)).setCell ⟨w.heap.size+1,1,none⟩ (.string b)).setCell ⟨w.heap.size+1,2,none⟩ (.string c)) ps [.string a,.string b,.string c]:=
 ⟨aj (aj (aj h.1 (by omega) _) (by omega) _) (by omega) _,((h.2.1.set_other _ (by omega)).set_other _ (by omega)).set_other _ (by omega),((h.2.2.set 0 (.string a)).set 1 (.string b)).set 2 (.string c)⟩
theorem eZ(t l x:ByteArray)(b:Int)(w:World)(A:t.size<=1048576)(s:x.size<=1048576) :
  CD 21 #[ee t l,.string x,.int .i64 b] w (gr t l x b):=by
 have g:prog.follows .mixedOrders=true:=by kernel_rfl
 have T0:Hid (DkS w _ [.string t,.string l] _):=kU w #[.string t,.string l] #[.string ⟨#[]⟩,.string ⟨#[]⟩] 41 41;have u:=af (fun W=>iY t l W A);have y:=af (fun W=>my x W s);have z:=af (fun W=>FR x W s);have B:(aJ x).size<=1048600:=by
  have:=jV x.size (by omega);have e:(aJ x).size=(decDigits x.size).length+1+x.size:=by
   unfold aJ;rw[a0u,a0u];rfl
  omega
 have C:((aJ x).size:Int)<=1048600:=by omega
 have q:Hid (gr t l x b=if ((aQ t).isSome&&decide (l=⟨#[]⟩))=true/\(aQ x).isSome=true then ee t ((aJ x).extract 0 (clN b (aJ x).size))else ee ⟨#[]⟩ ⟨#[]⟩):=rfl;generalize ((aQ t).isSome&&decide (l=⟨#[]⟩))=B1 at *
 generalize (aQ x).isSome=B2 at *
 generalize aJ x=Z at *
 unfold ee;clear A s B;go_enter func21,ntmps21;go_wp2_with fail;refine(ae u _).mono ?_;rintro e x1 ⟨rfl,n⟩;have T1:=af ((ae T0).later n);clear n T0 u;cases B1
 .
  have f:Hid (gr t l x b = .agg #[.string ⟨#[]⟩,.string ⟨#[]⟩]):=by show _=_;rw[ae q];rfl
  have j:=(ae T1).2.2.cell 0 _ rfl;have g0:=(ae T1).2.2.free 0 (by decide);have k:=(ae T1).2.2.cell 1 _ rfl;have g1:=(ae T1).2.2.free 1 (by decide);have TZ:=af ((ae T1).put (a:=⟨#[]⟩) (b:=⟨#[]⟩));go_wp2;have z0:=(ae TZ).2.2.cell 0 _ rfl;have z1:=(ae TZ).2.2.cell 1 _ rfl;exact a0t (v:=.agg #[.string ⟨#[]⟩,.string ⟨#[]⟩]) (by simp[results,a3m,go_sem,z0,z1]) rfl ⟨by rw[ae f],(ae TZ).1⟩
 .
  go_wp2_with fail;refine(ae y _).mono ?_;rintro e x2 ⟨rfl,o⟩;have T2:=af ((ae T1).later o);clear o T1 y;cases B2
  .
   have f:Hid (gr t l x b = .agg #[.string ⟨#[]⟩,.string ⟨#[]⟩]):=by show _=_;rw[ae q];rfl
   have j:=(ae T2).2.2.cell 0 _ rfl;have g0:=(ae T2).2.2.free 0 (by decide);have k:=(ae T2).2.2.cell 1 _ rfl;have g1:=(ae T2).2.2.free 1 (by decide);have TZ:=af ((ae T2).put (a:=⟨#[]⟩) (b:=⟨#[]⟩));go_wp2;have z0:=(ae TZ).2.2.cell 0 _ rfl;have z1:=(ae TZ).2.2.cell 1 _ rfl;exact a0t (v:=.agg #[.string ⟨#[]⟩,.string ⟨#[]⟩]) (by simp[results,a3m,go_sem,z0,z1]) rfl ⟨by rw[ae f],(ae TZ).1⟩
  .
   have f:Hid (gr t l x b = .agg #[.string t,.string (Z.extract 0 (clN b Z.size))]):=by show _=_;rw[ae q];rfl
   go_wp2_with fail;refine(ae z _).mono ?_;rintro e x3 ⟨rfl,p⟩;have T3:=af ((ae T2).later p);clear p T2 z q;obtain⟨N,hN⟩:∃N,clN b Z.size=N:=⟨_,rfl⟩;have m:=af hN;by_cases r:b<0
   .
    have e0:N=0:=by rw[←hN];unfold clN;rw[a0e r]
    rw[ae m,e0,show Z.extract 0 0=ByteArray.empty by simp]at f;clear hN m e0;go_wp2_with fail;refine wp_region_held_drew (S:=fun W=>Blk W w.heap.size [.string t,.string l]) g (ae T3).2.1.drew (fun d=>?_);refine ag 0 (.pointer (some ⟨w.heap.size,0,none⟩)) rfl (by kernel_rfl) (fun _ _ _ h=>h) rfl (fun W c=>by go_simp) d ?_;refine ag 1 (.string t) rfl (by kernel_rfl) (fun _ _ _ h=>h) rfl (fun W c=>by have s0:=c.cell 0 _ rfl;go_simp) d ?_;refine ag 2 (.string Z) rfl (by kernel_rfl) (fun _ _ _ h=>h) rfl (fun W c=>by go_simp) d ?_;refine ag 3 (.int .i64 0) rfl (by kernel_rfl) (fun _ _ _ h=>h) rfl (fun W c=>by go_simp) d ?_;refine ag 4 (.string ByteArray.empty) rfl (by kernel_rfl) (fun _ _ _ h=>h) rfl (fun W c=>by go_simp) d ?_;refine ag 5 (.agg #[.string t,.string ByteArray.empty]) rfl (by kernel_rfl) (fun _ _ _ h=>h) rfl (fun W c=>by go_simp) d ?_;refine ah 6 (by kernel_rfl) rfl fun K i=>?_;have T4:=af (ae T3).drew;generalize x3.drew=x4 at *
    have j:=(ae T4).2.2.cell 0 _ rfl;have g0:=(ae T4).2.2.free 0 (by decide);have k:=(ae T4).2.2.cell 1 _ rfl;have g1:=(ae T4).2.2.free 1 (by decide);have TZ:=af ((ae T4).put (a:=t) (b:=ByteArray.empty));go_simp;refine Shut.out i _ _ (ae TZ).2.1 (fun d=>?_);clear i K j g0 k g1;refine wpAnyH_done (by kernel_rfl) ?_ _;go_wp2;have z0:=(ae TZ).2.2.cell 0 _ rfl;have z1:=(ae TZ).2.2.cell 1 _ rfl;exact a0t (v:=.agg #[.string t,.string ByteArray.empty]) (by simp[results,a3m,go_sem,z0,z1]) rfl ⟨by rw[ae f],(ae TZ).1⟩
   .
    by_cases h2:(Z.size:Int)<b
    .
     have e0:N=Z.size:=by rw[←hN];unfold clN;rw[a0d r,a0e h2]
     rw[ae m,e0,show Z.extract 0 Z.size=Z by simp]at f;clear hN m e0;go_wp2_with fail;refine wp_region_held_drew (S:=fun W=>Blk W w.heap.size [.string t,.string l]) g (ae T3).2.1.drew (fun d=>?_);refine ag 0 (.pointer (some ⟨w.heap.size,0,none⟩)) rfl (by kernel_rfl) (fun _ _ _ h=>h) rfl (fun W c=>by go_simp) d ?_;refine ag 1 (.string t) rfl (by kernel_rfl) (fun _ _ _ h=>h) rfl (fun W c=>by have s0:=c.cell 0 _ rfl;go_simp) d ?_;refine ag 2 (.string Z) rfl (by kernel_rfl) (fun _ _ _ h=>h) rfl (fun W c=>by go_simp) d ?_;refine ag 3 (.int .i64 (Z.size:Nat)) rfl (by kernel_rfl) (fun _ _ _ h=>h) rfl (fun W c=>by go_simp) d ?_;refine ag 4 (.string Z) rfl (by kernel_rfl) (fun _ _ _ h=>h) rfl (fun W c=>by go_simp) d ?_;refine ag 5 (.agg #[.string t,.string Z]) rfl (by kernel_rfl) (fun _ _ _ h=>h) rfl (fun W c=>by go_simp) d ?_;refine ah 6 (by kernel_rfl) rfl fun K i=>?_;have T4:=af (ae T3).drew;generalize x3.drew=x4 at *
     have j:=(ae T4).2.2.cell 0 _ rfl;have g0:=(ae T4).2.2.free 0 (by decide);have k:=(ae T4).2.2.cell 1 _ rfl;have g1:=(ae T4).2.2.free 1 (by decide);have TZ:=af ((ae T4).put (a:=t) (b:=Z));go_simp;refine Shut.out i _ _ (ae TZ).2.1 (fun d=>?_);clear i K j g0 k g1;refine wpAnyH_done (by kernel_rfl) ?_ _;go_wp2;have z0:=(ae TZ).2.2.cell 0 _ rfl;have z1:=(ae TZ).2.2.cell 1 _ rfl;exact a0t (v:=.agg #[.string t,.string Z]) (by simp[results,a3m,go_sem,z0,z1]) rfl ⟨by rw[ae f],(ae TZ).1⟩
    .
     have e0:N=b.toNat:=by rw[←hN];unfold clN;rw[a0d r,a0d h2]
     rw[ae m,e0]at f;have D:0<=b:=by omega
     have E:b<=(Z.size:Int):=by omega
     clear hN m e0;go_wp2_with fail;refine wp_region_held_drew (S:=fun W=>Blk W w.heap.size [.string t,.string l]) g (ae T3).2.1.drew (fun d=>?_);refine ag 0 (.pointer (some ⟨w.heap.size,0,none⟩)) rfl (by kernel_rfl) (fun _ _ _ h=>h) rfl (fun W c=>by go_simp) d ?_;refine ag 1 (.string t) rfl (by kernel_rfl) (fun _ _ _ h=>h) rfl (fun W c=>by have s0:=c.cell 0 _ rfl;go_simp) d ?_;refine ag 2 (.string Z) rfl (by kernel_rfl) (fun _ _ _ h=>h) rfl (fun W c=>by go_simp) d ?_;refine ag 3 (.int .i64 b) rfl (by kernel_rfl) (fun _ _ _ h=>h) rfl (fun W c=>by go_simp) d ?_;refine ag 4 (.string (Z.extract 0 b.toNat)) rfl (by kernel_rfl) (fun _ _ _ h=>h) rfl (fun W c=>by go_simp) d ?_;refine ag 5 (.agg #[.string t,.string (Z.extract 0 b.toNat)]) rfl (by kernel_rfl) (fun _ _ _ h=>h) rfl (fun W c=>by go_simp) d ?_;refine ah 6 (by kernel_rfl) rfl fun K i=>?_;have T4:=af (ae T3).drew;generalize x3.drew=x4 at *
     have j:=(ae T4).2.2.cell 0 _ rfl;have g0:=(ae T4).2.2.free 0 (by decide);have k:=(ae T4).2.2.cell 1 _ rfl;have g1:=(ae T4).2.2.free 1 (by decide);have TZ:=af ((ae T4).put (a:=t) (b:=Z.extract 0 b.toNat));go_simp;refine Shut.out i _ _ (ae TZ).2.1 (fun d=>?_);clear i K j g0 k g1;refine wpAnyH_done (by kernel_rfl) ?_ _;go_wp2;have z0:=(ae TZ).2.2.cell 0 _ rfl;have z1:=(ae TZ).2.2.cell 1 _ rfl;exact a0t (v:=.agg #[.string t,.string (Z.extract 0 b.toNat)]) (by simp[results,a3m,go_sem,z0,z1]) rfl ⟨by rw[ae f],(ae TZ).1⟩
theorem pY(t l:ByteArray)(w:World)(P:t.size<=1048576)(O:l.size<=1048576) :
  CD 26 #[ee t l] w (fm t l):=by
 have z:prog.follows .mixedOrders=true:=by kernel_rfl
 have T0:Hid (DkS w _ [.string t,.string l] _):=kU w #[.string t,.string l] #[.string ⟨#[]⟩,.string ⟨#[]⟩] 41 41;have E:=af (fun W=>Ca l W O);have N:=af (fun W=>my t W P);have F:Hid (∀x,iV l=some x->fm t l = .tuple #[ee x ⟨#[]⟩,.bool true]):=fun x h=>by unfold fm;rw[h]
 have y:Hid (iV l=none->fm t l=if (aQ t).isSome=true then .tuple #[ee t ⟨#[]⟩,.bool true]else .tuple #[ee ⟨#[]⟩ ⟨#[]⟩,.bool false]):=fun h=>by unfold fm;rw[h]
 generalize (aQ t).isSome=B4 at *
 unfold ee at F y ⊢;rcases lJ l.data.toList with r|⟨i,r⟩
 .
  have f:=af (rH r);rw[xT r]at E;clear P O r F;go_enter func26,ntmps26;go_wp2_with fail;refine(ae E _).mono ?_;rintro e x1 ⟨v,rfl,hq,u⟩;have T1:=af ((ae T0).later u);obtain⟨a,c,rfl⟩:=hq.formN (n:=1) rfl;clear u T0 E hq;go_wp2_with fail;refine wp_region_quiet_below z (by kernel_rfl) ?_;repeat (go_big_quiet_step (fail))
  refine a01 ?_;intro zw s;obtain⟨⟨B,osq⟩,k⟩:=s;have q:=below_regrown x1 B osq;rw[←k]at q;have T2:=af ((ae T1).later q);clear k q T1;have A:=(ae T2).2.1.cell 0 _ rfl;go_wp2_with fail;refine(ae N _).mono ?_;rintro e x9 ⟨rfl,o⟩;have T9:=af ((ae T2).later o);clear o A;cases B4
  . have j:=af (ae y (ae f));have G:=(ae T9).2.2.cell 0 _ rfl;have g0:=(ae T9).2.2.free 0 (by decide);have H:=(ae T9).2.2.cell 1 _ rfl;have g1:=(ae T9).2.2.free 1 (by decide);have TZ:=af ((ae T9).put (a:=⟨#[]⟩) (b:=⟨#[]⟩));go_wp2;have z0:=(ae TZ).2.2.cell 0 _ rfl;have z1:=(ae TZ).2.2.cell 1 _ rfl;exact a0t (v:=.tuple #[.agg #[.string ⟨#[]⟩,.string ⟨#[]⟩],.bool false]) (by simp[results,a2z,go_sem,z0,z1]) rfl ⟨by rw[ae j];rfl,(ae TZ).1⟩
  . have j:=af (ae y (ae f));have A:=(ae T9).2.1.cell 0 _ rfl;have G:=(ae T9).2.2.cell 0 _ rfl;have g0:=(ae T9).2.2.free 0 (by decide);have H:=(ae T9).2.2.cell 1 _ rfl;have g1:=(ae T9).2.2.free 1 (by decide);have TZ:=af ((ae T9).put (a:=t) (b:=⟨#[]⟩));go_wp2;have z0:=(ae TZ).2.2.cell 0 _ rfl;have z1:=(ae TZ).2.2.cell 1 _ rfl;exact a0t (v:=.tuple #[.agg #[.string t,.string ⟨#[]⟩],.bool true]) (by simp[results,a2z,go_sem,z0,z1]) rfl ⟨by rw[ae j];rfl,(ae TZ).1⟩
 .
  have m:=af (KG r);rw[xS r]at E;have L:(bR l i).size<=1048576:=by unfold bR;rw[a1p];omega
  have K:(l.extract 0 i).size<=1048576:=by rw[a1p];omega
  have R:Hid (∀W,CD 50 #[.string (l.extract 0 i)] W (.int .i64 (kc (l.data.toList.take i)))):=fun W=>by
   have e:(l.extract 0 i).data.toList=l.data.toList.take i:=by rw[ext_list];simp
   have h:=FG (l.extract 0 i) W K;rw[e]at h;exact h.mono (fun _ _ h=>⟨h.1,by rw[h.2];exact a0c _ _⟩)
  have S:=af (fun W=>my (bR l i) W L);have V:((bR l i).size:Int)<=1048576:=by omega
  clear P O r L K;generalize kc (l.data.toList.take i)=NF at *
  generalize (aQ (bR l i)).isSome=B3 at *
  generalize bR l i=X at *
  generalize l.extract 0 i=Y at *
  obtain⟨D,hD⟩:∃D,decide (NF=(X.size:Int))=D:=⟨_,rfl⟩;have J:=af hD;have T:(NF == (X.size:Int))=D:=by rw[←hD];rfl
  go_enter func26,ntmps26;go_wp2_with fail;refine(ae E _).mono ?_;rintro e x1 ⟨v,rfl,hq,u⟩;have T1:=af ((ae T0).later u);obtain⟨a,c,rfl⟩:=hq.formN (n:=2) rfl;obtain⟨g,rfl,U,C⟩:=cH.at (n:=2) rfl hq (by decide);have c0:=C 0 (by decide);have c1:=C 1 (by decide);simp only[List.getD,List.getElem?_cons_zero,List.getElem?_cons_succ,a1c]at c0 c1;have k0:=cell_regrown c0;have Q:=cell_regrown c1;have I:=fun d os=>Calls.regrown_of (w:=x1) (d:=d) (os:=os) (ae R _);have M:=fun d os=>Calls.regrown_of (w:=x1) (d:=d) (os:=os) (ae S _);clear u T0 E hq C;go_wp2_with fail;refine wp_region_quiet_below z (by kernel_rfl) ?_;cases D
  .
   have f:Hid (iV l=none):=by show _=_;rw[ae m,a0d (fun e=>by have:=ae J;rw[a0y e.1]at this;cases this)]
   clear m F
   go_big_quiet_step (fail)
   go_big_quiet_step (fail)
   go_big_quiet_step (fail)
   go_big_quiet_step (fail)
   go_big_quiet_step (fail)
   go_big_quiet_step (fail)
   go_big_quiet_step (fail)
   go_big_quiet_step (exact I _ _)
   go_big_quiet_step (fail)
   go_big_quiet_step (fail)
   go_big_quiet_step (fail)
   go_big_quiet_step (fail)
   go_big_quiet_step (fail)
   go_big_quiet_step (fail)
   go_big_quiet_step (fail)
   go_big_quiet_step (fail)
   go_big_quiet_step (fail)
   go_big_quiet_step (fail)
   go_big_quiet_step (fail)
   go_big_quiet_step (fail)
   refine a01 ?_;intro zw s;obtain⟨⟨B,osq⟩,k⟩:=s;have q:=below_regrown x1 B osq;rw[←k]at q;have T2:=af ((ae T1).later q);clear k q T1 I M k0 Q;have A:=(ae T2).2.1.cell 0 _ rfl;go_wp2_with fail;refine(ae N _).mono ?_;rintro e x9 ⟨rfl,o⟩;have T9:=af ((ae T2).later o);clear o A;cases B4
   . have j:=af (ae y (ae f));have G:=(ae T9).2.2.cell 0 _ rfl;have g0:=(ae T9).2.2.free 0 (by decide);have H:=(ae T9).2.2.cell 1 _ rfl;have g1:=(ae T9).2.2.free 1 (by decide);have TZ:=af ((ae T9).put (a:=⟨#[]⟩) (b:=⟨#[]⟩));go_wp2;have z0:=(ae TZ).2.2.cell 0 _ rfl;have z1:=(ae TZ).2.2.cell 1 _ rfl;exact a0t (v:=.tuple #[.agg #[.string ⟨#[]⟩,.string ⟨#[]⟩],.bool false]) (by simp[results,a2z,go_sem,z0,z1]) rfl ⟨by rw[ae j];rfl,(ae TZ).1⟩
   . have j:=af (ae y (ae f));have A:=(ae T9).2.1.cell 0 _ rfl;have G:=(ae T9).2.2.cell 0 _ rfl;have g0:=(ae T9).2.2.free 0 (by decide);have H:=(ae T9).2.2.cell 1 _ rfl;have g1:=(ae T9).2.2.free 1 (by decide);have TZ:=af ((ae T9).put (a:=t) (b:=⟨#[]⟩));go_wp2;have z0:=(ae TZ).2.2.cell 0 _ rfl;have z1:=(ae TZ).2.2.cell 1 _ rfl;exact a0t (v:=.tuple #[.agg #[.string t,.string ⟨#[]⟩],.bool true]) (by simp[results,a2z,go_sem,z0,z1]) rfl ⟨by rw[ae j];rfl,(ae TZ).1⟩
  .
   cases B3
   .
    have f:Hid (iV l=none):=by show _=_;rw[ae m,a0d (fun e=>by have:=e.2;cases this)]
    clear m F
    go_big_quiet_step (fail)
    go_big_quiet_step (fail)
    go_big_quiet_step (fail)
    go_big_quiet_step (fail)
    go_big_quiet_step (fail)
    go_big_quiet_step (fail)
    go_big_quiet_step (fail)
    go_big_quiet_step (exact I _ _)
    go_big_quiet_step (fail)
    go_big_quiet_step (fail)
    go_big_quiet_step (fail)
    go_big_quiet_step (fail)
    go_big_quiet_step (fail)
    go_big_quiet_step (fail)
    go_big_quiet_step (fail)
    go_big_quiet_step (fail)
    go_big_quiet_step (fail)
    go_big_quiet_step (fail)
    go_big_quiet_step (exact M _ _)
    go_big_quiet_step (fail)
    refine a01 ?_;intro zw s;obtain⟨⟨B,osq⟩,k⟩:=s;have q:=below_regrown x1 B osq;rw[←k]at q;have T2:=af ((ae T1).later q);clear k q T1 I M k0 Q;have A:=(ae T2).2.1.cell 0 _ rfl;go_wp2_with fail;refine(ae N _).mono ?_;rintro e x9 ⟨rfl,o⟩;have T9:=af ((ae T2).later o);clear o A;cases B4
    . have j:=af (ae y (ae f));have G:=(ae T9).2.2.cell 0 _ rfl;have g0:=(ae T9).2.2.free 0 (by decide);have H:=(ae T9).2.2.cell 1 _ rfl;have g1:=(ae T9).2.2.free 1 (by decide);have TZ:=af ((ae T9).put (a:=⟨#[]⟩) (b:=⟨#[]⟩));go_wp2;have z0:=(ae TZ).2.2.cell 0 _ rfl;have z1:=(ae TZ).2.2.cell 1 _ rfl;exact a0t (v:=.tuple #[.agg #[.string ⟨#[]⟩,.string ⟨#[]⟩],.bool false]) (by simp[results,a2z,go_sem,z0,z1]) rfl ⟨by rw[ae j];rfl,(ae TZ).1⟩
    . have j:=af (ae y (ae f));have A:=(ae T9).2.1.cell 0 _ rfl;have G:=(ae T9).2.2.cell 0 _ rfl;have g0:=(ae T9).2.2.free 0 (by decide);have H:=(ae T9).2.2.cell 1 _ rfl;have g1:=(ae T9).2.2.free 1 (by decide);have TZ:=af ((ae T9).put (a:=t) (b:=⟨#[]⟩));go_wp2;have z0:=(ae TZ).2.2.cell 0 _ rfl;have z1:=(ae TZ).2.2.cell 1 _ rfl;exact a0t (v:=.tuple #[.agg #[.string t,.string ⟨#[]⟩],.bool true]) (by simp[results,a2z,go_sem,z0,z1]) rfl ⟨by rw[ae j];rfl,(ae TZ).1⟩
   .
    have j:Hid (fm t l=_):=ae F X (by rw[ae m,a0e ⟨a2X (ae J),rfl⟩]);clear m F y
    go_big_quiet_step (fail)
    go_big_quiet_step (fail)
    go_big_quiet_step (fail)
    go_big_quiet_step (fail)
    go_big_quiet_step (fail)
    go_big_quiet_step (fail)
    go_big_quiet_step (fail)
    go_big_quiet_step (exact I _ _)
    go_big_quiet_step (fail)
    go_big_quiet_step (fail)
    go_big_quiet_step (fail)
    go_big_quiet_step (fail)
    go_big_quiet_step (fail)
    go_big_quiet_step (fail)
    go_big_quiet_step (fail)
    go_big_quiet_step (fail)
    go_big_quiet_step (fail)
    go_big_quiet_step (fail)
    go_big_quiet_step (exact M _ _)
    go_big_quiet_step (fail)
    refine a01 ?_;intro zw s;obtain⟨⟨B,osq⟩,k⟩:=s;have q:=below_regrown x1 B osq;rw[←k]at q;have T2:=af ((ae T1).later q);have Z:=(q.cell (p:=⟨g,1,none⟩) U).trans c1;clear k q T1 I M k0 Q;have G:=(ae T2).2.2.cell 0 _ rfl;have g0:=(ae T2).2.2.free 0 (by decide);have H:=(ae T2).2.2.cell 1 _ rfl;have g1:=(ae T2).2.2.free 1 (by decide);have TZ:=af ((ae T2).put (a:=X) (b:=⟨#[]⟩));go_wp2;have z0:=(ae TZ).2.2.cell 0 _ rfl;have z1:=(ae TZ).2.2.cell 1 _ rfl;exact a0t (v:=.tuple #[.agg #[.string X,.string ⟨#[]⟩],.bool true]) (by simp[results,a2z,go_sem,z0,z1]) rfl ⟨by rw[ae j],(ae TZ).1⟩
end Go.Proofs.YtlpmnnjlmjffpaaGreatDoor
