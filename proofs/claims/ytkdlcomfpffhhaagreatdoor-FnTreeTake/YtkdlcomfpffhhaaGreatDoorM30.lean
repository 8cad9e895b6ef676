/- Of what the proof is made: 4 texts, one behind the other. -/
import Derived.Test.YtkdlcomfpffhhaaGreatDoorM28
import Derived.Defers
import Derived.Recover
import Derived.OwnWalk
import Derived.Test.YtkdlcomfpffhhaaGreatDoorM24
set_option maxRecDepth 100000
set_option linter.unusedSimpArgs false
set_option linter.unusedVariables false
set_option maxHeartbeats 3200000
namespace Go.Proofs.YtkdlcomfpffhhaaGreatDoor
open Go.Proofs.Tryz
open Go.RowKit Corb
theorem As(w:World) :
  CallsD prog 223 #[] .returning w fun e u' w'=>e = .returned (.tuple #[])/\u' = .returning/\w'=w:=by
 refine callsD_of_wpS func223 rfl fun a c b=>?_;apply wpS_seq;apply wpS_region;simp[wpOpsS,go_sem,recoverD,b,ntmps223,Exit.thenS];refine wpS_of_wp ?_;go_wp2_with fail;cases a
 simp_all [bodyPostS,results,results223]
theorem xb(w:World) :
  CallsD prog 223 #[] (.panicking [{ v:=.iface 306 (.agg #[]),recovered:=false }]) w fun e u' w'=>e = .returned (.tuple #[])/\u' = .panicking [{ v:=.iface 306 (.agg #[]),recovered:=true }]/\Below w.heap.size w w':=by
 refine callsD_of_wpS func223 rfl fun d c b=>?_;apply wpS_seq;apply wpS_region;simp[wpOpsS,go_sem,recoverD,b,ntmps223,Exit.thenS];have a:(Instr.typeAssert (.iface 306 (.agg #[])) 20 306 true).run prog w = .ok (.tuple #[.agg #[],.bool true]) w:=by kernel_rfl
 refine wpS_of_wp ?_;go_wp2_with fail;simp[bodyPostS,results,results223];exact(a0c _ _).alloc (a0a _) _
def UnP(w:World)(b:Nat)(s:ByteArray)(d:Option (List UInt8×Nat))(e:Ending)(w':World):Prop:=
 KU b w w'/\match d with
  | none=>e = .returned (.bool false)
  | some (T,q)=>e = .returned (.bool true)/\Sou w' b s q T
theorem wF(b p:Nat)(s:ByteArray)(T:List UInt8)(w:World)(h:Sou w b s p T)(j:T.length<=300)(k:p<=8*s.size)(l:s.size<=2000000)(i:fP w)(hb:1<b) :
  Calls prog 201 #[.pointer (some ⟨b,0,none⟩)] w (UnP w b s (eK (ai s) (8*s.size) p T)):=by
 have HP:=af (FB b p s T w h j k l i hb);have g:=h.lt;clear h j k l i hb;generalize eK (ai s) (8*s.size) p T=d at *
 unfold cn at HP;unfold UnP;rcases d with _|⟨T',q⟩
 .
  go_enter_defers func201,ntmps201
  go_wp2_with fail;refine(ae HP).mono ?_;rintro e x1 ⟨a,rfl⟩;have c:=af (a0b a (show b<x1.heap.size from a0i g a.1.size));clear a HP;unfold iY;refine leaves_cons (f:=223) (args:=#[]) (by simp) (by simp[go_sem]) ?_;refine(xb x1).mono ?_;rintro e u' w'' ⟨rfl,rfl,m⟩;have n:=(ae c).1.later m (ae c).2;simp[Leaves,settle,results,results201,go_sem];exact n
 .
  go_enter_defers func201,ntmps201
  go_wp2_with fail;refine(ae HP).mono ?_;rintro e x1 ⟨a,rfl,s1⟩;have c:=af (a0b a s1);clear a s1 HP;go_wp2_with fail;refine leaves_cons (f:=223) (args:=#[]) (by simp) (by simp[go_sem]) ?_;refine(As x1).mono ?_;rintro e u' w'' ⟨rfl,rfl,rfl⟩;simp[Leaves,settle,results,results201,go_sem];exact ae c
def dN(s:ByteArray):Option (List UInt8×Nat):=if s.size<=700 then eK (ai s) (8*s.size) 0 []else none
def oJ(d:Option (List UInt8×Nat)):Value:=match d with
 | none=>.tuple #[.string ⟨#[]⟩,.int .i64 0,.bool false]
 | some (T,q)=>.tuple #[.string ⟨T.toArray⟩,.int .i64 ((q/8:Nat):Int),.bool true]
theorem vn{V sz p q:Nat}{T T':List UInt8}(h:eK V sz p T=some (T',q))(e:sz%8=0):q<=sz/\p<q/\q%8=0/\(T.length<=300->T'.length<=300):=by
 unfold eK at h;rcases a:fZ V sz p T with _|⟨T1,c⟩
 . rw[a]at h;cases h
 rw[a]at h;simp only[a0g]at h;rcases h2:fJ V c with _|f
 . rw[h2]at h;cases h
 rw[h2]at h;simp only[a0g,a0m,a0X]at h;obtain⟨rfl,rfl⟩:=h;have b:=FA a;have d:=zc h2;exact⟨by omega,by omega,by omega,b.2.2⟩
theorem Mb(w:World)(s:ByteArray)(t:TypeId):Sou (w.alloc (.cells #[.string s,.int .i64 0,.bool false,.slice none 0 0] t)) w.heap.size s 0 []:=by
 refine⟨?_,.slice none 0 0,by simp,by simp,a1x _ _ _ _⟩;unfold Rdr;simp only[Nat.zero_min,Nat.not_lt_zero,a3B];exact⟨by simp,by simp,by simp,by simp,by simp,by simp,by simp⟩
theorem oL(s:ByteArray)(w:World)(u:s.size<=9223372036854775807)(m:fP w) :
  CD 162 #[.string s] w (oJ (dN s)):=by
 have g:Below w.heap.size w (w.alloc (.cells #[.string s,.int .i64 0,.bool false,.slice none 0 0] 284)):=(a0c _ _).alloc (a0a _) _;by_cases n:s.size<=700
 .
  have p:=wF w.heap.size 0 s [] _ (Mb w s 284) (by simp) (a0h _) (by omega) (m.later g) m.2;have e:dN s=eK (ai s) (8*s.size) 0 []:=a0e n;rw[←e]at p;have hq:∀T q,dN s=some (T,q)->q<=8*s.size/\q<=5600:=fun T q h=>by
   rw[e]at h;have:=vn h (by omega);omega
  clear e;generalize dN s=d at *
  have f:=af p;have l:=af g;have r:(s.size:Int)<=700:=by omega
  clear p g m u n;unfold UnP at f;rcases d with _|⟨T,q⟩
  .
   unfold oJ;simp only;clear hq;go_enter func162,ntmps162;go_wp2_with fail;refine(ae f).mono ?_;rintro e x1 ⟨k,rfl⟩;have o:=af k.1;clear k f;go_wp2
   go_ret3
   exact⟨rfl,(ae l).trans (ae o)⟩
  .
   unfold oJ;simp only;obtain⟨j,t⟩:=hq T q rfl;have B:(q:Int)<=5600:=by omega
   have Hq:=af j;clear hq j t;go_enter func162,ntmps162;go_wp2_with fail;refine(ae f).mono ?_;rintro e x1 ⟨k,rfl,x,v,c3,f3,o3⟩;have o:=af k.1;have c1:=(x.at (ae Hq)).2.1;have A:(convert 22 9 v).run prog x1.drew = .ok (.string ⟨T.toArray⟩) x1.drew:=aK.text (w:=x1.drew) o3;clear k f x f3 o3 Hq;go_wp2_with fail;have i:prog.follows .mixedOrders=true:=by kernel_rfl
   have y:x1.drew.cell? ⟨w.heap.size,1,none⟩=some (.int .i64 (q:Int)):=c1;have z:x1.drew.cell? ⟨w.heap.size,3,none⟩=some v:=c3;refine a0H (S:=fun W=>W=x1.drew) i rfl (fun b=>?_);refine ag 0 (.pointer (some ⟨w.heap.size,0,none⟩)) rfl (by kernel_rfl) (fun _ _ _ h=>h) rfl (fun W a=>by subst a;go_simp) b ?_;refine ag 1 (.pointer (some ⟨w.heap.size,0,none⟩)) rfl (by kernel_rfl) (fun _ _ _ h=>h) rfl (fun W a=>by subst a;go_simp) b ?_;refine ag 2 (.pointer (some ⟨w.heap.size,3,none⟩)) rfl (by kernel_rfl) (fun _ _ _ h=>h) rfl (fun W a=>by subst a;go_simp) b ?_;refine ag 3 (v) rfl (by kernel_rfl) (fun _ _ _ h=>h) rfl (fun W a=>by subst a;go_simp) b ?_;refine ag 4 (.string ⟨T.toArray⟩) rfl (by kernel_rfl) (fun _ _ _ h=>h) rfl (fun W a=>by subst a;go_simp) b ?_;refine ag 5 (.pointer (some ⟨w.heap.size,0,none⟩)) rfl (by kernel_rfl) (fun _ _ _ h=>h) rfl (fun W a=>by subst a;go_simp) b ?_;refine ag 6 (.pointer (some ⟨w.heap.size,0,none⟩)) rfl (by kernel_rfl) (fun _ _ _ h=>h) rfl (fun W a=>by subst a;go_simp) b ?_;refine ag 7 (.pointer (some ⟨w.heap.size,0,none⟩)) rfl (by kernel_rfl) (fun _ _ _ h=>h) rfl (fun W a=>by subst a;go_simp) b ?_;refine ag 8 (.pointer (some ⟨w.heap.size,1,none⟩)) rfl (by kernel_rfl) (fun _ _ _ h=>h) rfl (fun W a=>by subst a;go_simp) b ?_;refine ag 9 (.int .i64 (q:Int)) rfl (by kernel_rfl) (fun _ _ _ h=>h) rfl (fun W a=>by subst a;go_simp) b ?_;refine ag 10 (.int .i64 ((q/8:Nat):Int)) rfl (by kernel_rfl) (fun _ _ _ h=>h) rfl (fun W a=>by subst a;go_simp;rw[a00];omega) b ?_;refine ah 11 (by kernel_rfl) rfl fun K c=>?_;go_simp;refine a0f c _ _ rfl (fun b=>?_);clear c K;refine ah 12 (by kernel_rfl) rfl fun K c=>?_;go_simp;refine a0f c _ _ rfl (fun b=>?_);clear c K;refine ah 13 (by kernel_rfl) rfl fun K c=>?_;go_simp;refine a0f c _ _ rfl (fun b=>?_);clear c K;refine a0u (by kernel_rfl) ?_ _;go_wp2
   go_ret3
   exact⟨rfl,(ae l).trans (ae o).drew⟩
 .
  have e:dN s=none:=a0d n;rw[e];have r:(700:Int)<(s.size:Int):=by omega
  have l:=af g;clear g m u n e;unfold oJ;simp only;go_enter func162,ntmps162;go_wp2
  go_ret3
  exact⟨rfl,ae l⟩
theorem mT{V sz p:Nat}{T:List UInt8} : fZ V sz p T=(nZ V sz p T).bind fun r=>if V/2 ^ p%2=1 then some r else fZ V sz r.2 r.1:=by
 rw[p6];unfold nZ;by_cases a:p+1<=sz
 .
  rw[ca a];simp only[a0g];rcases rdN V sz (p+1) 2 with _|⟨k,q⟩
  . rfl
  . rfl
 . rw[dZ a];rfl
def GmI(sz V:Nat)(D:Option (List UInt8×Nat))(T:List UInt8)(q:Nat)(f l:Bool):Prop:=
 (f=false->q<=sz/\T.length<=300+q)/\(f=false->T.length<=300->l=false->fZ V sz q T=D)/\(f=false->T.length<=300->l=true->D=some (T,q))/\((f=true∨300<T.length)->D=none)
theorem GmI.next{sz V q g:Nat}{D:Option (List UInt8×Nat)}{T T':List UInt8}{f':Bool}(h:GmI sz V D T q false false)(k:MR sz (q+1+2) T (nZ V sz q T) T' g f'):GmI sz V D T' g f' (decide (((V/2 ^ q%2:Nat):Int)=1)):=by
 obtain⟨m,h2,_,i⟩:=h;obtain⟨m1,m2,m3,m4⟩:=k;have d:(f'=true∨300<T'.length)->D=none:=fun j=>by
  by_cases c:T.length<=300
  . rw[←h2 rfl c rfl,mT,m3 c j];rfl
  . exact i (.inr (by omega))
 have e:f'=false->T'.length<=300->T.length<=300:=fun b a=>by
  by_cases c:T.length<=300
  . exact c
  .
   rcases m4 (by omega)with h|h
   . rw[h]at b;cases b
   . omega
 refine⟨fun b=>⟨(m1 b).1,(m1 b).2.2⟩,fun b a f=>?_,fun b a f=>?_,d⟩
 . have c:=e b a;have l:=of_decide_eq_false f;rw[←h2 rfl c rfl,mT (V:=V) (sz:=sz) (p:=q) (T:=T),m2 c b a];simp only[a0g];rw[a0d (by omega)]
 . have c:=e b a;have l:=a3s f;rw[←h2 rfl c rfl,mT (V:=V) (sz:=sz) (p:=q) (T:=T),m2 c b a];simp only[a0g];rw[a0e (by omega)]
theorem Nl(w:World)(s:ByteArray)(t:TypeId):RF (w.alloc (.cells #[.string s,.int .i64 0,.bool false] t)) w.heap.size s 0 false:=by
 unfold RF;simp only[Nat.zero_min];exact⟨by simp,by simp,by simp,by simp,by simp,by simp,by simp⟩
theorem EE(s:ByteArray)(w:World)(hs:s.size<=2000) :
  CD 192 #[.string s] w (oJ (eK (ai s) (8*s.size) 0 [])):=by
 have H:prog.follows .mixedOrders=true:=by kernel_rfl
 obtain⟨D,hD⟩:∃D,fZ (ai s) (8*s.size) 0 []=D:=⟨_,rfl⟩;have L:Hid (eK (ai s) (8*s.size) 0 []=D.bind fun r=>(fJ (ai s) r.2).bind fun q=>some (r.1,q)):=by
  show _=_;unfold eK;rw[hD]
 have HD:=af hD;have B:=af hs;have an:(s.size:Int)<=2000:=by omega
 have C:=Nl w s 302;have A0:Below w.heap.size w (w.alloc (.cells #[.string s,.int .i64 0,.bool false] 302)):=(a0c _ _).alloc (a0a _) _;have b:w.heap.size+1=(w.alloc (.cells #[.string s,.int .i64 0,.bool false] 302)).heap.size:=by simp
 have Z:=af (a0b C (a0b A0 b));clear hs hD C A0 b;go_enter func192,ntmps192;go_wp2_with fail;obtain⟨C,A0,b⟩:=ae Z;have G:World.ownsRow ((w.alloc (.cells #[.string s,.int .i64 0,.bool false] 302)).alloc (.cells #[] 5)) (w.heap.size+1) 5 1 (.slice (some ⟨w.heap.size+1,0,none⟩) 0 0) 0 []:=by
  have h:World.ownsRow ((w.alloc (.cells #[.string s,.int .i64 0,.bool false] 302)).alloc (.cells #[] 5)) (w.alloc (.cells #[.string s,.int .i64 0,.bool false] 302)).heap.size 5 1 (.slice (some ⟨(w.alloc (.cells #[.string s,.int .i64 0,.bool false] 302)).heap.size,0,none⟩) 0 0) 0 []:=a0P _ #[] 0 (a0a _) (by unfold maxLen;omega) rfl;rwa[←b]at h
 have A1:Below (w.heap.size+1) (w.alloc (.cells #[.string s,.int .i64 0,.bool false] 302)) ((w.alloc (.cells #[.string s,.int .i64 0,.bool false] 302)).alloc (.cells #[] 5)):=(a0c _ _).alloc (Nat.le_of_eq b) _;have R1:=C.kept A1;have Y:=af (A0.trans (A1.mono (a1k _)));have k:Hid (aK ((w.alloc (.cells #[.string s,.int .i64 0,.bool false] 302)).alloc (.cells #[] 5)) (w.heap.size+1) (.slice (some ⟨w.heap.size+1,0,none⟩) 0 0) []/\RF ((w.alloc (.cells #[.string s,.int .i64 0,.bool false] 302)).alloc (.cells #[] 5)) w.heap.size s 0 false):=⟨G,R1⟩;clear G A1 R1 A0 C b Z;generalize (w.alloc (.cells #[.string s,.int .i64 0,.bool false] 302)).alloc (.cells #[] 5)=x1 at *
 go_loopw [6,7,8,9] (fun v l _ _ wr=>∃(T:List UInt8) (q:Nat) (f l':Bool),l = .bool l'/\aK wr (w.heap.size+1) v T/\RF wr w.heap.size s q f/\Below w.heap.size w wr/\GmI (8*s.size) (ai s) D T q f l') (fun _ l _ _ wr=>match l with | .bool true=>0|_=>oH w.heap.size (8*s.size) wr)
 case atStart=>exact⟨[],0,false,false,rfl,(ae k).1,(ae k).2,ae Y,⟨fun _=>⟨a0h _,a0h _⟩,fun _ _ _=>ae HD,fun _ _=>nofun,fun h=>by rcases h with h|h<;>simp at h⟩⟩
 case round=>
  obtain⟨T,q,f,l,rfl,V,O,u,hI⟩:=hrel;clear k Y;obtain⟨m,hm⟩:∃m,T.length=m:=⟨_,rfl⟩;obtain⟨va,vc,rfl⟩:=V.formN hm;obtain⟨c2,f2⟩:=O.bad;have x:=af hm;have R:=af V;have M:=af O;have z:=af u;have o:=af hI;have A:=af O.far;clear hm V O u hI;cases f
  .
   cases l
   .
    have hq:=(ae o).1 rfl;have HC:=af (Fy w.heap.size q m vc va s T wr (ae x) (ae R) (mX (ae M) hq.1) hq.1 (ae B) (by have:=ae x;omega));have Hq:=af hq;clear hq;go_wp2_with fail;refine(ae HC).mono ?_;rintro e x2 ⟨g,v2,T2,X,f2',rfl,o2,d,m2⟩;have E:=(ae o).next m2
    have P:Hid ((match (Value.bool (decide (((ai s/2 ^ q%2:Nat):Int)=1)))with | .bool true=>0|_=>oH w.heap.size (8*s.size) x2)<oH w.heap.size (8*s.size) wr):=by
     show _<_;rw[ae A];have:=(ae Hq).1;simp only[a1e,a1f];cases hl:decide (((ai s/2 ^ q%2:Nat):Int)=1)
     .
      simp only;rw[d.far];cases f2'
      . have:=m2.1 rfl;simp only[a1e,a1f];omega
      . simp only[a09];omega
     . simp only;omega
    generalize decide (((ai s/2 ^ q%2:Nat):Int)=1)=l2 at *
    have N:Hid (aK x2 (w.heap.size+1) v2 T2/\RF x2 w.heap.size s X f2'/\Below w.heap.size w x2/\GmI (8*s.size) (ai s) D T2 X f2' l2):=⟨o2,d,(ae z).trans g.1,E⟩;clear g o2 d m2 E HC;go_wp2_with fail;go_roundw
    case rel=>exact⟨T2,X,f2',l2,rfl,(ae N).1,(ae N).2.1,(ae N).2.2.1,(ae N).2.2.2⟩
    case measure=>exact ae P
   .
    have hq:=(ae o).1 rfl;have i:=af (ou w.heap.size q false s wr (ae M) hq.1 (by have:=ae B;omega));have Hq:=af hq;have al:(m:Int)<=100000:=by have:=ae x;have:=ae B;omega
    have F:Hid (fJ (ai s) q=if ai s/2 ^ q%2 ^ ((8-q%8)%8)=0 then some (q+(8-q%8)%8)else none):=rfl;obtain⟨Q,hQ⟩:∃Q,q+(8-q%8)%8=Q:=⟨_,rfl⟩;have U:Q<=8*s.size:=by omega
    rw[hQ]at i F;clear hq hQ;by_cases j:ai s/2 ^ q%2 ^ ((8-q%8)%8)=0
    .
     rw[a0w j]at i;rw[a0e j]at F;clear j;by_cases y:m<=300
     .
      have p:Hid (eK (ai s) (8*s.size) 0 []=some (T,Q)):=by
       show _=_;rw[ae L,(ae o).2.2.1 rfl (by rw[ae x];exact y) rfl];simp only[a0g];rw[ae F];rfl
      go_wp2_with fail;refine(ae i).mono ?_;rintro e x2 ⟨rfl,d,g⟩;obtain⟨c3,f3⟩:=d.bad;have c1:x2.cell? ⟨w.heap.size,1,none⟩=some (.int .i64 (Q:Int)):=by have:=d.2.1;rwa[a1s U]at this
      have o2:=(ae R).keep1 g (a0l _);have ad:(convert 22 9 (.slice va m vc)).run prog x2.drew = .ok (.string ⟨T.toArray⟩) x2.drew:=aK.text (w:=x2.drew) o2;have ab:x2.drew.cell? ⟨w.heap.size,1,none⟩=some (.int .i64 (Q:Int)):=c1;have ac:(Q:Int)<=16000:=by have:=ae B;omega
      have c:=af ((ae z).trans g.1);clear i d g o2 M R;go_wp2_with fail;refine a0H (S:=fun W=>W=x2.drew) H rfl (fun n=>?_);refine ag 0 (.slice va m vc) rfl (by kernel_rfl) (fun _ _ _ h=>h) rfl (fun W a=>by subst a;go_simp) n ?_;refine ag 1 (.string ⟨T.toArray⟩) rfl (by kernel_rfl) (fun _ _ _ h=>h) rfl (fun W a=>by subst a;go_simp) n ?_;refine ag 2 (.pointer (some ⟨w.heap.size,0,none⟩)) rfl (by kernel_rfl) (fun _ _ _ h=>h) rfl (fun W a=>by subst a;go_simp) n ?_;refine ag 3 (.pointer (some ⟨w.heap.size,0,none⟩)) rfl (by kernel_rfl) (fun _ _ _ h=>h) rfl (fun W a=>by subst a;go_simp) n ?_;refine ag 4 (.pointer (some ⟨w.heap.size,1,none⟩)) rfl (by kernel_rfl) (fun _ _ _ h=>h) rfl (fun W a=>by subst a;go_simp) n ?_;refine ag 5 (.int .i64 (Q:Int)) rfl (by kernel_rfl) (fun _ _ _ h=>h) rfl (fun W a=>by subst a;go_simp) n ?_;refine ag 6 (.int .i64 ((Q/8:Nat):Int)) rfl (by kernel_rfl) (fun _ _ _ h=>h) rfl (fun W a=>by subst a;go_simp;rw[a00];omega) n ?_;refine ah 7 (by kernel_rfl) rfl fun K t=>?_;go_simp;refine a0f t _ _ rfl (fun n=>?_);clear t K;refine ah 8 (by kernel_rfl) rfl fun K t=>?_;go_simp;refine a0f t _ _ rfl (fun n=>?_);clear t K;refine ah 9 (by kernel_rfl) rfl fun K t=>?_;go_simp;refine a0f t _ _ rfl (fun n=>?_);clear t K;refine a0u (by kernel_rfl) ?_ _;go_wp2
      go_ret3
      exact⟨by rw[ae p];rfl,(ae c).drew⟩
     .
      have aa:(300:Int)<(m:Int):=by omega
      have p:Hid (eK (ai s) (8*s.size) 0 []=none):=by
       show _=_;rw[ae L,(ae o).2.2.2 (.inr (by rw[ae x];omega))];rfl
      go_wp2_with fail;refine(ae i).mono ?_;rintro e x2 ⟨rfl,d,g⟩;obtain⟨c3,f3⟩:=d.bad;have c:=af ((ae z).trans g.1);clear i d g;go_wp2
      go_ret3
      exact⟨by rw[ae p];rfl,ae c⟩
    .
     rw[a0j j]at i;rw[a0d j]at F;clear j;have p:Hid (eK (ai s) (8*s.size) 0 []=none):=by
      show _=_;rw[ae L];by_cases y:m<=300
      . rw[(ae o).2.2.1 rfl (by rw[ae x];exact y) rfl];simp only[a0g];rw[ae F];rfl
      . rw[(ae o).2.2.2 (.inr (by rw[ae x];omega))];rfl
     go_wp2_with fail;refine(ae i).mono ?_;rintro e x2 ⟨rfl,d,g⟩;obtain⟨c3,f3⟩:=d.bad;have c:=af ((ae z).trans g.1);clear i d g;go_wp2
     go_ret3
     exact⟨by rw[ae p];rfl,ae c⟩
  .
   have p:Hid (eK (ai s) (8*s.size) 0 []=none):=by
    show _=_;rw[ae L,(ae o).2.2.2 (.inl rfl)];rfl
   obtain⟨q0,I,J⟩:=(ae M).cut;have i:=af (ou w.heap.size q0 true s wr J I (by have:=ae B;omega));clear J I;cases l
   .
    go_wp2_with fail;refine(ae i).mono ?_;rintro e x2 ⟨rfl,d,g⟩;obtain⟨c3,f3⟩:=d.bad;have c:=af ((ae z).trans g.1);clear i d g;go_wp2
    go_ret3
    exact⟨by rw[ae p];rfl,ae c⟩
   .
    go_wp2_with fail;refine(ae i).mono ?_;rintro e x2 ⟨rfl,d,g⟩;obtain⟨c3,f3⟩:=d.bad;have c:=af ((ae z).trans g.1);clear i d g;go_wp2
    go_ret3
    exact⟨by rw[ae p];rfl,ae c⟩
theorem pp(s:ByteArray)(w:World)(h:s.size<=9223372036854775807) :
  CD 151 #[.string s] w (oJ (dN s)):=by
 by_cases c:s.size<=700
 .
  have a:=af (EE s w (by omega));have e:dN s=eK (ai s) (8*s.size) 0 []:=a0e c;rw[←e]at a;have g:¬ (700:Int)<(s.size:Int):=by omega
  clear e h c;generalize dN s=d at *
  rcases d with _|⟨T,q⟩
  .
   unfold oJ at a ⊢;simp only at a ⊢;go_enter func151,ntmps151;go_wp2_with fail;refine(ae a).mono ?_;rintro e x1 ⟨rfl,b⟩;have f:=af b;clear b a;go_wp2
   go_ret3
   exact⟨rfl,ae f⟩
  .
   unfold oJ at a ⊢;simp only at a ⊢;go_enter func151,ntmps151;go_wp2_with fail;refine(ae a).mono ?_;rintro e x1 ⟨rfl,b⟩;have f:=af b;clear b a;go_wp2
   go_ret3
   exact⟨rfl,ae f⟩
 .
  have e:dN s=none:=a0d c;rw[e];have g:(700:Int)<(s.size:Int):=by omega
  clear h c e;unfold oJ;simp only;go_enter func151,ntmps151;go_wp2
  go_ret3
  exact⟨rfl,a0c _ _⟩
end Go.Proofs.YtkdlcomfpffhhaaGreatDoor
