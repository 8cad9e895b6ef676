/- Texts. -/
import Derived.Test.YtfannoajibacnaaGreatDoorM31
set_option linter.all false
set_option maxRecDepth 100000
set_option maxHeartbeats 3200000
namespace Go.Proofs.YtfannoajibacnaaGreatDoor
open Go.Proofs.Tryz
open Go.RowKit Corb
def cY(s:ByteArray):Option (List UInt8×Nat):=if s.size<=700 then fW (ak s) (8*s.size) 0 []else none
def sM(d:Option (List UInt8×Nat)):Value:=match d with
 | none=>.tuple #[.string ⟨#[]⟩,.int .i64 0,.bool false]
 | some (T,q)=>.tuple #[.string ⟨T.toArray⟩,.int .i64 ((q/8:Nat):Int),.bool true]
def Ad{V sz p q:Nat}{T T':List UInt8}(h:fW V sz p T=some (T',q))(e:sz%8=0):q<=sz/\p<q/\q%8=0/\(T.length<=300->T'.length<=300):=by
 unfold fW at h;rcases a:gF V sz p T with _|⟨T1,c⟩
 . rw[a]at h;cases h
 rw[a]at h;simp only[a0f]at h;rcases h2:gz V c with _|f
 . rw[h2]at h;cases h
 rw[h2]at h;simp only[a0f,a0l,a0R]at h;obtain⟨rfl,rfl⟩:=h;have b:=LU a;have d:=Fc h2;exact⟨by omega,by omega,by omega,b.2.2⟩
def SP(w:World)(s:ByteArray)(t:TypeId):Sou (w.alloc (.cells #[s,.int .i64 0,.bool false,.slice none 0 0] t)) w.heap.size s 0 []:=by
 refine⟨?_,.slice none 0 0,by simp,by simp,a1b _ _ _ _⟩;unfold Rdr;simp only[Nat.zero_min,Nat.not_lt_zero,decide_false];exact⟨by simp,by simp,by simp,by simp,by simp,by simp,by simp⟩
def sR(s:ByteArray)(w:World)(u:s.size<=9223372036854775807)(m:dp w) :
  Ds 140 #[s] w (sM (cY s)):=by
 have g:Below w.heap.size w (w.alloc (.cells #[s,.int .i64 0,.bool false,.slice none 0 0] 234)):=cC;by_cases n:s.size<=700
 .
  have p:=Cd w.heap.size 0 s [] _ (SP w s 234) (by simp) (a0g _) (by omega) (m.later g) m.2;have e:cY s=fW (ak s) (8*s.size) 0 []:=a0d n;rw[←e]at p;have hq:∀T q,cY s=some (T,q)->q<=8*s.size/\q<=5600:=fun T q h=>by
   rw[e]at h;have:=Ad h (by omega);omega
  clear e;generalize cY s=d at *;have f:=af p;have l:=af g;have r:(s.size:Int)<=700:=by omega
  clear p g m u n;unfold UnP at f;rcases d with _|⟨T,q⟩
  .
   unfold sM;simp only;clear hq;go_enter func140,ntmps140;go_wp2_with fail;apply f.mono;rintro e x1⟨k,rfl⟩;have o:=af k.1;clear k f;go_wp2
   go_ret3
   exact⟨rfl,l.trans o⟩
  .
   unfold sM;simp only;obtain⟨j,t⟩:=hq T q rfl;have B:(q:Int)<=5600:=(by omega);have Hq:=af j;clear hq j t;go_enter func140,ntmps140;go_wp2_with fail;apply f.mono;rintro e x1⟨k,rfl,x,v,c3,f3,o3⟩;have o:=af k.1;have c1:=(x.at Hq).2.1;have A:(convert 22 9 v).run prog x1.drew = .ok (.string ⟨T.toArray⟩) x1.drew:=bC.text (w:=x1.drew) o3;clear k f x f3 o3 Hq;go_wp2_with fail;have i:=cE
   have y:x1.drew.cell? ⟨w.heap.size,1,none⟩=some (.int .i64 (q:Int)):=c1;have z:x1.drew.cell? ⟨w.heap.size,3,none⟩=some v:=c3;refine wp_region_held_drew (S:=fun W=>W=x1.drew) i rfl (fun b=>?_);refine ag 0 (.pointer w.heap.size) rfl (fun W a=>by subst a;go_simp) b ?_;refine ag 1 (.pointer w.heap.size) rfl (fun W a=>by subst a;go_simp) b ?_;refine ag 2 (.pointer (some ⟨w.heap.size,3,none⟩)) rfl (fun W a=>by subst a;go_simp) b ?_;refine ag 3 (v) rfl (fun W a=>by subst a;go_simp) b ?_;refine ag 4 (.string ⟨T.toArray⟩) rfl (fun W a=>by subst a;go_simp) b ?_;refine ag 5 (.pointer w.heap.size) rfl (fun W a=>by subst a;go_simp) b ?_;refine ag 6 (.pointer w.heap.size) rfl (fun W a=>by subst a;go_simp) b ?_;refine ag 7 (.pointer w.heap.size) rfl (fun W a=>by subst a;go_simp) b ?_;refine ag 8 (.pointer (some ⟨w.heap.size,1,none⟩)) rfl (fun W a=>by subst a;go_simp) b ?_;refine ag 9 (.int .i64 (q:Int)) rfl (fun W a=>by subst a;go_simp) b ?_;refine ag 10 (.int .i64 ((q/8:Nat):Int)) rfl (fun W a=>by subst a;go_simp;rw[a0V];omega) b ?_;refine ah 11 fun K c=>?_;go_simp;refine Shut.out c _ _ rfl (fun b=>?_);clear c K;refine ah 12 fun K c=>?_;go_simp;refine Shut.out c _ _ rfl (fun b=>?_);clear c K;refine ah 13 fun K c=>?_;go_simp;refine Shut.out c _ _ rfl (fun b=>?_);clear c K;refine wpAnyH_done (by kernel_rfl) ?_ _;go_wp2
   go_ret3
   exact⟨rfl,l.trans o.drew⟩
 .
  have e:cY s=none:=a0e n;rw[e];have r:(700:Int)<(s.size:Int):=by omega
  have l:=af g;clear g m u n e;unfold sM;simp only;go_enter func140,ntmps140;go_wp2
  go_ret3
  exact⟨rfl,l⟩
def qn{V sz p:Nat}{T:List UInt8} : gF V sz p T=(rJ V sz p T).bind fun r=>if V/2 ^ p%2=1 then some r else gF V sz r.2 r.1:=by
 rw[oq];unfold rJ;by_cases a:p+1<=sz
 .
  rw[dn a];simp only[a0f];rcases rdN V sz (p+1) 2 with _|⟨k,q⟩
  . rfl
  . rfl
 . rw[fS a];rfl
def GmI(sz V:Nat)(D:Option (List UInt8×Nat))(T:List UInt8)(q:Nat)(f l:Bool):Prop:=
 (f=false->q<=sz/\T.length<=300+q)/\(f=false->T.length<=300->l=false->gF V sz q T=D)/\(f=false->T.length<=300->l=true->D=some (T,q))/\((f=true∨300<T.length)->D=none)
def GmI.next{sz V q g:Nat}{D:Option (List UInt8×Nat)}{T T':List UInt8}{f':Bool}(h:GmI sz V D T q false false)(k:MR sz (q+1+2) T (rJ V sz q T) T' g f'):GmI sz V D T' g f' (decide (((V/2 ^ q%2:Nat):Int)=1)):=by
 obtain⟨m,h2,_,i⟩:=h;obtain⟨m1,m2,m3,m4⟩:=k;have d:(f'=true∨300<T'.length)->D=none:=fun j=>by
  by_cases c:T.length<=300
  . rw[←h2 rfl c rfl,qn,m3 c j];rfl
  . exact i (.inr (by omega))
 have e:f'=false->T'.length<=300->T.length<=300:=fun b a=>by
  by_cases c:T.length<=300
  . exact c
  .
   rcases m4 (by omega)with h|h
   . rw[h]at b;cases b
   . omega
 refine⟨fun b=>⟨(m1 b).1,(m1 b).2.2⟩,fun b a f=>?_,fun b a f=>?_,d⟩
 . have c:=e b a;have l:=of_decide_eq_false f;rw[←h2 rfl c rfl,qn (V:=V) (sz:=sz) (p:=q) (T:=T),m2 c b a];simp only[a0f];rw[a0e (by omega)]
 . have c:=e b a;have l:=a3y f;rw[←h2 rfl c rfl,qn (V:=V) (sz:=sz) (p:=q) (T:=T),m2 c b a];simp only[a0f];rw[a0d (by omega)]
def Up(w:World)(s:ByteArray)(t:TypeId):RF (w.alloc (.cells #[s,.int .i64 0,.bool false] t)) w.heap.size s 0 false:=by
 unfold RF;simp only[Nat.zero_min];exact⟨by simp,by simp,by simp,by simp,by simp,by simp,by simp⟩
def KY(s:ByteArray)(w:World)(hs:s.size<=2000) :
  Ds 163 #[s] w (sM (fW (ak s) (8*s.size) 0 [])):=by
 have H:=cE
 obtain⟨D,hD⟩:∃D,gF (ak s) (8*s.size) 0 []=D:=⟨_,rfl⟩;have L:Hid (fW (ak s) (8*s.size) 0 []=D.bind fun r=>(gz (ak s) r.2).bind fun q=>some (r.1,q)):=by
  show _=_;unfold fW;rw[hD]
 have HD:=af hD;have B:=af hs;have ao:(s.size:Int)<=2000:=by omega
 have C:=Up w s 272;have A0:Below w.heap.size w (w.alloc (.cells #[s,.int .i64 0,.bool false] 272)):=cC;have b:w.heap.size+1=(w.alloc (.cells #[s,.int .i64 0,.bool false] 272)).heap.size:=by simp
 have Z:=af (a0b C (a0b A0 b));clear hs hD C A0 b;go_enter func163,ntmps163;go_wp2_with fail;obtain⟨C,A0,b⟩:=ae Z;have G:World.ownsRow ((w.alloc (.cells #[s,.int .i64 0,.bool false] 272)).alloc (.cells #[] 5)) (w.heap.size+1) 5 1 (.slice (some ⟨w.heap.size+1,0,none⟩) 0 0) 0 []:=by
  have h:World.ownsRow ((w.alloc (.cells #[s,.int .i64 0,.bool false] 272)).alloc (.cells #[] 5)) (w.alloc (.cells #[s,.int .i64 0,.bool false] 272)).heap.size 5 1 (.slice (some ⟨(w.alloc (.cells #[s,.int .i64 0,.bool false] 272)).heap.size,0,none⟩) 0 0) 0 []:=a0S _ #[] 0 (a0a _) (by unfold maxLen;omega) rfl;rwa[←b]at h
 have A1:Below (w.heap.size+1) (w.alloc (.cells #[s,.int .i64 0,.bool false] 272)) ((w.alloc (.cells #[s,.int .i64 0,.bool false] 272)).alloc (.cells #[] 5)):=(a0c _ _).alloc (Nat.le_of_eq b) _;have R1:=C.kept A1;have Y:=af (A0.trans (A1.mono (a06 _)));have k:Hid (bC ((w.alloc (.cells #[s,.int .i64 0,.bool false] 272)).alloc (.cells #[] 5)) (w.heap.size+1) (.slice (some ⟨w.heap.size+1,0,none⟩) 0 0) []/\RF ((w.alloc (.cells #[s,.int .i64 0,.bool false] 272)).alloc (.cells #[] 5)) w.heap.size s 0 false):=⟨G,R1⟩;clear G A1 R1 A0 C b Z;generalize (w.alloc (.cells #[s,.int .i64 0,.bool false] 272)).alloc (.cells #[] 5)=x1 at *;go_loopw [6,7,8,9] (fun v l _ _ wr=>∃(T:List UInt8) (q:Nat) (f l':Bool),l = .bool l'/\bC wr (w.heap.size+1) v T/\RF wr w.heap.size s q f/\Below w.heap.size w wr/\GmI (8*s.size) (ak s) D T q f l') (fun _ l _ _ wr=>match l with | .bool true=>0|_=>sJ w.heap.size (8*s.size) wr)
 case atStart=>exact⟨[],0,false,false,rfl,k.1,k.2,Y,⟨fun _=>⟨a0g _,a0g _⟩,fun _ _ _=>ae HD,fun _ _=>nofun,fun h=>by rcases h with h|h<;>simp at h⟩⟩
 case round=>
  obtain⟨T,q,f,l,rfl,V,O,u,hI⟩:=hrel;clear k Y;obtain⟨m,hm⟩:∃m,T.length=m:=⟨_,rfl⟩;obtain⟨va,vc,rfl⟩:=V.formN hm;obtain⟨c2,f2⟩:=O.bad;have x:=af hm;have R:=af V;have M:=af O;have z:=af u;have o:=af hI;have A:=af O.far;clear hm V O u hI;cases f
  .
   cases l
   .
    have hq:=o.1 rfl;have HC:=af (LQ w.heap.size q m vc va s T wr x R (qt M hq.1) hq.1 B (by have:=ae x;omega));have Hq:=af hq;clear hq;go_wp2_with fail;apply HC.mono;rintro e x2⟨g,v2,T2,X,f2',rfl,o2,d,m2⟩;have E:=o.next m2
    have P:Hid ((match (Value.bool (decide (((ak s/2 ^ q%2:Nat):Int)=1)))with | .bool true=>0|_=>sJ w.heap.size (8*s.size) x2)<sJ w.heap.size (8*s.size) wr):=by
     show _<_;rw[ae A];have:=Hq.1;simp only[a07,a08];cases hl:decide (((ak s/2 ^ q%2:Nat):Int)=1)
     .
      simp only;rw[d.far];cases f2'
      . have:=m2.1 rfl;simp only[a07,a08];omega
      . simp only[a0Y];omega
     . simp only;omega
    generalize decide (((ak s/2 ^ q%2:Nat):Int)=1)=l2 at *;have N:Hid (bC x2 (w.heap.size+1) v2 T2/\RF x2 w.heap.size s X f2'/\Below w.heap.size w x2/\GmI (8*s.size) (ak s) D T2 X f2' l2):=⟨o2,d,z.trans g.1,E⟩;clear g o2 d m2 E HC;go_wp2_with fail;go_roundw
    case rel=>exact⟨T2,X,f2',l2,rfl,N.1,N.2.1,N.2.2.1,N.2.2.2⟩
    case measure=>exact P
   .
    have hq:=o.1 rfl;have i:=af (sd w.heap.size q false s wr M hq.1 (by have:=ae B;omega));have Hq:=af hq;have al:(m:Int)<=100000:=by have:=ae x;have:=ae B;omega
    have F:Hid (gz (ak s) q=if ak s/2 ^ q%2 ^ ((8-q%8)%8)=0 then some (q+(8-q%8)%8)else none):=rfl;obtain⟨Q,hQ⟩:∃Q,q+(8-q%8)%8=Q:=⟨_,rfl⟩;have U:Q<=8*s.size:=(by omega);rw[hQ]at i F;clear hq hQ;by_cases j:ak s/2 ^ q%2 ^ ((8-q%8)%8)=0
    .
     rw[a0B j]at i;rw[a0d j]at F;clear j;by_cases y:m<=300
     .
      have p:Hid (fW (ak s) (8*s.size) 0 []=some (T,Q)):=by
       show _=_;rw[ae L,o.2.2.1 rfl (by rw[ae x];exact y) rfl];simp only[a0f];rw[ae F];rfl
      go_wp2_with fail;apply i.mono;rintro e x2⟨rfl,d,g⟩;obtain⟨c3,f3⟩:=d.bad;have c1:x2.cell? ⟨w.heap.size,1,none⟩=some (.int .i64 (Q:Int)):=by have:=d.2.1;rwa[a1r U]at this
      have o2:=R.keep1 g (a0j _);have ad:(convert 22 9 (.slice va m vc)).run prog x2.drew = .ok (.string ⟨T.toArray⟩) x2.drew:=bC.text (w:=x2.drew) o2;have ab:x2.drew.cell? ⟨w.heap.size,1,none⟩=some (.int .i64 (Q:Int)):=c1;have ac:(Q:Int)<=16000:=by have:=ae B;omega
      have c:=af (z.trans g.1);clear i d g o2 M R;go_wp2_with fail;refine wp_region_held_drew (S:=fun W=>W=x2.drew) H rfl (fun n=>?_);refine ag 0 (.slice va m vc) rfl (fun W a=>by subst a;go_simp) n ?_;refine ag 1 (.string ⟨T.toArray⟩) rfl (fun W a=>by subst a;go_simp) n ?_;refine ag 2 (.pointer w.heap.size) rfl (fun W a=>by subst a;go_simp) n ?_;refine ag 3 (.pointer w.heap.size) rfl (fun W a=>by subst a;go_simp) n ?_;refine ag 4 (.pointer (some ⟨w.heap.size,1,none⟩)) rfl (fun W a=>by subst a;go_simp) n ?_;refine ag 5 (.int .i64 (Q:Int)) rfl (fun W a=>by subst a;go_simp) n ?_;refine ag 6 (.int .i64 ((Q/8:Nat):Int)) rfl (fun W a=>by subst a;go_simp;rw[a0V];omega) n ?_;refine ah 7 fun K t=>?_;go_simp;refine Shut.out t _ _ rfl (fun n=>?_);clear t K;refine ah 8 fun K t=>?_;go_simp;refine Shut.out t _ _ rfl (fun n=>?_);clear t K;refine ah 9 fun K t=>?_;go_simp;refine Shut.out t _ _ rfl (fun n=>?_);clear t K;refine wpAnyH_done (by kernel_rfl) ?_ _;go_wp2
      go_ret3
      exact⟨by rw[ae p];rfl,c.drew⟩
     .
      have aa:(300:Int)<(m:Int):=(by omega);have p:Hid (fW (ak s) (8*s.size) 0 []=none):=by
       show _=_;rw[ae L,o.2.2.2 (.inr (by rw[ae x];omega))];rfl
      go_wp2_with fail;apply i.mono;rintro e x2⟨rfl,d,g⟩;obtain⟨c3,f3⟩:=d.bad;have c:=af (z.trans g.1);clear i d g;go_wp2
      go_ret3
      exact⟨by rw[ae p];rfl,c⟩
    .
     rw[a0m j]at i;rw[a0e j]at F;clear j;have p:Hid (fW (ak s) (8*s.size) 0 []=none):=by
      show _=_;rw[ae L];by_cases y:m<=300
      . rw[o.2.2.1 rfl (by rw[ae x];exact y) rfl];simp only[a0f];rw[ae F];rfl
      . rw[o.2.2.2 (.inr (by rw[ae x];omega))];rfl
     go_wp2_with fail;apply i.mono;rintro e x2⟨rfl,d,g⟩;obtain⟨c3,f3⟩:=d.bad;have c:=af (z.trans g.1);clear i d g;go_wp2
     go_ret3
     exact⟨by rw[ae p];rfl,c⟩
  .
   have p:Hid (fW (ak s) (8*s.size) 0 []=none):=by
    show _=_;rw[ae L,o.2.2.2 (.inl rfl)];rfl
   obtain⟨q0,I,J⟩:=M.cut;have i:=af (sd w.heap.size q0 true s wr J I (by have:=ae B;omega));clear J I;cases l
   .
    go_wp2_with fail;apply i.mono;rintro e x2⟨rfl,d,g⟩;obtain⟨c3,f3⟩:=d.bad;have c:=af (z.trans g.1);clear i d g;go_wp2
    go_ret3
    exact⟨by rw[ae p];rfl,c⟩
   .
    go_wp2_with fail;apply i.mono;rintro e x2⟨rfl,d,g⟩;obtain⟨c3,f3⟩:=d.bad;have c:=af (z.trans g.1);clear i d g;go_wp2
    go_ret3
    exact⟨by rw[ae p];rfl,c⟩
def tC(s:ByteArray)(w:World)(h:s.size<=9223372036854775807) :
  Ds 129 #[s] w (sM (cY s)):=by
 by_cases c:s.size<=700
 .
  have a:=af (KY s w (by omega));have e:cY s=fW (ak s) (8*s.size) 0 []:=a0d c;rw[←e]at a;have g:¬ (700:Int)<(s.size:Int):=by omega
  clear e h c;generalize cY s=d at *;rcases d with _|⟨T,q⟩
  .
   unfold sM at a ⊢;simp only at a ⊢;go_enter func129,ntmps129;go_wp2_with fail;apply a.mono;rintro e x1⟨rfl,b⟩;have f:=af b;clear b a;go_wp2
   go_ret3
   exact⟨rfl,f⟩
  .
   unfold sM at a ⊢;simp only at a ⊢;go_enter func129,ntmps129;go_wp2_with fail;apply a.mono;rintro e x1⟨rfl,b⟩;have f:=af b;clear b a;go_wp2
   go_ret3
   exact⟨rfl,f⟩
 .
  have e:cY s=none:=a0e c;rw[e];have g:(700:Int)<(s.size:Int):=by omega
  clear h c e;unfold sM;simp only;go_enter func129,ntmps129;go_wp2
  go_ret3
  exact⟨rfl,a0c _ _⟩
