/- Of what the proof is made: 4 texts, one behind the other. -/
import Derived.Test.YtggknepmhjfohaaGreatDoorGq1
import Derived.Defers
import Derived.Recover
import Derived.OwnWalk
import Derived.Test.YtggknepmhjfohaaGreatDoorM25
set_option maxRecDepth 100000
set_option linter.unusedSimpArgs false
set_option linter.unusedVariables false
set_option maxHeartbeats 3200000
namespace Go.Proofs.YtggknepmhjfohaaGreatDoor
open Go.Proofs.Tryz
open Go.RowKit Corb
theorem AC(w:World) :
  CallsD prog 108 #[] .returning w fun e u' w'=>e = .returned (.tuple #[])/\u' = .returning/\w'=w:=by
 refine callsD_of_wpS func108 rfl fun a c b=>?_;apply wpS_seq;apply wpS_region;simp[wpOpsS,go_sem,recoverD,b,ntmps108,Exit.thenS];refine wpS_of_wp ?_;go_wp2_with fail;cases a
 simp_all [bodyPostS,results,results108]
theorem xw(w:World) :
  CallsD prog 108 #[] (.panicking [{ v:=.iface 151 (.agg #[]),recovered:=false }]) w fun e u' w'=>e = .returned (.tuple #[])/\u' = .panicking [{ v:=.iface 151 (.agg #[]),recovered:=true }]/\Below w.heap.size w w':=by
 refine callsD_of_wpS func108 rfl fun d c b=>?_;apply wpS_seq;apply wpS_region;simp[wpOpsS,go_sem,recoverD,b,ntmps108,Exit.thenS];have a:(Instr.typeAssert (.iface 151 (.agg #[])) 20 151 true).run prog w = .ok (.tuple #[.agg #[],.bool true]) w:=by kernel_rfl
 refine wpS_of_wp ?_;go_wp2_with fail;simp[bodyPostS,results,results108];exact(a0c _ _).alloc (a0a _) _
def UnP(w:World)(b:Nat)(s:ByteArray)(d:Option (List UInt8×Nat))(e:Ending)(w':World):Prop:=
 KU b w w'/\match d with
  | none=>e = .returned (.bool false)
  | some (T,q)=>e = .returned (.bool true)/\Sou w' b s q T
theorem wT(b p:Nat)(s:ByteArray)(T:List UInt8)(w:World)(h:Sou w b s p T)(j:T.length<=300)(k:p<=8*s.size)(l:s.size<=2000000)(i:ec w)(hb:0<b) :
  Calls prog 83 #[.pointer (some ⟨b,0,none⟩)] w (UnP w b s (eH (aj s) (8*s.size) p T)):=by
 have HP:=af (Fc b p s T w h j k l i hb);have g:=h.lt;clear h j k l i hb;generalize eH (aj s) (8*s.size) p T=d at *
 unfold cX at HP;unfold UnP;rcases d with _|⟨T',q⟩
 .
  go_enter_defers func83,ntmps83
  go_wp2_with fail;refine(ae HP).mono ?_;rintro e x1 ⟨a,rfl⟩;have c:=af (a0b a (show b<x1.heap.size from a0k g a.1.size));clear a HP;unfold jF;refine leaves_cons (f:=108) (args:=#[]) (by simp) (by simp[go_sem]) ?_;refine(xw x1).mono ?_;rintro e u' w'' ⟨rfl,rfl,m⟩;have n:=(ae c).1.later m (ae c).2;simp[Leaves,settle,results,results83,go_sem];exact n
 .
  go_enter_defers func83,ntmps83
  go_wp2_with fail;refine(ae HP).mono ?_;rintro e x1 ⟨a,rfl,s1⟩;have c:=af (a0b a s1);clear a s1 HP;go_wp2_with fail;refine leaves_cons (f:=108) (args:=#[]) (by simp) (by simp[go_sem]) ?_;refine(AC x1).mono ?_;rintro e u' w'' ⟨rfl,rfl,rfl⟩;simp[Leaves,settle,results,results83,go_sem];exact ae c
def cn(s:ByteArray):Option (List UInt8×Nat):=if s.size<=700 then eH (aj s) (8*s.size) 0 []else none
def pt(d:Option (List UInt8×Nat)):Value:=match d with
 | none=>.tuple #[.string ⟨#[]⟩,.int .i64 0,.bool false]
 | some (T,q)=>.tuple #[.string ⟨T.toArray⟩,.int .i64 ((q/8:Nat):Int),.bool true]
theorem vC{V sz p q:Nat}{T T':List UInt8}(h:eH V sz p T=some (T',q))(e:sz%8=0):q<=sz/\p<q/\q%8=0/\(T.length<=300->T'.length<=300):=by
 unfold eH at h;rcases a:fo V sz p T with _|⟨T1,c⟩
 . rw[a]at h;cases h
 rw[a]at h;simp only[a0f]at h;rcases h2:fj V c with _|f
 . rw[h2]at h;cases h
 rw[h2]at h;simp only[a0f,a0i,a0R]at h;obtain⟨rfl,rfl⟩:=h;have b:=Fb a;have d:=zx h2;exact⟨by omega,by omega,by omega,b.2.2⟩
theorem KH(w:World)(s:ByteArray)(t:TypeId):Sou (w.alloc (.cells #[.string s,.int .i64 0,.bool false,.slice none 0 0] t)) w.heap.size s 0 []:=by
 refine⟨?_,.slice none 0 0,by simp,by simp,a05 _ _ _ _⟩;unfold Rdr;simp only[Nat.zero_min,Nat.not_lt_zero,decide_false];exact⟨by simp,by simp,by simp,by simp,by simp,by simp,by simp⟩
theorem pz(s:ByteArray)(w:World)(x:s.size<=9223372036854775807)(m:ec w) :
  CD 60 #[.string s] w (pt (cn s)):=by
 have g:Below w.heap.size w (w.alloc (.cells #[.string s,.int .i64 0,.bool false,.slice none 0 0] 118)):=(a0c _ _).alloc (a0a _) _;by_cases n:s.size<=700
 .
  have p:=wT w.heap.size 0 s [] _ (KH w s 118) (by simp) (a0g _) (by omega) (m.later g) m.2;have e:cn s=eH (aj s) (8*s.size) 0 []:=a0d n;rw[←e]at p;have hq:∀T q,cn s=some (T,q)->q<=8*s.size/\q<=5600:=fun T q h=>by
   rw[e]at h;have:=vC h (by omega);omega
  clear e;generalize cn s=d at *
  have f:=af p;have l:=af g;have r:(s.size:Int)<=700:=by omega
  clear p g m x n;unfold UnP at f;rcases d with _|⟨T,q⟩
  .
   unfold pt;simp only;clear hq;go_enter func60,ntmps60;go_wp2_with fail;refine(ae f).mono ?_;rintro e x1 ⟨k,rfl⟩;have o:=af k.1;clear k f;go_wp2
   go_ret3
   exact⟨rfl,(ae l).trans (ae o)⟩
  .
   unfold pt;simp only;obtain⟨j,t⟩:=hq T q rfl;have C:(q:Int)<=5600:=by omega
   have u:=af j;clear hq j t;go_enter func60,ntmps60;go_wp2_with fail;refine(ae f).mono ?_;rintro e x1 ⟨k,rfl,y,v,c3,f3,o3⟩;have o:=af k.1;have c1:=(y.at (ae u)).2.1;have B:(convert 22 9 v).run prog x1.drew = .ok (.string ⟨T.toArray⟩) x1.drew:=aO.text (w:=x1.drew) o3;clear k f y f3 o3 u;go_wp2_with fail;have i:prog.follows .mixedOrders=true:=by kernel_rfl
   have z:x1.drew.cell? ⟨w.heap.size,1,none⟩=some (.int .i64 (q:Int)):=c1;have A:x1.drew.cell? ⟨w.heap.size,3,none⟩=some v:=c3;refine wp_region_held_drew (S:=fun W=>W=x1.drew) i rfl (fun b=>?_);refine ag 0 (.pointer (some ⟨w.heap.size,0,none⟩)) rfl (by kernel_rfl) (fun _ _ _ h=>h) rfl (fun W a=>by subst a;go_simp) b ?_;refine ag 1 (.pointer (some ⟨w.heap.size,0,none⟩)) rfl (by kernel_rfl) (fun _ _ _ h=>h) rfl (fun W a=>by subst a;go_simp) b ?_;refine ag 2 (.pointer (some ⟨w.heap.size,3,none⟩)) rfl (by kernel_rfl) (fun _ _ _ h=>h) rfl (fun W a=>by subst a;go_simp) b ?_;refine ag 3 (v) rfl (by kernel_rfl) (fun _ _ _ h=>h) rfl (fun W a=>by subst a;go_simp) b ?_;refine ag 4 (.string ⟨T.toArray⟩) rfl (by kernel_rfl) (fun _ _ _ h=>h) rfl (fun W a=>by subst a;go_simp) b ?_;refine ag 5 (.pointer (some ⟨w.heap.size,0,none⟩)) rfl (by kernel_rfl) (fun _ _ _ h=>h) rfl (fun W a=>by subst a;go_simp) b ?_;refine ag 6 (.pointer (some ⟨w.heap.size,0,none⟩)) rfl (by kernel_rfl) (fun _ _ _ h=>h) rfl (fun W a=>by subst a;go_simp) b ?_;refine ag 7 (.pointer (some ⟨w.heap.size,0,none⟩)) rfl (by kernel_rfl) (fun _ _ _ h=>h) rfl (fun W a=>by subst a;go_simp) b ?_;refine ag 8 (.pointer (some ⟨w.heap.size,1,none⟩)) rfl (by kernel_rfl) (fun _ _ _ h=>h) rfl (fun W a=>by subst a;go_simp) b ?_;refine ag 9 (.int .i64 (q:Int)) rfl (by kernel_rfl) (fun _ _ _ h=>h) rfl (fun W a=>by subst a;go_simp) b ?_;refine ag 10 (.int .i64 ((q/8:Nat):Int)) rfl (by kernel_rfl) (fun _ _ _ h=>h) rfl (fun W a=>by subst a;go_simp;rw[a1x];omega) b ?_;refine ai 11 (by kernel_rfl) rfl fun K c=>?_;go_simp;refine Shut.out c _ _ rfl (fun b=>?_);clear c K;refine ai 12 (by kernel_rfl) rfl fun K c=>?_;go_simp;refine Shut.out c _ _ rfl (fun b=>?_);clear c K;refine ai 13 (by kernel_rfl) rfl fun K c=>?_;go_simp;refine Shut.out c _ _ rfl (fun b=>?_);clear c K;refine wpAnyH_done (by kernel_rfl) ?_ _;go_wp2
   go_ret3
   exact⟨rfl,(ae l).trans (ae o).drew⟩
 .
  have e:cn s=none:=a0e n;rw[e];have r:(700:Int)<(s.size:Int):=by omega
  have l:=af g;clear g m x n e;unfold pt;simp only;go_enter func60,ntmps60;go_wp2
  go_ret3
  exact⟨rfl,ae l⟩
theorem nw{V sz p:Nat}{T:List UInt8} : fo V sz p T=(oF V sz p T).bind fun r=>if V/2 ^ p%2=1 then some r else fo V sz r.2 r.1:=by
 rw[lR];unfold oF;by_cases a:p+1<=sz
 .
  rw[cH a];simp only[a0f];rcases rdN V sz (p+1) 2 with _|⟨k,q⟩
  . rfl
  . rfl
 . rw[ez a];rfl
def GmI(sz V:Nat)(D:Option (List UInt8×Nat))(T:List UInt8)(q:Nat)(f l:Bool):Prop:=
 (f=false->q<=sz/\T.length<=300+q)/\(f=false->T.length<=300->l=false->fo V sz q T=D)/\(f=false->T.length<=300->l=true->D=some (T,q))/\((f=true∨300<T.length)->D=none)
theorem GmI.next{sz V q g:Nat}{D:Option (List UInt8×Nat)}{T T':List UInt8}{f':Bool}(h:GmI sz V D T q false false)(k:MR sz (q+1+2) T (oF V sz q T) T' g f'):GmI sz V D T' g f' (decide (((V/2 ^ q%2:Nat):Int)=1)):=by
 obtain⟨m,h2,_,i⟩:=h;obtain⟨m1,m2,m3,m4⟩:=k;have d:(f'=true∨300<T'.length)->D=none:=fun j=>by
  by_cases c:T.length<=300
  . rw[←h2 rfl c rfl,nw,m3 c j];rfl
  . exact i (.inr (by omega))
 have e:f'=false->T'.length<=300->T.length<=300:=fun b a=>by
  by_cases c:T.length<=300
  . exact c
  .
   rcases m4 (by omega)with h|h
   . rw[h]at b;cases b
   . omega
 refine⟨fun b=>⟨(m1 b).1,(m1 b).2.2⟩,fun b a f=>?_,fun b a f=>?_,d⟩
 . have c:=e b a;have l:=of_decide_eq_false f;rw[←h2 rfl c rfl,nw (V:=V) (sz:=sz) (p:=q) (T:=T),m2 c b a];simp only[a0f];rw[a0e (by omega)]
 . have c:=e b a;have l:=a3h f;rw[←h2 rfl c rfl,nw (V:=V) (sz:=sz) (p:=q) (T:=T),m2 c b a];simp only[a0f];rw[a0d (by omega)]
theorem LL(w:World)(s:ByteArray)(t:TypeId):RF (w.alloc (.cells #[.string s,.int .i64 0,.bool false] t)) w.heap.size s 0 false:=by
 unfold RF;simp only[Nat.zero_min];exact⟨by simp,by simp,by simp,by simp,by simp,by simp,by simp⟩
theorem Ev(s:ByteArray)(w:World)(hs:s.size<=2000) :
  CD 87 #[.string s] w (pt (eH (aj s) (8*s.size) 0 [])):=by
 have H:prog.follows .mixedOrders=true:=by kernel_rfl
 obtain⟨D,hD⟩:∃D,fo (aj s) (8*s.size) 0 []=D:=⟨_,rfl⟩;have L:Hid (eH (aj s) (8*s.size) 0 []=D.bind fun r=>(fj (aj s) r.2).bind fun q=>some (r.1,q)):=by
  show _=_;unfold eH;rw[hD]
 have HD:=af hD;have B:=af hs;have an:(s.size:Int)<=2000:=by omega
 have C:=LL w s 160;have A0:Below w.heap.size w (w.alloc (.cells #[.string s,.int .i64 0,.bool false] 160)):=(a0c _ _).alloc (a0a _) _;have b:w.heap.size+1=(w.alloc (.cells #[.string s,.int .i64 0,.bool false] 160)).heap.size:=by simp
 have Z:=af (a0b C (a0b A0 b));clear hs hD C A0 b;go_enter func87,ntmps87;go_wp2_with fail;obtain⟨C,A0,b⟩:=ae Z;have G:World.ownsRow ((w.alloc (.cells #[.string s,.int .i64 0,.bool false] 160)).alloc (.cells #[] 5)) (w.heap.size+1) 5 1 (.slice (some ⟨w.heap.size+1,0,none⟩) 0 0) 0 []:=by
  have h:World.ownsRow ((w.alloc (.cells #[.string s,.int .i64 0,.bool false] 160)).alloc (.cells #[] 5)) (w.alloc (.cells #[.string s,.int .i64 0,.bool false] 160)).heap.size 5 1 (.slice (some ⟨(w.alloc (.cells #[.string s,.int .i64 0,.bool false] 160)).heap.size,0,none⟩) 0 0) 0 []:=a04 _ #[] 0 (a0a _) (by unfold maxLen;omega) rfl;rwa[←b]at h
 have A1:Below (w.heap.size+1) (w.alloc (.cells #[.string s,.int .i64 0,.bool false] 160)) ((w.alloc (.cells #[.string s,.int .i64 0,.bool false] 160)).alloc (.cells #[] 5)):=(a0c _ _).alloc (Nat.le_of_eq b) _;have R1:=C.kept A1;have Y:=af (A0.trans (A1.mono (a01 _)));have k:Hid (aO ((w.alloc (.cells #[.string s,.int .i64 0,.bool false] 160)).alloc (.cells #[] 5)) (w.heap.size+1) (.slice (some ⟨w.heap.size+1,0,none⟩) 0 0) []/\RF ((w.alloc (.cells #[.string s,.int .i64 0,.bool false] 160)).alloc (.cells #[] 5)) w.heap.size s 0 false):=⟨G,R1⟩;clear G A1 R1 A0 C b Z;generalize (w.alloc (.cells #[.string s,.int .i64 0,.bool false] 160)).alloc (.cells #[] 5)=x1 at *
 go_loopw [6,7,8,9] (fun v l _ _ wr=>∃(T:List UInt8) (q:Nat) (f l':Bool),l = .bool l'/\aO wr (w.heap.size+1) v T/\RF wr w.heap.size s q f/\Below w.heap.size w wr/\GmI (8*s.size) (aj s) D T q f l') (fun _ l _ _ wr=>match l with | .bool true=>0|_=>pp w.heap.size (8*s.size) wr)
 case atStart=>exact⟨[],0,false,false,rfl,(ae k).1,(ae k).2,ae Y,⟨fun _=>⟨a0g _,a0g _⟩,fun _ _ _=>ae HD,fun _ _=>nofun,fun h=>by rcases h with h|h<;>simp at h⟩⟩
 case round=>
  obtain⟨T,q,f,l,rfl,V,O,u,hI⟩:=hrel;clear k Y;obtain⟨m,hm⟩:∃m,T.length=m:=⟨_,rfl⟩;obtain⟨va,vc,rfl⟩:=V.formN hm;obtain⟨c2,f2⟩:=O.bad;have x:=af hm;have R:=af V;have M:=af O;have z:=af u;have o:=af hI;have A:=af O.far;clear hm V O u hI;cases f
  .
   cases l
   .
    have hq:=(ae o).1 rfl;have HC:=af (E9 w.heap.size q m vc va s T wr (ae x) (ae R) (nC (ae M) hq.1) hq.1 (ae B) (by have:=ae x;omega));have Hq:=af hq;clear hq;go_wp2_with fail;refine(ae HC).mono ?_;rintro e x2 ⟨g,v2,T2,X,f2',rfl,o2,d,m2⟩;have E:=(ae o).next m2
    have P:Hid ((match (Value.bool (decide (((aj s/2 ^ q%2:Nat):Int)=1)))with | .bool true=>0|_=>pp w.heap.size (8*s.size) x2)<pp w.heap.size (8*s.size) wr):=by
     show _<_;rw[ae A];have:=(ae Hq).1;simp only[a0Y,a0Z];cases hl:decide (((aj s/2 ^ q%2:Nat):Int)=1)
     .
      simp only;rw[d.far];cases f2'
      . have:=m2.1 rfl;simp only[a0Y,a0Z];omega
      . simp only[a0T];omega
     . simp only;omega
    generalize decide (((aj s/2 ^ q%2:Nat):Int)=1)=l2 at *
    have N:Hid (aO x2 (w.heap.size+1) v2 T2/\RF x2 w.heap.size s X f2'/\Below w.heap.size w x2/\GmI (8*s.size) (aj s) D T2 X f2' l2):=⟨o2,d,(ae z).trans g.1,E⟩;clear g o2 d m2 E HC;go_wp2_with fail;go_roundw
    case rel=>exact⟨T2,X,f2',l2,rfl,(ae N).1,(ae N).2.1,(ae N).2.2.1,(ae N).2.2.2⟩
    case measure=>exact ae P
   .
    have hq:=(ae o).1 rfl;have i:=af (oY w.heap.size q false s wr (ae M) hq.1 (by have:=ae B;omega));have Hq:=af hq;have al:(m:Int)<=100000:=by have:=ae x;have:=ae B;omega
    have F:Hid (fj (aj s) q=if aj s/2 ^ q%2 ^ ((8-q%8)%8)=0 then some (q+(8-q%8)%8)else none):=rfl;obtain⟨Q,hQ⟩:∃Q,q+(8-q%8)%8=Q:=⟨_,rfl⟩;have U:Q<=8*s.size:=by omega
    rw[hQ]at i F;clear hq hQ;by_cases j:aj s/2 ^ q%2 ^ ((8-q%8)%8)=0
    .
     rw[a0v j]at i;rw[a0d j]at F;clear j;by_cases y:m<=300
     .
      have p:Hid (eH (aj s) (8*s.size) 0 []=some (T,Q)):=by
       show _=_;rw[ae L,(ae o).2.2.1 rfl (by rw[ae x];exact y) rfl];simp only[a0f];rw[ae F];rfl
      go_wp2_with fail;refine(ae i).mono ?_;rintro e x2 ⟨rfl,d,g⟩;obtain⟨c3,f3⟩:=d.bad;have c1:x2.cell? ⟨w.heap.size,1,none⟩=some (.int .i64 (Q:Int)):=by have:=d.2.1;rwa[a1r U]at this
      have o2:=(ae R).keep1 g (a0h _);have ad:(convert 22 9 (.slice va m vc)).run prog x2.drew = .ok (.string ⟨T.toArray⟩) x2.drew:=aO.text (w:=x2.drew) o2;have ab:x2.drew.cell? ⟨w.heap.size,1,none⟩=some (.int .i64 (Q:Int)):=c1;have ac:(Q:Int)<=16000:=by have:=ae B;omega
      have c:=af ((ae z).trans g.1);clear i d g o2 M R;go_wp2_with fail;refine wp_region_held_drew (S:=fun W=>W=x2.drew) H rfl (fun n=>?_);refine ag 0 (.slice va m vc) rfl (by kernel_rfl) (fun _ _ _ h=>h) rfl (fun W a=>by subst a;go_simp) n ?_;refine ag 1 (.string ⟨T.toArray⟩) rfl (by kernel_rfl) (fun _ _ _ h=>h) rfl (fun W a=>by subst a;go_simp) n ?_;refine ag 2 (.pointer (some ⟨w.heap.size,0,none⟩)) rfl (by kernel_rfl) (fun _ _ _ h=>h) rfl (fun W a=>by subst a;go_simp) n ?_;refine ag 3 (.pointer (some ⟨w.heap.size,0,none⟩)) rfl (by kernel_rfl) (fun _ _ _ h=>h) rfl (fun W a=>by subst a;go_simp) n ?_;refine ag 4 (.pointer (some ⟨w.heap.size,1,none⟩)) rfl (by kernel_rfl) (fun _ _ _ h=>h) rfl (fun W a=>by subst a;go_simp) n ?_;refine ag 5 (.int .i64 (Q:Int)) rfl (by kernel_rfl) (fun _ _ _ h=>h) rfl (fun W a=>by subst a;go_simp) n ?_;refine ag 6 (.int .i64 ((Q/8:Nat):Int)) rfl (by kernel_rfl) (fun _ _ _ h=>h) rfl (fun W a=>by subst a;go_simp;rw[a1x];omega) n ?_;refine ai 7 (by kernel_rfl) rfl fun K t=>?_;go_simp;refine Shut.out t _ _ rfl (fun n=>?_);clear t K;refine ai 8 (by kernel_rfl) rfl fun K t=>?_;go_simp;refine Shut.out t _ _ rfl (fun n=>?_);clear t K;refine ai 9 (by kernel_rfl) rfl fun K t=>?_;go_simp;refine Shut.out t _ _ rfl (fun n=>?_);clear t K;refine wpAnyH_done (by kernel_rfl) ?_ _;go_wp2
      go_ret3
      exact⟨by rw[ae p];rfl,(ae c).drew⟩
     .
      have aa:(300:Int)<(m:Int):=by omega
      have p:Hid (eH (aj s) (8*s.size) 0 []=none):=by
       show _=_;rw[ae L,(ae o).2.2.2 (.inr (by rw[ae x];omega))];rfl
      go_wp2_with fail;refine(ae i).mono ?_;rintro e x2 ⟨rfl,d,g⟩;obtain⟨c3,f3⟩:=d.bad;have c:=af ((ae z).trans g.1);clear i d g;go_wp2
      go_ret3
      exact⟨by rw[ae p];rfl,ae c⟩
    .
     rw[a0j j]at i;rw[a0e j]at F;clear j;have p:Hid (eH (aj s) (8*s.size) 0 []=none):=by
      show _=_;rw[ae L];by_cases y:m<=300
      . rw[(ae o).2.2.1 rfl (by rw[ae x];exact y) rfl];simp only[a0f];rw[ae F];rfl
      . rw[(ae o).2.2.2 (.inr (by rw[ae x];omega))];rfl
     go_wp2_with fail;refine(ae i).mono ?_;rintro e x2 ⟨rfl,d,g⟩;obtain⟨c3,f3⟩:=d.bad;have c:=af ((ae z).trans g.1);clear i d g;go_wp2
     go_ret3
     exact⟨by rw[ae p];rfl,ae c⟩
  .
   have p:Hid (eH (aj s) (8*s.size) 0 []=none):=by
    show _=_;rw[ae L,(ae o).2.2.2 (.inl rfl)];rfl
   obtain⟨q0,I,J⟩:=(ae M).cut;have i:=af (oY w.heap.size q0 true s wr J I (by have:=ae B;omega));clear J I;cases l
   .
    go_wp2_with fail;refine(ae i).mono ?_;rintro e x2 ⟨rfl,d,g⟩;obtain⟨c3,f3⟩:=d.bad;have c:=af ((ae z).trans g.1);clear i d g;go_wp2
    go_ret3
    exact⟨by rw[ae p];rfl,ae c⟩
   .
    go_wp2_with fail;refine(ae i).mono ?_;rintro e x2 ⟨rfl,d,g⟩;obtain⟨c3,f3⟩:=d.bad;have c:=af ((ae z).trans g.1);clear i d g;go_wp2
    go_ret3
    exact⟨by rw[ae p];rfl,ae c⟩
theorem pV(s:ByteArray)(w:World)(h:s.size<=9223372036854775807) :
  CD 63 #[.string s] w (pt (cn s)):=by
 by_cases c:s.size<=700
 .
  have a:=af (Ev s w (by omega));have e:cn s=eH (aj s) (8*s.size) 0 []:=a0d c;rw[←e]at a;have g:¬ (700:Int)<(s.size:Int):=by omega
  clear e h c;generalize cn s=d at *
  rcases d with _|⟨T,q⟩
  .
   unfold pt at a ⊢;simp only at a ⊢;go_enter func63,ntmps63;go_wp2_with fail;refine(ae a).mono ?_;rintro e x1 ⟨rfl,b⟩;have f:=af b;clear b a;go_wp2
   go_ret3
   exact⟨rfl,ae f⟩
  .
   unfold pt at a ⊢;simp only at a ⊢;go_enter func63,ntmps63;go_wp2_with fail;refine(ae a).mono ?_;rintro e x1 ⟨rfl,b⟩;have f:=af b;clear b a;go_wp2
   go_ret3
   exact⟨rfl,ae f⟩
 .
  have e:cn s=none:=a0e c;rw[e];have g:(700:Int)<(s.size:Int):=by omega
  clear h c e;unfold pt;simp only;go_enter func63,ntmps63;go_wp2
  go_ret3
  exact⟨rfl,a0c _ _⟩
end Go.Proofs.YtggknepmhjfohaaGreatDoor
