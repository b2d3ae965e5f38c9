import Derived.Test.YtdohpenfkdckiaaGreatDoorJ06
set_option linter.all false
set_option maxRecDepth 100000
set_option maxHeartbeats 20000000
namespace Go.Proofs.YtdohpenfkdckiaaGreatDoor
open Go.Proofs.Tryz
open Go.RowKit
theorem jV1(x:Int)(w):Calls prog 296 #[.int .u64 x] w λe a=>e=.returned (.bool false)/\a=w:=by
 go_enter func296,ntmps296;go_wp2;go_ret;exact⟨rfl,rfl⟩
theorem jS8(x y:Int)(w):Calls prog 283 #[.int .u64 x,.int .u64 y] w λe a=>e=.returned (.bool (decide (x<y)))/\a=w:=by
 go_enter func283,ntmps283;go_wp2_with fail;refine (jV1 x w).mono ?_;rintro e b ⟨rfl,rfl⟩;go_wp2;go_ret;exact⟨rfl,rfl⟩
theorem jS7(x:Int)(a:0<=x)(b:x<12)(w):Calls prog 287 #[.int .u64 x] w λe d=>(∃ n,e=.returned (.int .i64 n))/\d=w:=by
 have c:x=0\/x=1\/x=2\/x=3\/x=4\/x=5\/x=6\/x=7\/x=8\/x=9\/x=10\/x=11:=oM
 rcases c with rfl|rfl|rfl|rfl|rfl|rfl|rfl|rfl|rfl|rfl|rfl|rfl <;>
 .clear a b;go_enter func287,ntmps287;go_wp2;go_ret;exact⟨⟨_,rfl⟩,rfl⟩
theorem xI8(x:Int)(a:0<=x)(b:x<12)(w):Calls prog 270 #[.int .u64 x] w λe c=>(∃ n,e=.returned (.int .i64 n))/\c=w:=by
 go_enter func270,ntmps270;go_wp2_with fail;refine (jS7 x a b w).mono ?_;rintro e d ⟨⟨n,rfl⟩,rfl⟩;go_wp2;go_ret;exact⟨⟨_,rfl⟩,rfl⟩
def RowU(w:World)(g:Nat)(ks:List Int)(c:Nat):Prop:=∃ cur,w.heap[g]?=some (.cells cur 78)∧cur.size=c∧∀ i (h:i<ks.length),cur[i]?=some (.int .u64 ks[i])
def qT1(w:World)(g:Nat)(ks:List Int)(c:Nat)(W:World):Prop:=∃ ks',ks'.Perm ks∧RowU W g ks' c∧Kp [g] w W
theorem jP6(g b:Nat)(ks:List Int)(w)(v:RowU w g ks b)(H:ks.length<=b)(E:ks.length<=12):
  Calls prog 277 #[.slice (some ⟨g,0,none⟩) ks.length b,.int .i64 0,.int .i64 ks.length] w λe I=>e=.returned (.tuple #[])/\qT1 w g ks b I:=by
 obtain⟨k,c⟩:=eX ks.length;rw[<-c];have z:=zh c;have C:=zh v;rw[<-c] at H E;clear c v;go_enter func277,ntmps277;go_wp2_with fail
 go_loopw [6] (λi wr=>∃ (j:Nat),1<=j/\j<=13/\i=.int .i64 j/\Hid (qT1 w g ks b wr)) (λi _=>(14-intOf i).toNat)
 case atStart=>exact⟨1,oM,oM,rfl,ks,List.Perm.refl _,C,Kp.refl _ _⟩
 case round=>
  obtain⟨j,N,O,rfl,r⟩:=hrel;by_cases Q:j<k
  .have G:(j:Int)<(k:Int):=oM
   go_wp2_with fail
   go_loopw [7] (λi wr=>∃ (m:Nat),m<=j/\i=.int .i64 m/\Hid (qT1 w g ks b wr)) (λi _=>(intOf i).toNat)
   case atStart=>exact⟨j,lR,rfl,r⟩
   case round=>
    obtain⟨m,S,rfl,s⟩:=hrel;by_cases R:0<m
    .have F:decide ((0:Int)<(m:Int))=true:=sO
     obtain⟨a,hp,⟨cur,hc,hsz,hcur⟩,hK⟩:=s.out;have P:=hp.length_eq;have c:=z.out;have x:=ξ hc m;rw[hcur m oM] at x;have y:=ξ hc (m-1);rw[hcur (m-1) oM] at y;have T:wrap64 ((m:Int)-1)=((m-1:Nat):Int):=by simp only[wrap64];omega
     have o:Hid (w.heap.size<=w.heap.size/\Ϙ wr g (.cells cur 78)):=⟨lR,hc⟩;have J:=ψ hc m;have K:=ψ hc (m-1);have M:=ζ hc;obtain⟨A,f⟩:=eX (a[m]'oM);obtain⟨B,h⟩:=eX (a[m-1]'oM);rw[<-f] at x;rw[<-h] at y;have l:Hid (A=a[m]'oM/\B=a[m-1]'oM):=⟨f,h⟩;have n:=zh hcur;have p:=zh hK;have q:=zh hp;clear hc hcur hK f h;go_wp2_with fail
     go_quiet (first | (go_at_call 283;refine Calls.quiet_of_same (jS8 _ _ _)))
     by_cases L:A<B
     .go_wp2_with fail
      go_region
      all_goals go_wp2_with fail
      refine⟨⟨m-1,oM,by congr 1;omega,?_⟩,by simp[intOf];omega⟩;refine⟨(a.set m B).set (m-1) A,?_,⟨(cur.setIfInBounds m (.int .u64 B)).setIfInBounds (m-1) (.int .u64 A),μ (μ (w:=wr.drewN (nq+1)) o.2 m (.int .u64 B)) (m-1) (.int .u64 A),by simp[hsz],?_⟩,?_⟩
      .rw[l.out.1,l.out.2];exact (List.set_set_perm oM oM).trans q
      .intro i u;simp only[List.length_set] at u;have D:=n.out i u;rw[Array.getElem?_setIfInBounds,Array.getElem?_setIfInBounds,List.getElem_set,List.getElem_set];by_cases d:m-1=i
       .subst d;simp[hsz];omega
       .by_cases t:m=i
        .subst t;simp[hsz,d];omega
        .simp[d,t,D]
      .exact (((p.drewN _).sc _).sc _)
     .go_wp2_with fail;refine⟨⟨j+1,oM,oM,by go_num,?_⟩,by simp[intOf];omega⟩;exact⟨a,q,⟨cur,o.2,hsz,n⟩,p.drewN _⟩
    .obtain rfl:m=0:=oM
     have F:decide ((0:Int)<((0:Nat):Int))=false:=sM
     go_wp2_with fail
     go_quiet (fail)
     go_wp2_with fail;obtain⟨a,hp,⟨cur,hc,hsz,hcur⟩,hK⟩:=s.out;refine⟨⟨j+1,oM,oM,by go_num,?_⟩,by simp[intOf];omega⟩;exact⟨a,hp,⟨cur,hc,hsz,hcur⟩,hK.drewN _⟩
  .have G:¬(j:Int)<(k:Int):=oM
   go_wp2
   go_end0
   exact⟨rfl,r⟩
theorem kB2(g c:Nat)(ks:List Int)(o:Int)(w)(l:RowU w g ks c)(k:ks.length<=c)(i:ks.length<=12):
  Calls prog 269 #[.slice (some ⟨g,0,none⟩) ks.length c,.int .i64 0,.int .i64 ks.length,.int .i64 o] w λe h=>e=.returned (.tuple #[])/\qT1 w g ks c h:=by
 obtain⟨d,f⟩:=eX ks.length;have m:Hid (Ω 277 #[.slice (some ⟨g,0,none⟩) d c,ϊ 0,ϊ d] w λe h=>e=ϱ (.tuple #[])/\qT1 w g ks c h):=by rw[f];exact jP6 g c ks w l k i
 rw[<-f];rw[<-f] at k i;clear f l;have q:wrap64 ((d:Int)-0)=(d:Int):=by simp only[wrap64];omega
 have p:(d:Int)<=12:=oM
 go_enter func269,ntmps269;go_wp2_with fail
 go_loopw [1,2] (λa b wr=>a=.int .i64 0/\b=.int .i64 d/\wr=w) (λ_ _ _=>0)
 case atStart=>exact⟨rfl,rfl,rfl⟩
 case round=>
  obtain⟨rfl,rfl,rfl⟩:=hrel;go_wp2_with fail;refine (show Calls _ _ _ _ _ from m).mono ?_;rintro e r ⟨rfl,j⟩;have n:=zh j;clear j;go_wp2;refine bodyPost_ret (results_none results269 _ _ _) rfl ?_;exact⟨rfl,n⟩
theorem kJ5(g a:Nat)(ks:List Int)(w)(j:RowU w g ks a)(i:ks.length<=a)(m:ks.length<12):
  Calls prog 238 #[.slice (some ⟨g,0,none⟩) ks.length a] w λe f=>e=.returned (.tuple #[])/\qT1 w g ks a f:=by
 obtain⟨b,c⟩:=eX ks.length;have k:Hid (∀ d:Int,Ω 269 #[.slice (some ⟨g,0,none⟩) b a,ϊ 0,ϊ b,ϊ d] w λe f=>e=ϱ (.tuple #[])/\qT1 w g ks a f):=λd=>by rw[c];exact kB2 g a ks d w j i oM
 rw[<-c];rw[<-c] at i m;clear c j;have o:IntKind.u64.wrap (b:Int)=(b:Int):=by rw[IntKind.wrap_u64];omega
 go_enter func238,ntmps238;go_wp2_with fail;refine (xI8 (b:Int) oM oM w).mono ?_;rintro e p ⟨⟨n,rfl⟩,rfl⟩;go_wp2_with fail;refine (show Calls _ _ _ _ _ from k n).mono ?_;rintro e q ⟨rfl,h⟩;have l:=zh h;clear h;go_wp2
 go_end0
 exact⟨rfl,l⟩
theorem kJ4(w):Calls prog 238 #[.slice none 0 0] w λe c=>e=.returned (.tuple #[])/\c=w:=by
 have d:Hid (Ω 277 #[.slice none 0 0,ϊ 0,ϊ 0] w λe c=>e=ϱ (.tuple #[])/\c=w):=by
  show Calls _ _ _ _ _;go_enter func277,ntmps277;go_wp2_with fail
  go_loopw [6] (λi wr=>i=.int .i64 1/\wr=w) (λi _=>0)
  case atStart=>exact⟨rfl,rfl⟩
  case round=>
   obtain⟨rfl,rfl⟩:=hrel;go_wp2
   go_end0
   exact⟨rfl,rfl⟩
 have g:Hid (∀ f:Int,Ω 269 #[.slice none 0 0,ϊ 0,ϊ 0,ϊ f] w λe c=>e=ϱ (.tuple #[])/\c=w):=by
  intro f;go_enter func269,ntmps269;go_wp2_with fail
  go_loopw [1,2] (λa b wr=>a=.int .i64 0/\b=.int .i64 0/\wr=w) (λ_ _ _=>0)
  case atStart=>exact⟨rfl,rfl,rfl⟩
  case round=>
   obtain⟨rfl,rfl,rfl⟩:=hrel;go_wp2_with fail;refine (show Calls _ _ _ _ _ from d.out).mono ?_;rintro e h ⟨rfl,rfl⟩;go_wp2;refine bodyPost_ret (results_none results269 _ _ _) rfl ?_;exact⟨rfl,rfl⟩
 clear d;go_enter func238,ntmps238;go_wp2_with fail;refine (xI8 0 oM oM w).mono ?_;rintro e h ⟨⟨n,rfl⟩,rfl⟩;go_wp2_with fail;refine (show Calls _ _ _ _ _ from g.out n).mono ?_;rintro e j ⟨rfl,rfl⟩;go_wp2
 go_end0
 exact⟨rfl,rfl⟩
end Go.Proofs.YtdohpenfkdckiaaGreatDoor
