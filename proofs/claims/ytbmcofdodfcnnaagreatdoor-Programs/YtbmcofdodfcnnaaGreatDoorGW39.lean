import Derived.Deep.AppendLies
import Derived.Laws.OwnMore
import Derived.Test.YtbmcofdodfcnnaaGreatDoorGW38
import Derived.Test.YtbmcofdodfcnnaaGreatDoorGW14
import Derived.Test.YtbmcofdodfcnnaaGreatDoorGPG
import Derived.Test.YtbmcofdodfcnnaaGreatDoorGM55
set_option linter.all false
set_option maxHeartbeats 400000000
set_option maxRecDepth 100000
namespace Pn
open Go
def b9W:List Tok->Option Tok×List Tok
 | t::c::l=>if t.kind=119/\c.kind=58 then (some t,l) else (none,t::c::l)
 | l=>(none,l)
def stL:List Tok->List Rp×Int
 | []=>([],0)
 | t::l=>stR t l
def a1s (L:List UInt8) (at':Nat) (nms:List (ByteArray×Nat)):(List Rp×List (ByteArray×Nat))×Int:=
 match a00 L false with
 | none=>(([],nms),4)
 | some T=>match b9W T with
  | (none,l)=>if (stL l).2=0 then (((stL l).1,nms),0) else (([],nms),(stL l).2)
  | (some t,l)=>if 8<t.text.length then (([],nms),4) else if (stL l).2=0 then (if nms.any (fun x=>x.1.toList==t.S.toList) then (([],nms),6) else (((stL l).1,nms++[(t.S,at')]),0)) else (([],nms),(stL l).2)
def lnG (nms nms':List (ByteArray×Nat)) (tw:Bool) (st:List Rp×Int):(List Rp×List (ByteArray×Nat))×Int:=
 if st.2=0 then (if tw then (([],nms),6) else ((st.1,nms'),0)) else (([],nms),st.2)
def b6w:List Tok->Bool
 | t::c::_=>decide (t.kind=119)&&decide (c.kind=58)
 | _=>false
theorem c3E {nms nms':List (ByteArray×Nat)} {b:Bool} {q:List Rp} {er:Int} (h:er≠0):lnG nms nms' b (q,er)=(([],nms),er):=by
 unfold lnG;rw[if_neg h]
theorem b7U {T:List Tok} (h:b6w T=true):∃t c l,T=t::c::l/\t.kind=119/\c.kind=58:=by
 match T,h with
 | t::c::l,h=>
  simp[b6w]at h;exact ⟨t,c,l,rfl,h.1,h.2⟩
theorem a9m {L:List UInt8} (h:a00 L false=none) (n:Nat) (nms:List (ByteArray×Nat)):a1s L n nms=(([],nms),4):=by
 unfold a1s;rw[h]
theorem c1x {L:List UInt8} {T:List Tok} (h:a00 L false=some T) (hb:b6w T=false) (n:Nat) (nms:List (ByteArray×Nat)):a1s L n nms=lnG nms nms false (stL T):=by
 have e:b9W T=(none,T):=by
  match T,hb with
  | [],_=>rfl
  | [t],_=>rfl
  | t::c::l,hb=>
   simp only[b9W];rw[if_neg (fun q=>by simp[b6w,q.1,q.2]at hb)]
 unfold a1s;rw[h];simp only[e];rfl
theorem b60 {L:List UInt8} {t c:Tok} {l:List Tok} (h:a00 L false=some (t::c::l)) (h1:t.kind=119) (h2:c.kind=58) (hl:¬8<t.text.length) (n:Nat) (nms:List (ByteArray×Nat)):
    a1s L n nms=lnG nms (nms++[(t.S,n)]) (nms.any fun x=>x.1.toList==t.S.toList) (stL l):=by
 unfold a1s lnG;rw[h];simp only[b9W];rw[if_pos ⟨h1,h2⟩];simp only;rw[if_neg hl]
theorem b6n {L:List UInt8} {t c:Tok} {l:List Tok} (h:a00 L false=some (t::c::l)) (h1:t.kind=119) (h2:c.kind=58) (hl:8<t.text.length) (n:Nat) (nms:List (ByteArray×Nat)):a1s L n nms=(([],nms),4):=by
 unfold a1s;rw[h];simp only[b9W];rw[if_pos ⟨h1,h2⟩];simp only;rw[if_pos hl]
def a5r:List (List UInt8)->Nat->List (Rp×Int)->List (ByteArray×Nat)->(List (Rp×Int)×List (ByteArray×Nat))×Int×Int
 | [],_,ps,nms=>((ps,nms),0,0)
 | L::rest,n,ps,nms=>if (a1s L ps.length nms).2=0 then a5r rest (n+1) (ps++(a1s L ps.length nms).1.1.map fun p=>(p,(n:Int)+1)) (a1s L ps.length nms).1.2 else (([],[]),(a1s L ps.length nms).2,(n:Int)+1)
theorem c1w {A:List (List UInt8)} {k:Nat} (hk:k<A.length) {ps:List (Rp×Int)} {nms:List (ByteArray×Nat)} {x:(List Rp×List (ByteArray×Nat))×Int} (h:a1s (A[k]'hk) ps.length nms=x) (hx:x.2≠0):
    a5r (A.drop k) k ps nms=(([],[]),x.2,(k:Int)+1):=by
 rw[List.drop_eq_getElem_cons hk,a5r,h,if_neg hx]
theorem c4J {A:List (List UInt8)} {k:Nat} (hk:k<A.length) {ps:List (Rp×Int)} {nms nms':List (ByteArray×Nat)} {q:List Rp} (h:a1s (A[k]'hk) ps.length nms=((q,nms'),0)):
    a5r (A.drop k) k ps nms=a5r (A.drop (k+1)) (k+1) (ps++q.map fun p=>(p,(k:Int)+1)) nms':=by
 rw[List.drop_eq_getElem_cons hk,a5r,h,if_pos rfl]
theorem b7d:∀(l cur:List UInt8),0<(lnR cur l).length
 | [],cur=>by simp[lnR]
 | c::l,cur=>by
  rw[lnR]
  split
  ·simp
  ·exact b7d l _
theorem b6E (r n:Int):(a6y r n).1.length<=2:=by
 unfold a6y
 split
 ·simp
 ·unfold a4p
  split
  ·simp
  ·split<;>simp
theorem b6Q (t:Tok) (l:List Tok):(stR t l).1.length<=2:=by
 unfold stR
 split
 ·split
  ·unfold cR
   split
   ·split<;>simp
   ·simp
  ·simp
 ·unfold stN
  split
  ·simp
  ·split
   ·simp
   ·unfold a7j
    split
    ·unfold b1L
     split
     ·simp
     ·split
      ·simp
      ·unfold a6T
       split
       ·simp
       ·split
        ·simp
        ·split<;>simp
    ·unfold a3d
     split
     ·simp
     ·unfold b5v
      split
      ·simp
      ·split
       ·split
        ·exact b6E _ _
        ·split<;>simp
       ·simp
theorem b29 (T:List Tok):(stL T).1.length<=2:=by
 match T with
 | []=>simp[stL]
 | t::l=>exact b6Q t l
def pcL (ps:List (Rp×Int)):List Value:=ps.flatMap fun p=>rpC p.1 p.2 0
def nmC (x:ByteArray×Nat):List Value:=[.string x.1,.int .i64 x.2]
end Pn
namespace Go.Proofs.YtbmcofdodfcnnaaGreatDoor
open Pn
open Go.Proofs.Tryz
open Go.RowKit
theorem c6k:(prog.info? 278).map (fun i=>(i.zero,i.size,i.bytes))=some (some (.agg #[.string ⟨#[]⟩,.int .i64 0]),2,24):=by kernel_rfl
def c2A (r:(List (Pn.Rp×Int)×List (ByteArray×Nat))×Int×Int) (w:World) (e:Ending) (w':World):Prop:=
 ∃ao n cp ao' n' cp',e=.returned (.tuple #[.slice ao n cp,.slice ao' n' cp',.agg #[.int .i64 r.2.1,.int .i64 r.2.2]])/\
  w'.ownsRow w.heap.size 224 10 (.slice ao n cp) r.1.1.length (Pn.pcL r.1.1)/\w'.ownsRow w.heap.size 278 2 (.slice ao' n' cp') r.1.2.length (r.1.2.flatMap Pn.nmC)/\Below w.heap.size w w'
def c6x (w1:World) (A:List (List UInt8)) (R:(List (Pn.Rp×Int)×List (ByteArray×Nat))×Int×Int) (vp vn n:Value) (wr:World):Prop:=
 ∃(k:Nat) (ps:List (Pn.Rp×Int)) (nms:List (ByteArray×Nat)),k<=A.length/\n=.int .i64 k/\ps.length<=2*k/\nms.length<=k/\
  Hid (wr.ownsRow w1.heap.size 224 10 vp ps.length (Pn.pcL ps))/\Hid (wr.ownsRow w1.heap.size 278 2 vn nms.length (nms.flatMap Pn.nmC))/\Below w1.heap.size w1 wr/\
  Hid (R=a5r (A.drop k) k ps nms)
theorem a5K {w:World} {B B' e e' size size' n n':Nat} {v v':Value} {xs xs':List Value} (h:w.ownsRow B e size v n xs) (h':w.ownsRow B' e' size' v' n' xs') (hne:e≠e'):v.ownBlock=none\/v.ownBlock≠v'.ownBlock:=by
 rcases h.2 with ⟨rfl,_⟩|⟨g,cap,cur,rfl,_,hgg,_⟩
 ·exact .inl rfl
 ·rcases h'.2 with ⟨rfl,_⟩|⟨g',cap',cur',rfl,_,hgg',_⟩
  ·exact .inr (by simp[Value.ownBlock])
  ·refine .inr fun he=>?_
   simp only[Value.ownBlock,Option.some.injEq]at he;subst he;rw[hgg]at hgg';simp only[Option.some.injEq,Obj.cells.injEq]at hgg';exact hne hgg'.2.1
theorem a5X (g k:Nat):(⟨g,0,none⟩:Addr).add k=⟨g,k,none⟩:=by
 simp only[Addr.add]
 split
 ·rename_i h;rw[h]
 ·simp
def c81 (w:World) (v:Value) (L:List Pn.Tok):Prop:=
 ∃ao cap,v=.slice ao L.length cap/\L.length<=cap/\∀t l,L=t::l->∃g o,ao=some ⟨g,o,none⟩/\g<w.heap.size/\a0A t l g o w
def b9n (b:Nat) (w:World):Prop:=w.cell? ⟨b,0,none⟩=some (.int .i64 0)/\w.cell? ⟨b,1,none⟩=some (.int .i64 0)/\∀q,w.frozen? ⟨b,q,none⟩=false
theorem b9n.below {b B:Nat} {w w':World} (h:b9n b w) (hB:Below B w w') (hb:b<B):b9n b w':=
 ⟨(hB.cell (p:=⟨b,0,none⟩) hb).trans h.1,(hB.cell (p:=⟨b,1,none⟩) hb).trans h.2.1,fun q=>(hB.frozen (p:=⟨b,q,none⟩) hb).trans (h.2.2 q)⟩
theorem b96 {w:World} {base:Nat} {v:Value} {T:List Pn.Tok} (h:w.ownsRow base 268 4 v T.length (T.flatMap a1a)):c81 w v T:=by
 match T,h with
 | [],h=>
  obtain ⟨_,h1|⟨g,cap,cur,hv,_,_,hle,_⟩⟩:=h
  ·exact ⟨none,0,h1.1,by simp,fun t l h=>by cases h⟩
  ·exact ⟨_,cap,hv,hle,fun t l h=>by cases h⟩
 | t::l,h=>
  obtain ⟨g,cap,hv,hg,hle,hc⟩:=a78 h;exact ⟨_,cap,hv,by simpa using hle,fun t' l' h=>by injection h with h1 h2;subst h1 h2;exact ⟨g,0,rfl,hg,hc⟩⟩
def c90 (w1:World) (L:List UInt8) (k:Nat) (ps:List (Pn.Rp×Int)) (nms:List (ByteArray×Nat)) (vp vn lv tw:Value) (wx:World):Prop:=
 ∃(nms':List (ByteArray×Nat)) (T':List Pn.Tok) (b:Bool),tw=.bool b/\nms'.length<=k+1/\Hid (wx.ownsRow w1.heap.size 224 10 vp ps.length (Pn.pcL ps))/\Hid (wx.ownsRow w1.heap.size 278 2 vn nms'.length (nms'.flatMap Pn.nmC))/\
  Hid (c81 wx lv T')/\Below w1.heap.size w1 wx/\Hid (T'.length<=2000/\∀t∈T',-1099511627776<=t.num/\t.num<=1099511627776)/\Hid (a1s L ps.length nms=Pn.lnG nms nms' b (Pn.stL T'))
theorem b6f {w:World} {base g o cp:Nat} {t c:Pn.Tok} {l:List Pn.Tok} (h:w.ownsRow base 268 4 (.slice (some ⟨g,o,none⟩) (t::c::l).length cp) (t::c::l).length ((t::c::l).flatMap a1a)):
    c81 w (.slice (some ⟨g,o+8,none⟩) l.length (cp-2)) l:=by
 obtain ⟨g',cap,hv,hg,hle,hc⟩:=a78 h;injection hv with h1 h2 h3
 injection h1 with h1
 injection h1 with h1 h4 _
 subst h1 h3 h4;refine ⟨_,_,rfl,by simp at hle;omega,fun t' l' e=>?_⟩
 subst e;exact ⟨g,0+8,rfl,hg,b1I hc⟩
def d0g (w1:World) (k:Nat) (ps:List (Pn.Rp×Int)) (nms':List (ByteArray×Nat)) (T':List Pn.Tok) (vn vp:Value) (wx:World):Prop:=
 (Pn.stL T').2=0/\Hid (wx.ownsRow w1.heap.size 224 10 vp (ps++(Pn.stL T').1.map fun p=>(p,(k:Int)+1)).length (Pn.pcL (ps++(Pn.stL T').1.map fun p=>(p,(k:Int)+1))))/\
  Hid (wx.ownsRow w1.heap.size 278 2 vn nms'.length (nms'.flatMap Pn.nmC))/\Below w1.heap.size w1 wx
def b89 (b:Nat) (am:Option Addr) (q:List Pn.Rp) (j:Nat) (w:World):Prop:=
 ∀i p,j<=i->q[i]?=some p->∃gm:Nat,am=some ⟨gm,0,none⟩/\b<=gm/\gm<w.heap.size/\(∀y,w.frozen? ⟨gm,y,none⟩=false)/\∀x v,(Pn.rpC p 0 0)[x]?=some v->w.cell? ⟨gm,i*10+x,none⟩=some v
theorem c38 {w:World} {b cm:Nat} {am:Option Addr} {q:List Pn.Rp} (h:w.ownsRow b 224 10 (.slice am q.length cm) q.length (q.flatMap fun p=>Pn.rpC p 0 0)):b89 b am q 0 w:=by
 intro i p _ hp
 have hk:i<q.length:=by
  rcases Nat.lt_or_ge i q.length with h|h
  ·exact h
  ·rw[List.getElem?_eq_none h]at hp;cases hp
 have hh:=h;obtain ⟨_,h1|⟨g,cap,cur,hv,hg,hb,hle,_⟩⟩:=h
 ·have:=h1.2;omega
 ·injection hv with h1 _ h3
  subst h1 h3;refine ⟨g,rfl,hg,(hh.lt g rfl).2,fun y=>hh.frozenAt y,fun x v hx=>?_⟩
  have hx10:x<10:=by
   rcases Nat.lt_or_ge x 10 with h|h
   ·exact h
   ·rw[List.getElem?_eq_none (by simpa[Pn.rpC] using h)]at hx;cases hx
  have hf:=a1j (fun p=>Pn.rpC p 0 0) 10 (fun _=>rfl) q i x hx10 hk
  rw[hp]at hf;simp only[Option.bind_some]at hf;have:=hh.cells (g:=g) rfl (10*i+x) _ (hf.trans hx);rw[a5X]at this;rw[Nat.mul_comm i 10];exact this
theorem a10 {w:World} {base:Nat} {e:TypeId} {size:Nat} {v:Value} {n:Nat} {xs:List Value} (h:w.ownsRow base e size v n xs):∃ao cp,v=.slice ao n cp:=by
 obtain ⟨_,⟨h1,h2⟩|⟨g,cap,cur,h1,_⟩⟩:=h
 ·exact ⟨none,0,by rw[h1,h2]⟩
 ·exact ⟨_,_,h1⟩
theorem b4k {w:World} {base:Nat} {v:Value} {nms:List (ByteArray×Nat)} (h:w.ownsRow base 278 2 v nms.length (nms.flatMap Pn.nmC)):
    ∃ao cap,v=.slice ao nms.length cap/\∀i x,nms[i]?=some x->∃B:Nat,ao=some ⟨B,0,none⟩/\B<w.heap.size/\w.cell? ⟨B,i*2,none⟩=some (.string x.1)/\w.cell? ⟨B,i*2+1,none⟩=some (.int .i64 x.2):=by
 have hh:=h;obtain ⟨_,h1|⟨g,cap,cur,hv,hg,hb,hle,_⟩⟩:=h
 ·refine ⟨none,0,by rw[h1.1,h1.2],fun i x hx=>?_⟩
  have:nms=[]:=List.eq_nil_of_length_eq_zero h1.2;subst this;cases hx
 ·refine ⟨_,cap,hv,fun i x hx=>⟨g,rfl,(hh.lt g (by rw[hv];rfl)).2,?_⟩⟩
  have hk:i<nms.length:=by
   rcases Nat.lt_or_ge i nms.length with h|h
   ·exact h
   ·rw[List.getElem?_eq_none h]at hx;cases hx
  have hc:∀j,j<2->w.cell? ⟨g,i*2+j,none⟩=(Pn.nmC x)[j]?:=fun j hj=>by
   (have hf:=a1j Pn.nmC 2 (fun _=>rfl) nms i j hj hk);rw[hx]at hf;(have hy:(Pn.nmC x)[j]?=some ((Pn.nmC x)[j]'(by simp[Pn.nmC];omega)):=List.getElem?_eq_getElem _);simp only[Option.bind_some]at hf;(have:=hh.cells (g:=g) (by rw[hv];rfl) (2*i+j) _ (hf.trans hy));rw[a5X]at this;rw[hy,<-this,Nat.mul_comm 2 i]
  exact ⟨hc 0 (by omega),hc 1 (by omega)⟩
def c82 (w1:World) (b k:Nat) (ps:List (Pn.Rp×Int)) (q:List Pn.Rp) (am:Option Addr) (nms':List (ByteArray×Nat)) (vn vp kk:Value) (wr:World):Prop:=
 ∃j:Nat,j<=q.length/\kk=.int .i64 j/\Hid (wr.ownsRow w1.heap.size 224 10 vp (ps++(q.take j).map fun p=>(p,(k:Int)+1)).length (Pn.pcL (ps++(q.take j).map fun p=>(p,(k:Int)+1))))/\
  Hid (wr.ownsRow w1.heap.size 278 2 vn nms'.length (nms'.flatMap Pn.nmC))/\Below w1.heap.size w1 wr/\Hid (b89 b am q j wr)/\Hid (∀gm,am=some ⟨gm,0,none⟩->vp.ownBlock≠some gm)/\b<=wr.heap.size
theorem a5h {c ln:Int} {w W:World} (hB:Below w.heap.size w W):c2A (([],[]),c,ln) w (.returned (.tuple #[.slice none 0 0,.slice none 0 0,.agg #[.int .i64 c,.int .i64 ln]])) W:=
 ⟨none,0,0,none,0,0,rfl,World.ownsRow_nil _ _ _ _,World.ownsRow_nil _ _ _ _,hB⟩
theorem b8b (s:ByteArray) (w:World) (hs:s.size<=2000):
    Calls prog 169 #[.string s] w fun e w'=>c2A (a5r (Pn.lnR [] s.data.toList) 0 [] []) w e w':=by
 obtain ⟨i0,hi,hz0,hz1,hz2⟩:=info_parts c2C;obtain ⟨j0,hj,hy0,hy1,hy2⟩:=info_parts c6k;have HL:=a0a (fun W=>b7E s W hs)
 have hA1:(Pn.lnR [] s.data.toList).length<=2001:=by have:=a9X s.data.toList [];simp at this;omega
 have HA2:Hid (∀x∈Pn.lnR [] s.data.toList,x.length<=2000):=a0a (fun x hx=>by have:=b3s s.data.toList [] x hx;simp at this;omega)
 have hA0:=b7d s.data.toList [];generalize Pn.lnR [] s.data.toList=A at *;have HR:Hid (a5r A 0 [] []=a5r (A.drop 0) 0 [] []):=a0a rfl;generalize a5r A 0 [] []=R at *;go_enter func169,ntmps169;go_wp2_with fail;refine (HL.out _).mono ?_;rintro e w1 ⟨⟨v,rfl,hown⟩,hB⟩;have hF1:b9n w.heap.size w1:=b9n.below (w:=w.alloc (.cells #[.int .i64 0,.int .i64 0] 39)) ⟨by go_simp,by go_simp,fun q=>by go_simp⟩ hB (by simp)
 obtain ⟨ga,ca,rfl,hga,hga2,hca,hcc⟩:=a3M hown hA0;have hz1':w.heap.size<w1.heap.size:=by have:=hB.size;simp at this;omega
 have HBw:Hid (Below w.heap.size w w1):=a0a (((Below.refl _ _).alloc (Nat.le_refl _) _).trans (hB.mono (by simp)))
 have HFB:∀{W:World} (a b:Value),Below w1.heap.size w1 W->Below w.heap.size w ((W.setCell ⟨w.heap.size,0,none⟩ a).setCell ⟨w.heap.size,1,none⟩ b):=fun a b h=>((HBw.out.trans (h.mono (Nat.le_of_lt hz1'))).setCell (p:=⟨w.heap.size,0,none⟩) (Nat.le_refl _) a).setCell (p:=⟨w.heap.size,1,none⟩) (Nat.le_refl _) b
 have HCC:=a0a hcc;have HF1:=a0a hF1;clear hB hown hcc hF1 HL hs;go_wp2_with fail;go_loopw [5,6,8] (fun vp vn n wr=>c6x w1 A R vp vn n wr) (fun _ _ n _=>A.length-(intOf n).toNat)
 case atStart=>exact ⟨0,[],[],by omega,rfl,by simp,by simp,a0a (World.ownsRow_nil _ _ _ _),a0a (World.ownsRow_nil _ _ _ _),Below.refl _ _,HR⟩
 case round=>
  obtain ⟨k,ps,nms,hk,rfl,hpl,hnl,HOP,HON,hBr,HEQ⟩:=hrel;obtain ⟨f0,f1,ff⟩:=HF1.out.below hBr hz1';have hzr:w1.heap.size<=wr.heap.size:=hBr.size;by_cases hlt:k<A.length
  ·have c0:wr.cell? ⟨ga,k,none⟩=some (.string ⟨(A[k]).toArray⟩):=by
    (have:=HCC.out k (c8e A[k]) (by simp[hlt]));rw[a5X]at this;exact (hBr.cell (p:=⟨ga,k,none⟩) hga2).trans this
   have HBr:=a0a hBr;have HLL:Hid (A[k].length<=2000):=a0a (HA2.out _ (List.getElem_mem hlt));(have HLE:Hid (∀x,a1s A[k] ps.length nms=x->(x.2≠0->R=(([],[]),x.2,(k:Int)+1))/\(x.2=0->R=a5r (A.drop (k+1)) (k+1) (ps++x.1.1.map fun p=>(p,(k:Int)+1)) x.1.2)):=a0a (fun x hx=>⟨fun h=>HEQ.out.trans (c1w hlt hx h),fun h=>HEQ.out.trans (c4J (nms':=x.1.2) (q:=x.1.1) hlt (by rw[hx];obtain ⟨⟨_,_⟩,_⟩:=x;simp only at h;rw[h]))⟩));generalize A[k]=L at *;(have HT:=a0a (fun W=>b1J ⟨L.toArray⟩ W (by have:=HLL.out;show L.toArray.size<=2000;simpa using this)));clear hBr;go_wp2_with fail;refine (HT.out _).mono ?_;rintro e w2 ⟨ho,hB2⟩;replace ho:a8G (a00 L false) wr e w2:=ho;have hz2:wr.heap.size<=w2.heap.size:=hB2.size;have HB2:=a0a hB2;have HB2':Hid (Below w1.heap.size w1 w2):=a0a (HBr.out.trans (hB2.mono hzr));obtain ⟨g0,g1,gf⟩:=HF1.out.below HB2'.out hz1';clear f0 f1 ff c0 hB2
   cases htk:a00 L false with
   | none=>
    rw[htk]at ho;have he:e=.returned (.tuple #[.slice none 0 0,.bool false]):=ho;subst he;(have HQ:R=(([],[]),4,(k:Int)+1):=(HLE.out _ rfl).1 (by rw[a9m htk];exact (by decide:(4:Int)≠0)) |>.trans (by rw[a9m htk]));subst HQ;clear ho htk;go_wp2_with fail;refine bodyPost_ret (v:=.tuple #[.slice none 0 0,.slice none 0 0,.agg #[.int .i64 4,.int .i64 ((k:Int)+1)]]) (by simp[results,results169,go_sem,g0,g1,gf]) rfl (a5h (HFB _ _ HB2'.out))
   | some T=>
    rw[htk]at ho;obtain ⟨v2,rfl,hown2⟩:=ho;have HTL:=a0a (b7W htk);have HTN:=a0a (c0w htk);have HOP2:Hid (w2.ownsRow w1.heap.size 224 10 u5 ps.length (Pn.pcL ps)):=a0a (a1H HOP.out HB2.out);have HON2:Hid (w2.ownsRow w1.heap.size 278 2 u6 nms.length (nms.flatMap Pn.nmC)):=a0a (a1H HON.out HB2.out);obtain ⟨ao,cp,hv2,hcp,hTV⟩:=b96 hown2;have HTV:=a0a hTV;have HOT:Hid (w2.ownsRow wr.heap.size 268 4 v2 T.length (T.flatMap a1a)):=a0a hown2;subst hv2;have HTK:=a0a htk;clear htk hown2 HOP HON hTV HT;go_upto_region 11 with fail;go_cut [53] (fun b wx=>b=.bool (b6w T)/\w2=wx)
    case first=>
     match T,hcp,HTV with
     | [],hcp,HTV=>
      go_wp2_with fail;go_meet;case rel=>exact ⟨rfl,rfl⟩
     | [t],hcp,HTV=>
      go_wp2_with fail;go_meet;case rel=>exact ⟨rfl,rfl⟩
     | t::c::l,hcp,HTV=>
      obtain ⟨g,o,rfl,hg,hcl⟩:=HTV.out t _ rfl;obtain ⟨t0,_,_,_⟩:=hcl 0 t rfl;obtain ⟨c0,_,_,_⟩:=hcl 1 c rfl;simp only[Nat.zero_mul,Nat.add_zero,Nat.one_mul]at t0 c0;clear hcl;(have hln:(1:Int)<((t::c::l).length:Nat):=by simp;omega);(have hln2:1<(t::c::l).length:=by simp);by_cases h1:t.kind=119
      ·by_cases h2:c.kind=58
       ·have e:b6w (t::c::l)=true:=by simp[b6w,h1,h2]
        rw[h1]at t0;rw[h2]at c0;go_wp2_with fail;go_meet;case rel=>exact ⟨by rw[e],rfl⟩
       ·have e:b6w (t::c::l)=false:=by simp[b6w,h2]
        rw[h1]at t0;(have h2b:(c.kind==58)=false:=by simpa using h2);go_wp2_with fail;go_meet;case rel=>exact ⟨by rw[e],rfl⟩
      ·have e:b6w (t::c::l)=false:=by simp[b6w,h1]
       (have h1b:(t.kind==119)=false:=by simpa using h1);go_wp2_with fail;go_meet;case rel=>exact ⟨by rw[e],rfl⟩
    case rest=>
     obtain ⟨rfl,hw⟩:=hcut;subst hw;go_upto_if 53 with fail;go_cut [6,9,11] (fun vn lv tw wx=>c90 w1 L k ps nms u5 vn lv tw wx)
     case first=>
      cases hlb:b6w T with
      | false=>
       go_wp2_with fail;go_meet;case rel=>exact ⟨nms,T,false,rfl,by omega,HOP2,HON2,a0a ⟨_,_,rfl,hcp,HTV.out⟩,HB2'.out,a0a ⟨Nat.le_trans HTL.out HLL.out,HTN.out⟩,a0a (c1x HTK.out hlb _ _)⟩
      | true=>
       obtain ⟨t,c,l,rfl,hk1,hk2⟩:=b7U hlb;obtain ⟨g,o,rfl,hg,hcl⟩:=HTV.out t _ rfl;obtain ⟨_,t1,_,_⟩:=hcl 0 t rfl;simp only[Nat.zero_mul,Nat.add_zero]at t1;have HCL:=a0a hcl;(have hsz:t.S.size=t.text.length:=by show t.text.toArray.size=_;simp);(have hln:0<(t::c::l).length:=by simp);(have hln2:(0:Int)<((t::c::l).length:Nat):=by simp;omega);clear hcl hlb;by_cases h8:8<t.text.length
       ·have HQ:R=(([],[]),4,(k:Int)+1):=((HLE.out _ (b6n HTK.out hk1 hk2 h8 _ _)).1 (show (4:Int)≠0 by decide))
        subst HQ;(have h8':(8:Int)<t.S.size:=by omega);(have h8'':8<t.S.size:=by omega);clear hsz h8;generalize t.S=ts at *;go_wp2_with fail;refine bodyPost_ret (v:=.tuple #[.slice none 0 0,.slice none 0 0,.agg #[.int .i64 4,.int .i64 ((k:Int)+1)]]) (by simp[results,results169,go_sem,g0,g1,gf]) rfl (a5h (HFB _ _ HB2'.out))
       ·have HLN:=a0a (b60 HTK.out hk1 hk2 h8 ps.length nms)
        (have h8':(t.S.size:Int)<=8:=by omega);(have h8'':t.S.size<=8:=by omega);clear hsz h8;obtain ⟨an,cn,rfl,hcn⟩:=b4k HON2.out;have HCN:=a0a hcn;clear hcn;generalize hts:t.S=ts at *;have HTS:=a0a hts;clear hts;go_upto_block 2 with fail;go_cut [11] (fun tw wx=>tw=.bool (nms.any fun x=>x.1.toList==ts.toList)/\Below w2.heap.size w2 wx)
        case first=>
         go_wp2_with fail;(go_loopw [11,12] (fun tw kk wr2=>∃j:Nat,j<=nms.length/\kk=.int .i64 j/\tw=.bool ((nms.take j).any fun x=>x.1.toList==ts.toList)/\Below w2.heap.size w2 wr2) (fun _ kk _=>nms.length-(intOf kk).toNat));case atStart=>exact ⟨0,by omega,rfl,by simp,Below.refl _ _⟩
         case round=>
          obtain ⟨j,hj',rfl,rfl,hB3⟩:=hrel;by_cases hjl:j<nms.length
          ·obtain ⟨B,rfl,hBs,n0,_⟩:=HCN.out j nms[j] (by simp[hjl])
           replace n0:=(hB3.cell (p:=⟨B,j*2,none⟩) hBs).trans n0;have t1':=(hB3.cell (p:=⟨g,o+1,none⟩) hg).trans t1;have hz3:w2.heap.size<=wr.heap.size:=hB3.size;have HB3:=a0a hB3;(have HTK2:Hid (((nms.take (j+1)).any fun x=>x.1.toList==ts.toList)=(((nms.take j).any fun x=>x.1.toList==ts.toList)||(nms[j].1.toList==ts.toList))):=a0a (by rw[List.take_add_one,List.getElem?_eq_getElem hjl,List.any_append];simp));(have hjl2:(j:Int)<nms.length:=by omega);generalize nms[j]=xj at *;(generalize ((nms.take j).any fun x=>x.1.toList==ts.toList)=ab at *);clear hB3
           cases ab with
           | true=>
            go_wp2_with fail;go_quiet (fail);go_wp2_with fail;go_roundw;(case rel=>exact ⟨j+1,by omega,by go_num,by rw[HTK2.out];rfl,below_drewN HB3.out nq⟩);case measure=>simp[intOf];omega
           | false=>
            go_wp2_with fail;go_quiet (fail);go_wp2_with fail;go_roundw;(case rel=>exact ⟨j+1,by omega,by go_num,by rw[HTK2.out];rfl,below_drewN HB3.out nq⟩);case measure=>simp[intOf];omega
          ·have hje:j=nms.length:=by omega
           subst hje;go_wp2_with fail;go_meet;case rel=>exact ⟨by rw[List.take_length],hB3⟩
        case rest=>
         obtain ⟨rfl,hB3⟩:=hcut;have hz3:w2.heap.size<=wc.heap.size:=hB3.size;replace t1:=(hB3.cell (p:=⟨g,o+1,none⟩) hg).trans t1;(have hg3:g<wc.heap.size:=by omega);obtain ⟨ap,cpp,rfl⟩:=a10 HOP2.out;have HOP3:=a0a (a1H HOP2.out hB3);have HON3:=a0a (a1H HON2.out hB3);have HOT3:=a0a (a1H HOT.out hB3);(generalize (nms.any fun x=>x.1.toList==ts.toList)=tw at *);have HB3:=a0a hB3;clear hB3 HTV HCL;(have hz3':wr.heap.size<=wc.heap.size:=by omega);(go_wp2_with (at_builtin;refine wpList_append_own _ rfl _ _ 234 rfl w1.heap.size 278 j0 _ 2 24 underlying234 hj hy0 hy1 hy2 rfl (by decide) _ _ _ rfl (HON3.out.alloc _) ⟨wc.heap.size,0,none⟩ 1 1 (Pn.nmC (ts,ps.length)) rfl rfl ?c1 ?c2 ?c3 ?c4 ?c5 ?_));(case c1=>exact a2D wc (Pn.nmC (ts,ps.length)) 278);(case c2=>intro u hu;simp[Pn.nmC]at hu;rcases hu with rfl|rfl<;>rfl);(case c3=>unfold maxLen;omega);(case c4=>omega);(case c5=>simp;omega);intro v' w5 hown' hgrow _;(have HN5:Hid (w5.ownsRow w1.heap.size 278 2 v' (nms++[(ts,ps.length)]).length ((nms++[(ts,ps.length)]).flatMap Pn.nmC)):=a0a (by simpa using hown'));(have HP5:Hid (w5.ownsRow w1.heap.size 224 10 (.slice ap ps.length cpp) ps.length (Pn.pcL ps)):=a0a ((HOP3.out.alloc _).kept hgrow (a5K HOP3.out HON3.out (by decide))));(have HT5:Hid (w5.ownsRow wr.heap.size 268 4 (.slice (some ⟨g,o,none⟩) (t::c::l).length cp) (t::c::l).length ((t::c::l).flatMap a1a)):=a0a ((HOT3.out.alloc _).kept hgrow (a5K HOT3.out HON3.out (by decide))));(have HB5:Hid (Below w1.heap.size w1 w5):=a0a (((HB2'.out.trans (HB3.out.mono (by omega))).alloc (by omega) _).grown hgrow (by simp;omega) (fun j hj=>by have:=(HON3.out.lt j hj).1;omega)));clear hown' hgrow HON3 HOP3 HOT3;go_wp2_with fail
         ·go_meet
          case rel=>
           (have hcp2:cp=2:=by first|assumption|omega);(have hl0:l=[]:=by have:=hcp;rw[hcp2]at this;simpa using this);exact ⟨nms++[(ts,ps.length)],l,tw,rfl,by simp;omega,HP5,HN5,a0a ⟨_,_,rfl,by rw[hl0];simp,fun t' l' e=>by rw[hl0]at e;cases e⟩,HB5.out,a0a ⟨by have h1:=HTL.out;have h2:=HLL.out;simp at h1;omega,fun u hu=>HTN.out u (by simp[hu])⟩,HLN⟩
         ·go_meet
          case rel=>exact ⟨nms++[(ts,ps.length)],l,tw,rfl,by simp;omega,HP5,HN5,a0a (b6f HT5.out),HB5.out,a0a ⟨by have h1:=HTL.out;have h2:=HLL.out;simp at h1;omega,fun u hu=>HTN.out u (by simp[hu])⟩,HLN⟩
     case rest=>
      obtain ⟨nms',T',b,rfl,hn',HOP5,HON5,HTV5,hB5,HTB,HLN⟩:=hcut;have hz5:w1.heap.size<=wc.heap.size:=hB5.size;have HB5:=a0a hB5;obtain ⟨p0,p1,pf⟩:=HF1.out.below hB5 hz1';clear hB5 HTV HOT HOP2 HON2 HB2 g0 g1 gf HB2' HTL HTN HTK hz2 hcp;obtain ⟨at5,cp5,rfl,hcp5,hTV5⟩:=HTV5.out;have HTW:=a0a hTV5;clear HTV5 hTV5;go_upto_if 96 with fail;go_cut [5] (fun vp wx=>d0g w1 k ps nms' T' u6 vp wx)
      case first=>
       match T',hcp5,HTW,HTB,HLN with
       | [],hcp5,HTW,HTB,HLN=>
        go_wp2_with fail;go_meet;case rel=>exact ⟨rfl,a0a (by simpa[Pn.stL] using HOP5.out),HON5,HB5.out⟩
       | t::l,hcp5,HTW,HTB,HLN=>
        obtain ⟨g,o,rfl,hg,hcl⟩:=HTW.out t l rfl;(have HSt:=a0a (b2m t l g o cp5 wc (by have:=HTB.out.1;simp at this;omega) hg (by simpa using hcp5) hcl (fun u hu=>HTB.out.2 u (by simp[hu]))));replace HLN:Hid (a1s L ps.length nms=Pn.lnG nms nms' b (Pn.stR t l)):=HLN;(rw[show l.length+1=(t::l).length by simp]at HSt);(have hln:(0:Int)<((t::l).length:Nat):=by simp only[List.length_cons];omega);have HST:Hid (Pn.stL (t::l)=Pn.stR t l):=a0a rfl;have hq2:=b6Q t l;clear hcl HTW;generalize Pn.stR t l=ST at *;obtain ⟨q,er⟩:=ST;generalize (t::l).length=tl at *;simp only at hq2;go_wp2_with fail;refine HSt.out.mono ?_;rintro e w6 ⟨am,nm,cm,rfl,hown6,hB6⟩;obtain ⟨am',cm',hse⟩:=a10 hown6;(injection hse with hs1 hs2 hs3);subst hs1 hs2 hs3;have hz6:wc.heap.size<=w6.heap.size:=hB6.size;have HB6:Hid (Below w1.heap.size w1 w6):=a0a (HB5.out.trans (hB6.mono hz5));obtain ⟨x0,x1,xf⟩:=HF1.out.below HB6.out hz1';by_cases he0:er=0
        ·subst he0
         have HOP6:=a0a (a1H HOP5.out hB6);have HON6:=a0a (a1H HON5.out hB6);have HMO:=a0a (c38 hown6)
         have HNE:Hid (∀gm,am=some ⟨gm,0,none⟩->u5.ownBlock≠some gm):=a0a (fun gm e h=>by
          subst e;have h1:=(hown6.lt gm rfl).1;have h2:=(HOP5.out.lt gm h).2;omega)
         (have HNB:Hid (∀gm,u6.ownBlock=some gm->gm<wc.heap.size):=a0a (fun gm h=>(HON5.out.lt gm h).2));clear hown6 hB6 HOP5 HON5 p0 p1 pf HSt;go_wp2_with fail;(go_loopw [5,15] (fun vp kk wr3=>c82 w1 wc.heap.size k ps q am nms' u6 vp kk wr3) (fun _ kk _=>q.length-(intOf kk).toNat));case atStart=>exact ⟨0,by omega,rfl,a0a (by simpa using HOP6.out),HON6,HB6.out,HMO,HNE,hz6⟩
         case round=>
          obtain ⟨j,hjq,rfl,HP7,HN7,hB7,HM7,hNE7,hz7⟩:=hrel;have HB7:=a0a hB7;have hz7':w1.heap.size<=wr.heap.size:=hB7.size;clear hB7;by_cases hjl:j<q.length
          ·obtain ⟨gm,rfl,hgb,hgs,hgf,hgc⟩:=HM7.out j q[j] (Nat.le_refl _) (by simp[hjl])
           (have HTQ:Hid (q.take (j+1)=q.take j++[q[j]]):=a0a (by rw[List.take_add_one,List.getElem?_eq_getElem hjl];rfl));generalize q[j]=p at *;have y0:=hgc 0 _ rfl;rw[Nat.add_zero]at y0;have y1:=hgc 1 _ rfl;have y2:=hgc 2 _ rfl;have y3:=hgc 3 _ rfl;have y4:=hgc 4 _ rfl;have y5:=hgc 5 _ rfl;have y6:=hgc 6 _ rfl;have y7:=hgc 7 _ rfl;have y8:=hgc 8 _ rfl;have y9:=hgc 9 _ rfl;(have hjl2:(j:Int)<q.length:=by omega);(have HPB:Hid (∀gp,u5.ownBlock=some gp->gp≠gm):=a0a (fun gp h e=>by subst e;exact hNE7.out gp rfl h));(have HPS:Hid ((wr.setCell ⟨gm,j*10+8,none⟩ (.int .i64 ((k:Int)+1))).ownsRow w1.heap.size 224 10 u5 (ps++(q.take j).map fun p=>(p,(k:Int)+1)).length (Pn.pcL (ps++(q.take j).map fun p=>(p,(k:Int)+1)))):=a0a (a0u HP7.out (fun gp h=>Below.heap_setCell _ _ _ _ (HPB.out gp h))));clear hgc;(have hsS:(wr.setCell ⟨gm,j*10+8,none⟩ (.int .i64 ((k:Int)+1))).heap.size=wr.heap.size:=by simp[World.setCell]);(have hpn:(ps++(q.take j).map fun p=>(p,(k:Int)+1)).length<=5000:=by simp;omega);(generalize hPL:(ps++(q.take j).map fun p=>(p,(k:Int)+1))=PL at *);have HPL:=a0a hPL;clear hPL;(go_wp2_with (at_builtin;refine wpList_append_lies _ rfl _ _ 233 rfl w1.heap.size 224 i0 _ 10 96 underlying233 hi hz0 hz1 hz2 rfl (by decide) _ _ _ rfl (HPS.out.alloc _) ⟨wr.heap.size,0,none⟩ 1 1 (Pn.rpC p ((k:Int)+1) 0) rfl rfl ?c1 ?c2 (by decide) ?c3 ?c4 ?c5 (wr.heap.size+1) ?c6 ?_));(case c1=>have:=a2D (wr.setCell ⟨gm,j*10+8,none⟩ (.int .i64 ((k:Int)+1))) (Pn.rpC p ((k:Int)+1) 0) 224;rw[hsS]at this;exact this);(case c2=>intro u hu;simp[Pn.rpC]at hu;rcases hu with rfl|rfl|rfl|rfl|rfl|rfl|rfl|rfl|rfl|rfl<;>rfl);(case c3=>unfold maxLen;omega);(case c4=>omega);(case c5=>rw[World.size_alloc,hsS];omega);(case c6=>rw[World.size_alloc,hsS]);intro g8 c8 w8 hown8 hgrow hat hlt8
           have HP8:Hid (w8.ownsRow w1.heap.size 224 10 (.slice (some ⟨g8,0,none⟩) (PL.length+1) c8) (ps++(q.take (j+1)).map fun p=>(p,(k:Int)+1)).length (Pn.pcL (ps++(q.take (j+1)).map fun p=>(p,(k:Int)+1)))):=a0a (by
            (have e:(ps++(q.take (j+1)).map fun p=>(p,(k:Int)+1))=PL++[(p,(k:Int)+1)]:=by rw[HTQ.out,List.map_append,<-List.append_assoc,HPL.out];rfl);rw[e];simpa[Pn.pcL] using hown8)
           (have HN8:Hid (w8.ownsRow w1.heap.size 278 2 u6 nms'.length (nms'.flatMap Pn.nmC)):=a0a (((a0u HN7.out (fun gp h=>Below.heap_setCell _ _ _ _ (show gp≠gm by have:=HNB.out gp h;omega))).alloc _).kept hgrow (a5K HN7.out HP7.out (by decide))));(have HB8:Hid (Below w1.heap.size w1 w8):=a0a (((HB7.out.setCell (p:=⟨gm,j*10+8,none⟩) (show w1.heap.size<=gm by omega) _).alloc (by rw[hsS];omega) _).grown hgrow (by rw[World.size_alloc,hsS];omega) (fun j hj=>by have:=(HPS.out.lt j hj).1;omega)));(have hz8:wc.heap.size<=w8.heap.size:=by have:=hgrow.size;rw[World.size_alloc,hsS]at this;omega);have hgm8:some gm≠u5.ownBlock:=fun e=>HPB.out gm e.symm rfl
           have HM8:Hid (b89 wc.heap.size (some ⟨gm,0,none⟩) q (j+1) w8):=a0a (fun i p' hi hp'=>by
            (obtain ⟨gm',e,a1,a2,a3,a4⟩:=HM7.out i p' (by omega) hp');(injection e with e);(injection e with e);subst e;(have hlt:gm<((wr.setCell ⟨gm,j*10+8,none⟩ (.int .i64 ((k:Int)+1))).alloc (.cells #[.int .i64 p.ins.op,.int .i64 p.ins.rd,.int .i64 p.ins.rs1,.int .i64 p.ins.rs2,.int .i64 p.ins.imm,.string ⟨p.tg.toArray⟩,.bool p.sh,.string ⟨p.bt.toArray⟩,.int .i64 ((k:Int)+1),.int .i64 0] 224)).heap.size:=by rw[World.size_alloc,hsS];omega);(have hltS:gm<(wr.setCell ⟨gm,j*10+8,none⟩ (.int .i64 ((k:Int)+1))).heap.size:=by rw[hsS];exact hgs);have hBa:=(Below.refl (wr.setCell ⟨gm,j*10+8,none⟩ (.int .i64 ((k:Int)+1))).heap.size (wr.setCell ⟨gm,j*10+8,none⟩ (.int .i64 ((k:Int)+1)))).alloc (Nat.le_refl _) (.cells #[.int .i64 p.ins.op,.int .i64 p.ins.rd,.int .i64 p.ins.rs1,.int .i64 p.ins.rs2,.int .i64 p.ins.imm,.string ⟨p.tg.toArray⟩,.bool p.sh,.string ⟨p.bt.toArray⟩,.int .i64 ((k:Int)+1),.int .i64 0] 224);refine ⟨gm,rfl,a1,Nat.lt_of_lt_of_le hlt hgrow.size,fun y=>?_,fun x v hx=>?_⟩
            ·rw[hgrow.frozen_far ⟨gm,y,none⟩ hlt hgm8,hBa.frozen (p:=⟨gm,y,none⟩) hltS,World.frozen?_setCell]
             exact a3 y
            ·have hx10:x<10:=by
              rcases Nat.lt_or_ge x 10 with h|h
              ·exact h
              ·rw[List.getElem?_eq_none (by simpa[Pn.rpC] using h)]at hx;cases hx
             (rw[hgrow.cell_far ⟨gm,i*10+x,none⟩ hlt hgm8,hBa.cell (p:=⟨gm,i*10+x,none⟩) hltS,World.cell?_setCell_other _ _ _ _ (by intro h';injection h' with _ h1;omega)]);exact a4 x v hx)
           have HNE8:Hid (∀gm',(some ⟨gm,0,none⟩:Option Addr)=some ⟨gm',0,none⟩->(Value.slice (some ⟨g8,0,none⟩) (PL.length+1) c8).ownBlock≠some gm'):=a0a (fun gm' e h=>by
            (injection e with e);(injection e with e);subst e;(have e2:g8=gm:=by simpa[Value.ownBlock] using h);rcases hat with h1|h1
            ·exact HPB.out g8 h1 e2
            ·omega)
           clear hown8 hgrow hat HPS HM7 HN7 HP7 hNE7 y0 y1 y2 y3 y4 y5 y6 y7 y8 y9;go_wp2_with fail;go_roundw;(case rel=>exact ⟨j+1,by omega,by go_num,HP8,HN8,HB8.out,HM8,HNE8,hz8⟩);case measure=>simp[intOf];omega
          ·have hje:j=q.length:=by omega
           subst hje;go_wp2_with fail;go_meet;case rel=>exact ⟨by rw[HST.out],a0a (by rw[HST.out];have:=HP7.out;rw[List.take_length]at this;exact this),HN7,HB7.out⟩
        ·have HQ:R=(([],[]),er,(k:Int)+1):=((HLE.out _ (HLN.out.trans (c3E he0))).1 he0)
         subst HQ;(have heb:(er != 0)=true:=by simpa using he0);clear HLN HSt hown6 hB6 HOP5 HON5;go_wp2_with fail;refine bodyPost_ret (v:=.tuple #[.slice none 0 0,.slice none 0 0,.agg #[.int .i64 er,.int .i64 ((k:Int)+1)]]) (by simp[results,results169,go_sem,x0,x1,xf]) rfl (a5h (HFB _ _ HB6.out))
      case rest=>
       obtain ⟨hs0,HP8,HN8,hB8⟩:=hcut;have hsl:=b29 T';generalize Pn.stL T'=ST at *;obtain ⟨q,er⟩:=ST;simp only at hs0 hsl HP8;subst hs0;obtain ⟨x0,x1,xf⟩:=HF1.out.below hB8 hz1';have HB8:=a0a hB8;clear hB8
       cases b with
       | true=>
        (have HQ:R=(([],[]),6,(k:Int)+1):=((HLE.out _ HLN.out).1 (show (6:Int)≠0 by decide)));subst HQ;go_wp2_with fail;refine bodyPost_ret (v:=.tuple #[.slice none 0 0,.slice none 0 0,.agg #[.int .i64 6,.int .i64 ((k:Int)+1)]]) (by simp[results,results169,go_sem,x0,x1,xf]) rfl (a5h (HFB _ _ HB8.out))
       | false=>
        (have HQ:Hid (R=a5r (A.drop (k+1)) (k+1) (ps++q.map fun p=>(p,(k:Int)+1)) nms'):=a0a ((HLE.out _ HLN.out).2 rfl));go_wp2_with fail;go_roundw;(case rel=>exact ⟨k+1,ps++q.map fun p=>(p,(k:Int)+1),nms',by omega,by go_num,by simp;omega,hn',HP8,HN8,HB8.out,HQ⟩);case measure=>simp[intOf];omega
  ·have hke:k=A.length:=by omega
   subst hke;(have HQ:R=((ps,nms),0,0):=HEQ.out.trans (by rw[List.drop_length];rfl));subst HQ;obtain ⟨ap,cpp,rfl⟩:=a10 HOP.out;obtain ⟨an,cn,rfl⟩:=a10 HON.out;go_wp2_with fail;refine bodyPost_ret (v:=.tuple #[.slice ap ps.length cpp,.slice an nms.length cn,.agg #[.int .i64 0,.int .i64 0]]) (by simp[results,results169,go_sem,f0,f1,ff]) rfl ⟨_,_,_,_,_,_,rfl,a57 (ownsRow_setCell_below (ownsRow_setCell_below HOP.out hz1' _) hz1' _) (Nat.le_of_lt hz1'),a57 (ownsRow_setCell_below (ownsRow_setCell_below HON.out hz1' _) hz1' _) (Nat.le_of_lt hz1'),HFB _ _ hBr⟩
end Go.Proofs.YtbmcofdodfcnnaaGreatDoor
namespace Pn
open Go
abbrev Pz:=Rp×Int×Int
def szL (ps:List Pz):List Int:=ps.map fun p=>p.2.2
def a4s (ps:List Pz) (nm:List (ByteArray×Nat)) (p:Rp) (k:Nat):Ins:=if p.tg=[] then p.ins else { p.ins with imm:=fdR (szL ps) nm ⟨p.tg.toArray⟩-plR (szL ps) k }
theorem c5h {sz:List Int} (h:∀x∈sz,0<=x/\x<=4) (nm:List (ByteArray×Nat)) (hn:∀x∈nm,x.2<=sz.length) (s:ByteArray):-1<=fdR sz nm s/\fdR sz nm s<=4*sz.length:=by
 unfold fdR
 split
 ·rename_i x hx
  have:=a65 h x.2;have:=hn x (List.mem_of_find?_eq_some hx);omega
 ·omega
end Pn
namespace Go.Proofs.YtbmcofdodfcnnaaGreatDoor
open Pn
open Go.Proofs.Tryz
open Go.RowKit
def c4e (la:Option Addr) (ps:List Pn.Pz) (w:World):Prop:=
 ∀i p,ps[i]?=some p->∃B:Nat,la=some ⟨B,0,none⟩/\B<w.heap.size/\∀x v,(Pn.rpC p.1 p.2.1 p.2.2)[x]?=some v->w.cell? ⟨B,i*10+x,none⟩=some v
def b5Y (na:Option Addr) (nm:List (ByteArray×Nat)) (w:World):Prop:=
 ∀i x,nm[i]?=some x->∃B:Nat,na=some ⟨B,0,none⟩/\B<w.heap.size/\w.cell? ⟨B,i*2,none⟩=some (.string x.1)/\w.cell? ⟨B,i*2+1,none⟩=some (.int .i64 x.2)
structure Lay (ps:List Pn.Pz) (nm:List (ByteArray×Nat)):Prop where
 len:ps.length<=5000
 nlen:nm.length<=5000
 sz:∀p∈ps,0<=p.2.2/\p.2.2<=4
 at':∀x∈nm,x.2<=ps.length
theorem Lay.szs {ps:List Pn.Pz} {nm:List (ByteArray×Nat)} (h:Lay ps nm):∀x∈Pn.szL ps,0<=x/\x<=4:=fun x hx=>by
 obtain ⟨p,hp,rfl⟩:=List.mem_map.1 hx;exact h.sz p hp
theorem c6A {la:Option Addr} {ps:List Pn.Pz} {w:World} (h:c4e la ps w):∀i,i<(Pn.szL ps).length->∃B:Nat,la=some ⟨B,0,none⟩/\w.cell? ⟨B,i*10+9,none⟩=some (.int .i64 ((Pn.szL ps).getD i 0)):=fun i hi=>by
 have hi':i<ps.length:=by simpa[Pn.szL] using hi
 obtain ⟨B,h1,_,h3⟩:=h i ps[i] (by simp[hi'])
 refine ⟨B,h1,(h3 9 _ rfl).trans ?_⟩;simp[Pn.szL,List.getD,hi']
theorem b7m {la na:Option Addr} {ps:List Pn.Pz} {nm:List (ByteArray×Nat)} {w:World} (hL:Lay ps nm) (hP:c4e la ps w) (hN:b5Y na nm w) (cap ncap:Nat) (s:ByteArray):
    Calls prog 170 #[.slice la ps.length cap,.slice na nm.length ncap,.string s] w fun e w'=>e=.returned (.int .i64 (Pn.fdR (Pn.szL ps) nm s))/\w'=w:=by
 have e:(Pn.szL ps).length=ps.length:=by simp[Pn.szL]
 have:=b90 la cap (Pn.szL ps) na ncap nm s w (by have:=hL.len;omega) hL.szs (by have:=hL.nlen;omega) (fun x hx=>by rw[e];exact hL.at' x hx) (c6A hP) (fun i x hx=>by obtain ⟨B,h1,_,h3,h4⟩:=hN i x hx;exact ⟨B,h1,h3,h4⟩)
 rw[e]at this;exact this
theorem b3X {la:Option Addr} {ps:List Pn.Pz} {nm:List (ByteArray×Nat)} {w:World} (hL:Lay ps nm) (hP:c4e la ps w) (cap k:Nat) (hk:k<=ps.length):
    Calls prog 172 #[.slice la ps.length cap,.int .i64 k] w fun e w'=>e=.returned (.int .i64 (Pn.plR (Pn.szL ps) k))/\w'=w:=by
 have e:(Pn.szL ps).length=ps.length:=by simp[Pn.szL]
 have:=b1m la cap (Pn.szL ps) k w (by omega) (by have:=hL.len;omega) hL.szs (c6A hP)
 rw[e]at this;exact this
theorem a7P {la:Option Addr} {ps:List Pn.Pz} {w w':World} (h:c4e la ps w) (hB:Below w.heap.size w w'):c4e la ps w':=fun i p hp=>by
 obtain ⟨B,h1,h2,h3⟩:=h i p hp;exact ⟨B,h1,by have:=hB.size;omega,fun x v hx=>(hB.cell (p:=⟨B,_,none⟩) h2).trans (h3 x v hx)⟩
theorem a6h {na:Option Addr} {nm:List (ByteArray×Nat)} {w w':World} (h:b5Y na nm w) (hB:Below w.heap.size w w'):b5Y na nm w':=fun i x hx=>by
 obtain ⟨B,h1,h2,h3,h4⟩:=h i x hx;exact ⟨B,h1,by have:=hB.size;omega,(hB.cell (p:=⟨B,_,none⟩) h2).trans h3,(hB.cell (p:=⟨B,_,none⟩) h2).trans h4⟩
theorem a8L (la na:Option Addr) (ps:List Pn.Pz) (nm:List (ByteArray×Nat)) (cap ncap k:Nat) (p:Pn.Pz) (w:World) (hL:Lay ps nm) (hP:c4e la ps w) (hN:b5Y na nm w) (hk:ps[k]?=some p) (hcap:ps.length<=cap):
    Calls prog 171 #[.slice la ps.length cap,.slice na nm.length ncap,.int .i64 k] w fun e w'=>e=.returned (a4s ps nm p.1 k).val/\Below w.heap.size w w':=by
 have hkl:k<ps.length:=by
  rcases Nat.lt_or_ge k ps.length with h|h
  ·exact h
  ·rw[List.getElem?_eq_none h]at hk;cases hk
 obtain ⟨B,rfl,hBs,hc⟩:=hP k p hk;have y0:=hc 0 _ rfl;rw[Nat.add_zero]at y0;have y1:=hc 1 _ rfl;have y2:=hc 2 _ rfl;have y3:=hc 3 _ rfl;have y4:=hc 4 _ rfl;have y5:=hc 5 _ rfl;have hkl2:(k:Int)<ps.length:=by omega
 have hpl:=hL.len;have HF:=a0a (fun W (hB:Below w.heap.size w W)=>b7m hL (a7P hP hB) (a6h hN hB) cap ncap ⟨p.1.tg.toArray⟩)
 have HPl:=a0a (fun W (hB:Below w.heap.size w W)=>b3X hL (a7P hP hB) cap k (by omega))
 have hb1:=a65 hL.szs k;have hb2:=c5h hL.szs nm (fun x hx=>by rw[show (Pn.szL ps).length=ps.length by simp[Pn.szL]];exact hL.at' x hx) ⟨p.1.tg.toArray⟩
 rw[show (Pn.szL ps).length=ps.length by simp[Pn.szL]]at hb2
 have HV:Hid (a4s ps nm p.1 k=if p.1.tg=[] then p.1.ins else { p.1.ins with imm:=Pn.fdR (Pn.szL ps) nm ⟨p.1.tg.toArray⟩-Pn.plR (Pn.szL ps) k }):=a0a rfl
 generalize a4s ps nm p.1 k=R at *;generalize Pn.fdR (Pn.szL ps) nm ⟨p.1.tg.toArray⟩=F at *;generalize Pn.plR (Pn.szL ps) k=Q at *;obtain ⟨⟨I,tg,sh,bt⟩,ln,sz⟩:=p;simp only at *;clear hc hP hN hL hk;have hts:(⟨tg.toArray⟩:ByteArray).toList=tg:=a34 tg;by_cases ht:tg=[]
 ·have HQ:R=I:=HV.out.trans (if_pos ht)
  subst HQ ht;clear HV;go_enter func171,ntmps171;go_wp2_with fail;refine bodyPost_ret (v:=R.val) (by simp[results,results171,go_sem,Pn.Ins.val]) rfl ⟨rfl,?_⟩
  exact ((Below.refl _ _).alloc (Nat.le_refl _) _).alloc (by simp) _
 ·have HQ:R = { I with imm:=F-Q }:=HV.out.trans (if_neg ht)
  subst HQ;have htb:tg.isEmpty=false:=by simpa using ht
  clear HV ht hts;go_enter func171,ntmps171;go_wp2_with fail;refine (HF.out _ (((Below.refl _ _).alloc (Nat.le_refl _) _).alloc (by simp) _)).mono ?_
  rintro e w2 ⟨rfl,rfl⟩;go_wp2_with fail;refine (HPl.out _ (((Below.refl _ _).alloc (Nat.le_refl _) _).alloc (by simp) _)).mono ?_
  rintro e w3 ⟨rfl,rfl⟩;go_wp2_with fail;refine bodyPost_ret (v:=({ I with imm:=F-Q }:Pn.Ins).val) (by simp[results,results171,go_sem,Pn.Ins.val]) rfl ⟨rfl,?_⟩
  exact ((Below.refl _ _).alloc (Nat.le_refl _) _).alloc (by simp) _
def c48 (b:Nat) (la:Option Addr) (ps:List Pn.Pz) (w:World):Prop:=c4e la ps w/\∀B,la=some ⟨B,0,none⟩->b<=B/\B<w.heap.size/\∀y,w.frozen? ⟨B,y,none⟩=false
theorem c9r (p:Pn.Rp) (ln a b:Int) (x:Nat) (hx:x≠9):(Pn.rpC p ln a)[x]?=(Pn.rpC p ln b)[x]?:=by
 match x,hx with
 | 0,_=>rfl
 | 1,_=>rfl
 | 2,_=>rfl
 | 3,_=>rfl
 | 4,_=>rfl
 | 5,_=>rfl
 | 6,_=>rfl
 | 7,_=>rfl
 | 8,_=>rfl
 | x+10,_=>rfl
theorem c6o {b B k:Nat} {la:Option Addr} {ps:List Pn.Pz} {w:World} {p:Pn.Pz} (h:c48 b la ps w) (hla:la=some ⟨B,0,none⟩) (hk:ps[k]?=some p) (n:Int):
    c48 b la (ps.set k (p.1,p.2.1,n)) (w.setCell ⟨B,k*10+9,none⟩ (.int .i64 n)):=by
 obtain ⟨hz,hf⟩:=h;have hs:(w.setCell ⟨B,k*10+9,none⟩ (.int .i64 n)).heap.size=w.heap.size:=by simp[World.setCell]
 refine ⟨fun i q hq=>?_,fun B' e=>?_⟩
 ·obtain ⟨hfB1,hfB2,hfB⟩:=hf B hla
  refine ⟨B,hla,by rw[hs];exact hfB2,fun x v hx=>?_⟩
  have hx10:x<10:=by
   rcases Nat.lt_or_ge x 10 with h|h
   ·exact h
   ·rw[List.getElem?_eq_none (by simpa[Pn.rpC] using h)]at hx;cases hx
  by_cases hik:k=i
  ·subst hik
   obtain ⟨B2,e2,_,hc⟩:=hz k p hk;rw[hla]at e2;(injection e2 with e2);(injection e2 with e2);subst e2
   have hlt:k<ps.length:=by
    rcases Nat.lt_or_ge k ps.length with h|h
    ·exact h
    ·rw[List.getElem?_eq_none h]at hk;cases hk
   rw[List.getElem?_set_self hlt]at hq;(injection hq with hq);subst hq;by_cases h9:x=9
   ·subst h9
    (have:v=.int .i64 n:=by injection hx with hx;exact hx.symm);subst this;exact World.cell?_setCell_same _ _ _ (hc 9 _ rfl)
   ·rw[World.cell?_setCell_other _ _ _ _ (by intro h';injection h' with _ h1;omega)]
    exact hc x v (by rw[c9r p.1 p.2.1 p.2.2 n x h9];exact hx)
  ·rw[List.getElem?_set_ne hik]at hq
   obtain ⟨B2,e2,_,hc⟩:=hz i q hq;rw[hla]at e2;(injection e2 with e2);(injection e2 with e2);subst e2;(rw[World.cell?_setCell_other _ _ _ _ (by intro h';injection h' with _ h1;omega)]);exact hc x v hx
 ·obtain ⟨h1,h2,h3⟩:=hf B' e
  exact ⟨h1,by rw[hs];exact h2,fun y=>by rw[World.frozen?_setCell];exact h3 y⟩
theorem a7S {b:Nat} {la:Option Addr} {ps:List Pn.Pz} {w w':World} (h:c48 b la ps w) (hB:Below w.heap.size w w'):c48 b la ps w':=
 ⟨a7P h.1 hB,fun B e=>by
  obtain ⟨h1,h2,h3⟩:=h.2 B e;exact ⟨h1,by have:=hB.size;omega,fun y=>(hB.frozen (p:=⟨B,y,none⟩) h2).trans (h3 y)⟩⟩
theorem c56 {w:World} {b cap:Nat} {la:Option Addr} {ps:List (Pn.Rp×Int)} (h:w.ownsRow b 224 10 (.slice la ps.length cap) ps.length (Pn.pcL ps)):c48 b la (ps.map fun p=>(p.1,p.2,0)) w:=by
 have hh:=h;obtain ⟨_,h1|⟨g,cap',cur,hv,hg,hb,hle,_⟩⟩:=h
 ·have hn:ps=[]:=List.eq_nil_of_length_eq_zero h1.2
  subst hn;refine ⟨fun i p hp=>(by cases hp),fun B e=>?_⟩
  have:=h1.1;subst e;cases this
 ·injection hv with h1 _ h3
  subst h1 h3;refine ⟨fun i p hp=>?_,fun B e=>?_⟩
  ·rw[List.getElem?_map]at hp
   cases hq:ps[i]? with
   | none=>rw[hq]at hp;cases hp
   | some q=>
    rw[hq]at hp;(injection hp with hp);subst hp
    have hk:i<ps.length:=by
     rcases Nat.lt_or_ge i ps.length with h|h
     ·exact h
     ·rw[List.getElem?_eq_none h]at hq;cases hq
    refine ⟨g,rfl,(hh.lt g rfl).2,fun x v hx=>?_⟩
    have hx10:x<10:=by
     rcases Nat.lt_or_ge x 10 with h|h
     ·exact h
     ·rw[List.getElem?_eq_none (by simpa[Pn.rpC] using h)]at hx;cases hx
    (have hf:=a1j (fun p:Pn.Rp×Int=>Pn.rpC p.1 p.2 0) 10 (fun _=>rfl) ps i x hx10 hk);rw[hq]at hf;simp only[Option.bind_some]at hf;have:=hh.cells (g:=g) rfl (10*i+x) _ (hf.trans hx);rw[a5X]at this;rw[Nat.mul_comm i 10];exact this
  ·injection e with e
   (injection e with e);subst e;exact ⟨hg,(hh.lt g rfl).2,fun y=>hh.frozenAt y⟩
theorem c3T {w:World} {b cap:Nat} {na:Option Addr} {nm:List (ByteArray×Nat)} (h:w.ownsRow b 278 2 (.slice na nm.length cap) nm.length (nm.flatMap Pn.nmC)):b5Y na nm w/\∀B,na=some ⟨B,0,none⟩->b<=B:=by
 obtain ⟨ao,cap',e,hc⟩:=b4k h;injection e with e1 _ _
 subst e1;refine ⟨hc,fun B e=>?_⟩
 subst e;exact (h.lt B rfl).1
