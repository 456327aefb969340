import Derived.Test.YtbmcofdodfcnnaaGreatDoorGWH
set_option linter.all false
set_option maxHeartbeats 400000000
set_option maxRecDepth 100000
namespace Pn
open Go
def a6T (size:Nat):Option (List Int×Int×ByteArray)->List Rp×Int
 | none=>([],4)
 | some (_,n,_)=>if size=0 then ([],4) else if n<0\/2^(8*size)<=n then ([],5) else ([⟨⟨0,0,0,0,0⟩,[],false,a2I size n⟩],0)
theorem a33 {size:Nat} (hs:size≠0) {rs:List Int} {n:Int} {nm:ByteArray} (h:n<0\/2^(8*size)<=n):a6T size (some (rs,n,nm))=([],5):=by
 simp only[a6T];rw[if_neg hs,if_pos h]
theorem b0x {size:Nat} (hs:size≠0) {rs:List Int} {n:Int} {nm:ByteArray} (h:¬(n<0\/2^(8*size)<=n)):a6T size (some (rs,n,nm))=([⟨⟨0,0,0,0,0⟩,[],false,a2I size n⟩],0):=by
 simp only[a6T];rw[if_neg hs,if_neg h]
def b6v (l:List UInt8):Nat:=if l=[98,121,116,101] then 1 else if l=[104,97,108,102] then 2 else if l=[119,111,114,100] then 4 else 0
def b1L:List Tok->List Rp×Int
 | []=>([],4)
 | u::l=>if u.blank=true\/u.kind≠119 then ([],4) else a6T (b6v u.text) (a0r l [105] [] 0 ⟨#[]⟩)
theorem a7s (n:Int) (q:Nat) (h0:0<=n) (h1:n<=1099511627776):0<=n/256^q/\n/256^q<=1099511627776/\n/256^q/256=n/256^(q+1):=by
 have hp:(0:Int)<256^q:=Int.pow_pos (by omega)
 refine ⟨Int.ediv_nonneg h0 (by omega),Int.le_trans (Int.ediv_le_self _ h0) h1,?_⟩
 rw[Int.ediv_ediv_of_nonneg (by omega),Int.pow_succ]
end Pn
namespace Go.Proofs.YtbmcofdodfcnnaaGreatDoor
open Pn
open Go.Proofs.Tryz
open Go.RowKit
theorem a56 (w:World) (q:Int) (h0:0<=q) (h1:q<=255):(convert 65 9 (.slice (some ⟨w.heap.size,0,none⟩) 1 1)).run prog (w.alloc (.cells #[.int .u8 q] 5)) =
    .ok (.string ⟨#[UInt8.ofNat q.toNat]⟩) (w.alloc (.cells #[.int .u8 q] 5)):=
 run_convert_bytes_back _ 65 9 5 ⟨w.heap.size,0,none⟩ 1 [UInt8.ofNat q.toNat] underlying65 underlying5 underlying9 (fun j hj=>by
  obtain rfl:j=0:=by simpa using hj
  have:((UInt8.ofNat q.toNat).toNat:Int)=q:=by rw[UInt8.toNat_ofNat'];omega
  simp only[List.getElem_cons_zero,this];go_simp)
theorem a7O {w:World} {t u:Pn.Tok} {l:List Pn.Tok} {n g o cap:Nat} (hn:l.length+2=n) (hc:a0A t (u::l) g o w) (hg:g<w.heap.size):a2L w (.slice (some ⟨g,o+8,none⟩) (n-2) cap) l:=by
 have e:n-2=l.length:=by omega
 refine ⟨_,_,by rw[e],fun _=>⟨g,o+8,rfl,hg,fun k v hv=>?_⟩⟩
 have:=hc (k+2) v (by simpa using hv)
 have ek:o+(k+2)*4=o+8+k*4:=by omega
 rw[ek]at this;exact this
theorem a5l {w:World} {l:List Pn.Tok} {n:Nat} {ao:Option Addr} {cap:Nat} (hn:l.length+2=n) (h1:n=2):a2L w (.slice ao (n-2) cap) l:=by
 have e:l=[]:=List.eq_nil_of_length_eq_zero (by omega)
 subst e;exact ⟨ao,cap,by rw[h1];rfl,fun h=>absurd rfl h⟩
def c0z (l:List Pn.Tok) (w:World) (nn ok:Value) (wx:World):Prop:=
 (match a0r l [105] [] 0 ⟨#[]⟩ with
 | none=>ok=.bool false
 | some (_,n,_)=>nn=.int .i64 n/\ok=.bool true)/\Below w.heap.size w wx
theorem c0S (t u:Pn.Tok) (l:List Pn.Tok) (g o cap:Nat) (w:World) (hl:l.length<=1998) (hg:g<w.heap.size) (hcap:l.length+2<=cap) (hc:a0A t (u::l) g o w)
    (hnum:∀u∈l,-1099511627776<=u.num/\u.num<=1099511627776) (hk:t.kind=46) (hu:u.blank=false) (hw:u.kind=119) (hs:u.text=[98,121,116,101]):
    Calls prog 243 #[.slice (some ⟨g,o,none⟩) (l.length+2) cap] w fun e w'=>a2k (a6T 1 (a0r l [105] [] 0 ⟨#[]⟩)).1 (a6T 1 (a0r l [105] [] 0 ⟨#[]⟩)).2 w e w':=by
 generalize hR:a6T 1 (a0r l [105] [] 0 ⟨#[]⟩)=R;have HV:=a0a hR.symm;clear hR;obtain ⟨t0,_,_,_⟩:=hc 0 t rfl;obtain ⟨v0,v1,_,v3⟩:=hc 1 u rfl;simp only[Nat.zero_mul,Nat.add_zero,Nat.one_mul,Nat.add_assoc,Nat.reduceAdd]at t0 v0 v1 v3;rw[hk]at t0;rw[hw]at v0;rw[hu]at v3;have hS:u.S.toList=[98,121,116,101]:=(a05 u).trans hs;clear hs;generalize hn:l.length+2=n at *;have HL:=a0a hn;have HT:=a0a (a7O (cap:=cap-2) hn hc hg);have HVH:=a0a (fun (v:Value) (hv:a2L w v l)=>a1f l ⟨#[105]⟩ v w (by omega) hv)
 have hp1:1<n:=by omega
 have hp2:(1:Int)<n:=by omega
 have hn2:n<=2000:=by omega
 clear hn hl hc hk hu hw;generalize u.S=s at *;go_enter func243,ntmps243;go_upto_region 12 with fail;go_cut [0,4,6,8] (fun l0 sz nn ok wx=>(l0=.slice (some ⟨g,o,none⟩) n cap/\sz=.int .i64 1)/\c0z l w nn ok wx)
 case first=>
  go_wp2_with fail
  all_goals
   first
   | ((have hq:n=2:=by omega);refine (a0b HVH _ (a5l (a0b HL) hq)).mono ?_;clear hq)
   | (refine (a0b HVH _ (a0b HT)).mono ?_)
   rintro e wx ⟨ho,hBx⟩;replace ho:a1z (a0r l [105] [] 0 ⟨#[]⟩) w e wx:=ho;have HBx:=a0a hBx;clear hBx
   cases hop:a0r l [105] [] 0 ⟨#[]⟩ with
   | none=>
    rw[hop]at ho;have HOP:=a0a hop;clear hop;simp only[a1z]at ho;subst ho;go_wp2_with fail;go_meet;case rel=>exact ⟨⟨by first|rfl|rw[‹cap=2›],rfl⟩,by rw[a0b HOP],HBx.out⟩
   | some r=>
    obtain ⟨rs,nn,nm⟩:=r;rw[hop]at ho;have HOP:=a0a hop;clear hop;simp only[a1z]at ho;obtain ⟨v,he,hown⟩:=ho;have HOW:=a0a hown;clear hown;subst he;go_wp2_with fail;go_meet;case rel=>exact ⟨⟨by first|rfl|rw[‹cap=2›],rfl⟩,by rw[a0b HOP];exact ⟨rfl,rfl⟩,HBx.out⟩
 case rest=>
  obtain ⟨⟨rfl,rfl⟩,hP,hBx⟩:=hcut;have hzx:w.heap.size<=wc.heap.size:=hBx.size;have HBx:=a0a hBx;clear hBx HVH HT t0 v0 v1 v3
  cases hop:a0r l [105] [] 0 ⟨#[]⟩ with
  | none=>
   rw[hop]at hP HV;clear hop;have HQ:R=([],4):=HV.out;subst HQ;clear HV;subst hP;go_wp2_with fail;go_ret2;exact a0n HBx.out
  | some r=>
   obtain ⟨rs,nn,nm⟩:=r;rw[hop]at hP HV;(have hnn:=a2R _ _ _ _ _ _ _ _ hop hnum (by omega));clear hop;obtain ⟨e1,e2⟩:=hP;subst e1 e2;obtain ⟨hn0,hn1⟩:=hnn;(have HC1:=a0a (fun W=>a0x 8 W (by omega) (by omega)));(have hpw:a2A 8=256:=by decide);rw[hpw]at HC1;by_cases hlo:nn<0
   ·have HQ:R=([],5):=HV.out.trans (a33 (by decide) (Or.inl hlo))
    subst HQ;clear HV;go_wp2_with fail;go_ret2;exact a0n HBx.out
   ·by_cases hhi:256<=nn
    ·have HQ:R=([],5):=HV.out.trans (a33 (by decide) (Or.inr hhi))
     subst HQ;clear HV;go_wp2_with fail;refine (HC1.out _).mono ?_;rintro e wc ⟨rfl,rfl⟩;go_wp2_with fail;go_ret2;exact a0n HBx.out
    ·have HQ:R=([⟨⟨0,0,0,0,0⟩,[],false,a2I 1 nn⟩],0):=HV.out.trans (b0x (by decide) (by show ¬(nn<0\/256<=nn);omega))
     have HR:=a0a HQ;clear HQ HV;go_wp2_with fail;refine (HC1.out _).mono ?_;rintro e wc ⟨rfl,rfl⟩;go_wp2_with fail;(go_loopw [6,9,10] (fun nv s k wr=>∃q:Nat,q<=1/\nv=.int .i64 (nn/256^q)/\s=.string ⟨(a2I q nn).toArray⟩/\k=.int .i64 q/\Below w.heap.size w wr) (fun _ _ k _=>1-(intOf k).toNat));case atStart=>exact ⟨0,by omega,by simp,rfl,rfl,HBx.out⟩
     case round=>
      obtain ⟨q,hq,rfl,rfl,rfl,hB⟩:=hrel;have HB:=a0a hB;clear hB;by_cases hlt:q<1
      ·obtain ⟨x0,x1,xs⟩:=a7s nn q (by omega) (by omega)
       have HXS:=a0a xs;have hsz:=a2d q nn;have HSN:=a0a (a4Q q nn);clear xs;generalize hX:nn/256^q=x at *;(have hcv:=a56 wr (x%256) (by omega) (by omega));generalize a2I q nn=S at *;go_wp2_with fail;go_roundw;(case rel=>exact ⟨q+1,by omega,by rw[HXS.out],by rw[HSN.out];exact congrArg Value.string (ByteArray.ext (by simp)),by go_num,HB.out.alloc HB.out.size _⟩);case measure=>simp[intOf];omega
      ·have hke:q=1:=by omega
       subst hke;have HQ:=HR.out;subst HQ;clear HR;go_wp2_with fail;go_ret2;exact a0O (p:=⟨⟨0,0,0,0,0⟩,[],false,a2I 1 nn⟩) HB.out
theorem c1W (t u:Pn.Tok) (l:List Pn.Tok) (g o cap:Nat) (w:World) (hl:l.length<=1998) (hg:g<w.heap.size) (hcap:l.length+2<=cap) (hc:a0A t (u::l) g o w)
    (hnum:∀u∈l,-1099511627776<=u.num/\u.num<=1099511627776) (hk:t.kind=46) (hu:u.blank=false) (hw:u.kind=119) (hs:u.text=[104,97,108,102]):
    Calls prog 243 #[.slice (some ⟨g,o,none⟩) (l.length+2) cap] w fun e w'=>a2k (a6T 2 (a0r l [105] [] 0 ⟨#[]⟩)).1 (a6T 2 (a0r l [105] [] 0 ⟨#[]⟩)).2 w e w':=by
 generalize hR:a6T 2 (a0r l [105] [] 0 ⟨#[]⟩)=R;have HV:=a0a hR.symm;clear hR;obtain ⟨t0,_,_,_⟩:=hc 0 t rfl;obtain ⟨v0,v1,_,v3⟩:=hc 1 u rfl;simp only[Nat.zero_mul,Nat.add_zero,Nat.one_mul,Nat.add_assoc,Nat.reduceAdd]at t0 v0 v1 v3;rw[hk]at t0;rw[hw]at v0;rw[hu]at v3;have hS:u.S.toList=[104,97,108,102]:=(a05 u).trans hs;clear hs;generalize hn:l.length+2=n at *;have HL:=a0a hn;have HT:=a0a (a7O (cap:=cap-2) hn hc hg);have HVH:=a0a (fun (v:Value) (hv:a2L w v l)=>a1f l ⟨#[105]⟩ v w (by omega) hv)
 have hp1:1<n:=by omega
 have hp2:(1:Int)<n:=by omega
 have hn2:n<=2000:=by omega
 clear hn hl hc hk hu hw;generalize u.S=s at *;go_enter func243,ntmps243;go_upto_region 12 with fail;go_cut [0,4,6,8] (fun l0 sz nn ok wx=>(l0=.slice (some ⟨g,o,none⟩) n cap/\sz=.int .i64 2)/\c0z l w nn ok wx)
 case first=>
  go_wp2_with fail
  all_goals
   first
   | ((have hq:n=2:=by omega);refine (a0b HVH _ (a5l (a0b HL) hq)).mono ?_;clear hq)
   | (refine (a0b HVH _ (a0b HT)).mono ?_)
   rintro e wx ⟨ho,hBx⟩;replace ho:a1z (a0r l [105] [] 0 ⟨#[]⟩) w e wx:=ho;have HBx:=a0a hBx;clear hBx
   cases hop:a0r l [105] [] 0 ⟨#[]⟩ with
   | none=>
    rw[hop]at ho;have HOP:=a0a hop;clear hop;simp only[a1z]at ho;subst ho;go_wp2_with fail;go_meet;case rel=>exact ⟨⟨by first|rfl|rw[‹cap=2›],rfl⟩,by rw[a0b HOP],HBx.out⟩
   | some r=>
    obtain ⟨rs,nn,nm⟩:=r;rw[hop]at ho;have HOP:=a0a hop;clear hop;simp only[a1z]at ho;obtain ⟨v,he,hown⟩:=ho;have HOW:=a0a hown;clear hown;subst he;go_wp2_with fail;go_meet;case rel=>exact ⟨⟨by first|rfl|rw[‹cap=2›],rfl⟩,by rw[a0b HOP];exact ⟨rfl,rfl⟩,HBx.out⟩
 case rest=>
  obtain ⟨⟨rfl,rfl⟩,hP,hBx⟩:=hcut;have hzx:w.heap.size<=wc.heap.size:=hBx.size;have HBx:=a0a hBx;clear hBx HVH HT t0 v0 v1 v3
  cases hop:a0r l [105] [] 0 ⟨#[]⟩ with
  | none=>
   rw[hop]at hP HV;clear hop;have HQ:R=([],4):=HV.out;subst HQ;clear HV;subst hP;go_wp2_with fail;go_ret2;exact a0n HBx.out
  | some r=>
   obtain ⟨rs,nn,nm⟩:=r;rw[hop]at hP HV;(have hnn:=a2R _ _ _ _ _ _ _ _ hop hnum (by omega));clear hop;obtain ⟨e1,e2⟩:=hP;subst e1 e2;obtain ⟨hn0,hn1⟩:=hnn;(have HC1:=a0a (fun W=>a0x 16 W (by omega) (by omega)));(have hpw:a2A 16=65536:=by decide);rw[hpw]at HC1;by_cases hlo:nn<0
   ·have HQ:R=([],5):=HV.out.trans (a33 (by decide) (Or.inl hlo))
    subst HQ;clear HV;go_wp2_with fail;go_ret2;exact a0n HBx.out
   ·by_cases hhi:65536<=nn
    ·have HQ:R=([],5):=HV.out.trans (a33 (by decide) (Or.inr hhi))
     subst HQ;clear HV;go_wp2_with fail;refine (HC1.out _).mono ?_;rintro e wc ⟨rfl,rfl⟩;go_wp2_with fail;go_ret2;exact a0n HBx.out
    ·have HQ:R=([⟨⟨0,0,0,0,0⟩,[],false,a2I 2 nn⟩],0):=HV.out.trans (b0x (by decide) (by show ¬(nn<0\/65536<=nn);omega))
     have HR:=a0a HQ;clear HQ HV;go_wp2_with fail;refine (HC1.out _).mono ?_;rintro e wc ⟨rfl,rfl⟩;go_wp2_with fail;(go_loopw [6,9,10] (fun nv s k wr=>∃q:Nat,q<=2/\nv=.int .i64 (nn/256^q)/\s=.string ⟨(a2I q nn).toArray⟩/\k=.int .i64 q/\Below w.heap.size w wr) (fun _ _ k _=>2-(intOf k).toNat));case atStart=>exact ⟨0,by omega,by simp,rfl,rfl,HBx.out⟩
     case round=>
      obtain ⟨q,hq,rfl,rfl,rfl,hB⟩:=hrel;have HB:=a0a hB;clear hB;by_cases hlt:q<2
      ·obtain ⟨x0,x1,xs⟩:=a7s nn q (by omega) (by omega)
       have HXS:=a0a xs;have hsz:=a2d q nn;have HSN:=a0a (a4Q q nn);clear xs;generalize hX:nn/256^q=x at *;(have hcv:=a56 wr (x%256) (by omega) (by omega));generalize a2I q nn=S at *;go_wp2_with fail;go_roundw;(case rel=>exact ⟨q+1,by omega,by rw[HXS.out],by rw[HSN.out];exact congrArg Value.string (ByteArray.ext (by simp)),by go_num,HB.out.alloc HB.out.size _⟩);case measure=>simp[intOf];omega
      ·have hke:q=2:=by omega
       subst hke;have HQ:=HR.out;subst HQ;clear HR;go_wp2_with fail;go_ret2;exact a0O (p:=⟨⟨0,0,0,0,0⟩,[],false,a2I 2 nn⟩) HB.out
theorem b99 (t u:Pn.Tok) (l:List Pn.Tok) (g o cap:Nat) (w:World) (hl:l.length<=1998) (hg:g<w.heap.size) (hcap:l.length+2<=cap) (hc:a0A t (u::l) g o w)
    (hnum:∀u∈l,-1099511627776<=u.num/\u.num<=1099511627776) (hk:t.kind=46) (hu:u.blank=false) (hw:u.kind=119) (hs:u.text=[119,111,114,100]):
    Calls prog 243 #[.slice (some ⟨g,o,none⟩) (l.length+2) cap] w fun e w'=>a2k (a6T 4 (a0r l [105] [] 0 ⟨#[]⟩)).1 (a6T 4 (a0r l [105] [] 0 ⟨#[]⟩)).2 w e w':=by
 generalize hR:a6T 4 (a0r l [105] [] 0 ⟨#[]⟩)=R;have HV:=a0a hR.symm;clear hR;obtain ⟨t0,_,_,_⟩:=hc 0 t rfl;obtain ⟨v0,v1,_,v3⟩:=hc 1 u rfl;simp only[Nat.zero_mul,Nat.add_zero,Nat.one_mul,Nat.add_assoc,Nat.reduceAdd]at t0 v0 v1 v3;rw[hk]at t0;rw[hw]at v0;rw[hu]at v3;have hS:u.S.toList=[119,111,114,100]:=(a05 u).trans hs;clear hs;generalize hn:l.length+2=n at *;have HL:=a0a hn;have HT:=a0a (a7O (cap:=cap-2) hn hc hg);have HVH:=a0a (fun (v:Value) (hv:a2L w v l)=>a1f l ⟨#[105]⟩ v w (by omega) hv)
 have hp1:1<n:=by omega
 have hp2:(1:Int)<n:=by omega
 have hn2:n<=2000:=by omega
 clear hn hl hc hk hu hw;generalize u.S=s at *;go_enter func243,ntmps243;go_upto_region 12 with fail;go_cut [0,4,6,8] (fun l0 sz nn ok wx=>(l0=.slice (some ⟨g,o,none⟩) n cap/\sz=.int .i64 4)/\c0z l w nn ok wx)
 case first=>
  go_wp2_with fail
  all_goals
   first
   | ((have hq:n=2:=by omega);refine (a0b HVH _ (a5l (a0b HL) hq)).mono ?_;clear hq)
   | (refine (a0b HVH _ (a0b HT)).mono ?_)
   rintro e wx ⟨ho,hBx⟩;replace ho:a1z (a0r l [105] [] 0 ⟨#[]⟩) w e wx:=ho;have HBx:=a0a hBx;clear hBx
   cases hop:a0r l [105] [] 0 ⟨#[]⟩ with
   | none=>
    rw[hop]at ho;have HOP:=a0a hop;clear hop;simp only[a1z]at ho;subst ho;go_wp2_with fail;go_meet;case rel=>exact ⟨⟨by first|rfl|rw[‹cap=2›],rfl⟩,by rw[a0b HOP],HBx.out⟩
   | some r=>
    obtain ⟨rs,nn,nm⟩:=r;rw[hop]at ho;have HOP:=a0a hop;clear hop;simp only[a1z]at ho;obtain ⟨v,he,hown⟩:=ho;have HOW:=a0a hown;clear hown;subst he;go_wp2_with fail;go_meet;case rel=>exact ⟨⟨by first|rfl|rw[‹cap=2›],rfl⟩,by rw[a0b HOP];exact ⟨rfl,rfl⟩,HBx.out⟩
 case rest=>
  obtain ⟨⟨rfl,rfl⟩,hP,hBx⟩:=hcut;have hzx:w.heap.size<=wc.heap.size:=hBx.size;have HBx:=a0a hBx;clear hBx HVH HT t0 v0 v1 v3
  cases hop:a0r l [105] [] 0 ⟨#[]⟩ with
  | none=>
   rw[hop]at hP HV;clear hop;have HQ:R=([],4):=HV.out;subst HQ;clear HV;subst hP;go_wp2_with fail;go_ret2;exact a0n HBx.out
  | some r=>
   obtain ⟨rs,nn,nm⟩:=r;rw[hop]at hP HV;(have hnn:=a2R _ _ _ _ _ _ _ _ hop hnum (by omega));clear hop;obtain ⟨e1,e2⟩:=hP;subst e1 e2;obtain ⟨hn0,hn1⟩:=hnn;(have HC1:=a0a (fun W=>a0x 32 W (by omega) (by omega)));(have hpw:a2A 32=4294967296:=by decide);rw[hpw]at HC1;by_cases hlo:nn<0
   ·have HQ:R=([],5):=HV.out.trans (a33 (by decide) (Or.inl hlo))
    subst HQ;clear HV;go_wp2_with fail;go_ret2;exact a0n HBx.out
   ·by_cases hhi:4294967296<=nn
    ·have HQ:R=([],5):=HV.out.trans (a33 (by decide) (Or.inr hhi))
     subst HQ;clear HV;go_wp2_with fail;refine (HC1.out _).mono ?_;rintro e wc ⟨rfl,rfl⟩;go_wp2_with fail;go_ret2;exact a0n HBx.out
    ·have HQ:R=([⟨⟨0,0,0,0,0⟩,[],false,a2I 4 nn⟩],0):=HV.out.trans (b0x (by decide) (by show ¬(nn<0\/4294967296<=nn);omega))
     have HR:=a0a HQ;clear HQ HV;go_wp2_with fail;refine (HC1.out _).mono ?_;rintro e wc ⟨rfl,rfl⟩;go_wp2_with fail;(go_loopw [6,9,10] (fun nv s k wr=>∃q:Nat,q<=4/\nv=.int .i64 (nn/256^q)/\s=.string ⟨(a2I q nn).toArray⟩/\k=.int .i64 q/\Below w.heap.size w wr) (fun _ _ k _=>4-(intOf k).toNat));case atStart=>exact ⟨0,by omega,by simp,rfl,rfl,HBx.out⟩
     case round=>
      obtain ⟨q,hq,rfl,rfl,rfl,hB⟩:=hrel;have HB:=a0a hB;clear hB;by_cases hlt:q<4
      ·obtain ⟨x0,x1,xs⟩:=a7s nn q (by omega) (by omega)
       have HXS:=a0a xs;have hsz:=a2d q nn;have HSN:=a0a (a4Q q nn);clear xs;generalize hX:nn/256^q=x at *;(have hcv:=a56 wr (x%256) (by omega) (by omega));generalize a2I q nn=S at *;go_wp2_with fail;go_roundw;(case rel=>exact ⟨q+1,by omega,by rw[HXS.out],by rw[HSN.out];exact congrArg Value.string (ByteArray.ext (by simp)),by go_num,HB.out.alloc HB.out.size _⟩);case measure=>simp[intOf];omega
      ·have hke:q=4:=by omega
       subst hke;have HQ:=HR.out;subst HQ;clear HR;go_wp2_with fail;go_ret2;exact a0O (p:=⟨⟨0,0,0,0,0⟩,[],false,a2I 4 nn⟩) HB.out
theorem c0E (t u:Pn.Tok) (l:List Pn.Tok) (g o cap:Nat) (w:World) (hl:l.length<=1998) (hg:g<w.heap.size) (hcap:l.length+2<=cap) (hc:a0A t (u::l) g o w)
    (hnum:∀u∈l,-1099511627776<=u.num/\u.num<=1099511627776) (hk:t.kind=46) (hu:u.blank=false) (hw:u.kind=119) (hs1:u.text≠[98,121,116,101]) (hs2:u.text≠[104,97,108,102]) (hs3:u.text≠[119,111,114,100]):
    Calls prog 243 #[.slice (some ⟨g,o,none⟩) (l.length+2) cap] w fun e w'=>a2k (a6T 0 (a0r l [105] [] 0 ⟨#[]⟩)).1 (a6T 0 (a0r l [105] [] 0 ⟨#[]⟩)).2 w e w':=by
 generalize hR:a6T 0 (a0r l [105] [] 0 ⟨#[]⟩)=R;have HV:=a0a hR.symm;clear hR;obtain ⟨t0,_,_,_⟩:=hc 0 t rfl;obtain ⟨v0,v1,_,v3⟩:=hc 1 u rfl;simp only[Nat.zero_mul,Nat.add_zero,Nat.one_mul,Nat.add_assoc,Nat.reduceAdd]at t0 v0 v1 v3;rw[hk]at t0;rw[hw]at v0;rw[hu]at v3;have hS1:(u.S.toList==[98,121,116,101])=false:=by rw[a05];simpa using hs1
 have hS2:(u.S.toList==[104,97,108,102])=false:=by rw[a05];simpa using hs2
 have hS3:(u.S.toList==[119,111,114,100])=false:=by rw[a05];simpa using hs3
 clear hs1 hs2 hs3;generalize hn:l.length+2=n at *;have HL:=a0a hn;have HT:=a0a (a7O (cap:=cap-2) hn hc hg);have HVH:=a0a (fun (v:Value) (hv:a2L w v l)=>a1f l ⟨#[105]⟩ v w (by omega) hv)
 have hp1:1<n:=by omega
 have hp2:(1:Int)<n:=by omega
 have hn2:n<=2000:=by omega
 clear hn hl hc hk hu hw;generalize u.S=s at *;go_enter func243,ntmps243;go_upto_region 12 with fail;go_cut [0,4,6,8] (fun l0 sz nn ok wx=>(l0=.slice (some ⟨g,o,none⟩) n cap/\sz=.int .i64 0)/\c0z l w nn ok wx)
 case first=>
  go_wp2_with fail
  all_goals
   first
   | ((have hq:n=2:=by omega);refine (a0b HVH _ (a5l (a0b HL) hq)).mono ?_;clear hq)
   | (refine (a0b HVH _ (a0b HT)).mono ?_)
   rintro e wx ⟨ho,hBx⟩;replace ho:a1z (a0r l [105] [] 0 ⟨#[]⟩) w e wx:=ho;have HBx:=a0a hBx;clear hBx
   cases hop:a0r l [105] [] 0 ⟨#[]⟩ with
   | none=>
    rw[hop]at ho;have HOP:=a0a hop;clear hop;simp only[a1z]at ho;subst ho;go_wp2_with fail;go_meet;case rel=>exact ⟨⟨by first|rfl|rw[‹cap=2›],rfl⟩,by rw[a0b HOP],HBx.out⟩
   | some r=>
    obtain ⟨rs,nn,nm⟩:=r;rw[hop]at ho;have HOP:=a0a hop;clear hop;simp only[a1z]at ho;obtain ⟨v,he,hown⟩:=ho;have HOW:=a0a hown;clear hown;subst he;go_wp2_with fail;go_meet;case rel=>exact ⟨⟨by first|rfl|rw[‹cap=2›],rfl⟩,by rw[a0b HOP];exact ⟨rfl,rfl⟩,HBx.out⟩
 case rest=>
  obtain ⟨⟨rfl,rfl⟩,hP,hBx⟩:=hcut;have hzx:w.heap.size<=wc.heap.size:=hBx.size;have HBx:=a0a hBx;clear hBx HVH HT t0 v0 v1 v3
  cases hop:a0r l [105] [] 0 ⟨#[]⟩ with
  | none=>
   rw[hop]at hP HV;clear hop;have HQ:R=([],4):=HV.out;subst HQ;clear HV;subst hP;go_wp2_with fail;go_ret2;exact a0n HBx.out
  | some r=>
   obtain ⟨rs,nn,nm⟩:=r;rw[hop]at hP HV;(have hnn:=a2R _ _ _ _ _ _ _ _ hop hnum (by omega));clear hop;obtain ⟨e1,e2⟩:=hP;subst e1 e2;have HQ:R=([],4):=HV.out;subst HQ;clear HV;go_wp2_with fail;go_ret2;exact a0n HBx.out
theorem b7n (t:Pn.Tok) (g o cap:Nat) (w:World) (hc:a0A t [] g o w) (hcap:1<=cap) (hk:t.kind=46):
    Calls prog 243 #[.slice (some ⟨g,o,none⟩) 1 cap] w fun e w'=>a2k [] 4 w e w':=by
 obtain ⟨t0,_,_,_⟩:=hc 0 t rfl;simp only[Nat.zero_mul,Nat.add_zero]at t0;rw[hk]at t0;clear hc hk;go_enter func243,ntmps243;go_wp2_with fail;go_ret2;exact a0n (Below.refl _ _)
theorem c3g (t u:Pn.Tok) (l:List Pn.Tok) (g o cap:Nat) (w:World) (hl:l.length<=1998) (hcap:l.length+2<=cap) (hc:a0A t (u::l) g o w) (hk:t.kind=46) (hu:u.blank=true\/u.kind≠119):
    Calls prog 243 #[.slice (some ⟨g,o,none⟩) (l.length+2) cap] w fun e w'=>a2k [] 4 w e w':=by
 obtain ⟨t0,_,_,_⟩:=hc 0 t rfl;obtain ⟨v0,v1,_,v3⟩:=hc 1 u rfl;simp only[Nat.zero_mul,Nat.add_zero,Nat.one_mul,Nat.add_assoc,Nat.reduceAdd]at t0 v0 v1 v3;rw[hk]at t0;generalize hn:l.length+2=n at *;have hp1:1<n:=by omega
 have hp2:(1:Int)<n:=by omega
 have hn2:n<=2000:=by omega
 have hp3:¬((n:Int)<2):=by omega
 clear hn hl hc hk;by_cases hb:u.blank=true
 ·rw[hb]at v3
  clear hu hb;go_enter func243,ntmps243;go_wp2_with fail;go_ret2;exact a0n (Below.refl _ _)
 ·have hb':u.blank=false:=by simpa using hb
  rw[hb']at v3
  have hkd:(u.kind != 119)=true:=by rcases hu with h|h;· exact absurd h hb
                                    ·simpa using h
  clear hu hb hb';go_enter func243,ntmps243;go_wp2_with fail;go_ret2;exact a0n (Below.refl _ _)
theorem c6E (t:Pn.Tok) (l:List Pn.Tok) (g o cap:Nat) (w:World) (hl:l.length<=1999) (hg:g<w.heap.size) (hcap:l.length+1<=cap) (hc:a0A t l g o w)
    (hnum:∀u∈l,-1099511627776<=u.num/\u.num<=1099511627776) (hk:t.kind=46):
    Calls prog 243 #[.slice (some ⟨g,o,none⟩) (l.length+1) cap] w fun e w'=>a2k (b1L l).1 (b1L l).2 w e w':=by
 match l,hl,hcap,hc,hnum with
 | [],_,hcap,hc,_=>exact b7n t g o cap w hc (by simpa using hcap) hk
 | u::l,hl,hcap,hc,hnum=>
  have hl':l.length<=1998:=by simp at hl;omega
  have hcap':l.length+2<=cap:=by simp at hcap;omega
  have hnum':∀v∈l,-1099511627776<=v.num/\v.num<=1099511627776:=fun v hv=>hnum v (by simp[hv])
  have el:(u::l).length+1=l.length+2:=by simp
  rw[el];by_cases hu:u.blank=true\/u.kind≠119
  ·have e:b1L (u::l)=([],4):=by simp only[b1L];rw[if_pos hu]
   rw[e];exact c3g t u l g o cap w hl' hcap' hc hk hu
  ·have hb:u.blank=false:=by
    cases h:u.blank with
    | true=>exact absurd (Or.inl h) hu
    | false=>rfl
   have hkd:u.kind=119:=by
    by_cases h:u.kind=119
    ·exact h
    ·exact absurd (Or.inr h) hu
   (have e:b1L (u::l)=a6T (b6v u.text) (a0r l [105] [] 0 ⟨#[]⟩):=by simp only[b1L];rw[if_neg hu]);rw[e];unfold b6v;by_cases h1:u.text=[98,121,116,101]
   ·rw[if_pos h1]
    exact c0S t u l g o cap w hl' hg hcap' hc hnum' hk hb hkd h1
   ·rw[if_neg h1]
    by_cases h2:u.text=[104,97,108,102]
    ·rw[if_pos h2]
     exact c1W t u l g o cap w hl' hg hcap' hc hnum' hk hb hkd h2
    ·rw[if_neg h2]
     by_cases h3:u.text=[119,111,114,100]
     ·rw[if_pos h3]
      exact b99 t u l g o cap w hl' hg hcap' hc hnum' hk hb hkd h3
     ·rw[if_neg h3]
      exact c0E t u l g o cap w hl' hg hcap' hc hnum' hk hb hkd h1 h2 h3
