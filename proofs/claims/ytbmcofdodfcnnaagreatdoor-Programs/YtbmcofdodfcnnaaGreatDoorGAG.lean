import Derived.Deep.RegionHeld3
import Derived.Deep.RegionLaw
import Derived.Deep.AppendLies
import Derived.Deep.RegionWith
import Derived.Shelf.Strings.BuilderK
import Derived.Lib.QuietBelow
import Derived.Maps.OwnSet
import Derived.StringKeys
import Derived.Lib.SplitLaws
import Derived.Lib.ReplaceLaws
import Derived.Test.YtbmcofdodfcnnaaGreatDoorGVC
import Derived.Test.YtbmcofdodfcnnaaGreatDoorGFA
import Derived.Test.YtbmcofdodfcnnaaGreatDoorGVF
import Derived.Test.YtbmcofdodfcnnaaGreatDoorGV6
import Derived.Test.YtbmcofdodfcnnaaGreatDoorShelf
set_option linter.all false
set_option maxHeartbeats 400000000
set_option maxRecDepth 100000
namespace Pn
def dsz (l:List UInt8):Int:=if l=[46,98,121,116,101] then 1 else if l=[46,104,97,108,102] then 2 else if l=[46,119,111,114,100] then 4 else 0
end Pn
namespace Go.Proofs.YtbmcofdodfcnnaaGreatDoor
open Pn
open Go.Proofs.Tryz
open Go.RowKit
theorem a1J (nm:ByteArray) (w:World):Calls prog 259 #[.string nm] w fun e w'=>e=.returned (.int .i64 (Pn.dsz nm.data.toList))/\w'=w:=by
 have ht:nm.toList=nm.data.toList:=ByteArray.toList_eq nm;by_cases h1:nm.data.toList=[46,98,121,116,101]
 ·have HV:Hid (Pn.dsz nm.data.toList=1):=hid (by unfold Pn.dsz;rw[if_pos h1])
  have q1:(nm.toList==[46,98,121,116,101])=true:=by rw[ht];simpa using h1
  clear ht h1;go_enter func259,ntmps259;go_wp2_with fail;go_ret;exact ⟨by rw[HV.out];rfl,rfl⟩
 ·have q1:(nm.toList==[46,98,121,116,101])=false:=by rw[ht];simpa using h1
  by_cases h2:nm.data.toList=[46,104,97,108,102]
  ·have HV:Hid (Pn.dsz nm.data.toList=2):=hid (by unfold Pn.dsz;rw[if_neg h1,if_pos h2])
   (have q2:(nm.toList==[46,104,97,108,102])=true:=by rw[ht];simpa using h2);clear ht h1 h2;go_enter func259,ntmps259;go_wp2_with fail;go_ret;exact ⟨by rw[HV.out];rfl,rfl⟩
  ·have q2:(nm.toList==[46,104,97,108,102])=false:=by rw[ht];simpa using h2
   by_cases h3:nm.data.toList=[46,119,111,114,100]
   ·have HV:Hid (Pn.dsz nm.data.toList=4):=hid (by unfold Pn.dsz;rw[if_neg h1,if_neg h2,if_pos h3])
    (have q3:(nm.toList==[46,119,111,114,100])=true:=by rw[ht];simpa using h3);clear ht h1 h2 h3;go_enter func259,ntmps259;go_wp2_with fail;go_ret;exact ⟨by rw[HV.out];rfl,rfl⟩
   ·have HV:Hid (Pn.dsz nm.data.toList=0):=hid (by unfold Pn.dsz;rw[if_neg h1,if_neg h2,if_neg h3])
    (have q3:(nm.toList==[46,119,111,114,100])=false:=by rw[ht];simpa using h3);clear ht h1 h2 h3;go_enter func259,ntmps259;go_wp2_with fail;go_ret;exact ⟨by rw[HV.out];rfl,rfl⟩
end Go.Proofs.YtbmcofdodfcnnaaGreatDoor
namespace Go
open Go.RowKit
end Go
namespace Go.Proofs.YtbmcofdodfcnnaaGreatDoor
open Pn
open Go.Proofs.Tryz
open Go.RowKit
def lz:List Value:=[.string ⟨#[]⟩,.slice none 0 0]
theorem a52 {w:World} {base base':Nat} {e:TypeId} {size n:Nat} {v:Value} {xs:List Value} (h:w.ownsRow base e size v n xs) (hb:base'<=base):w.ownsRow base' e size v n xs:=by
 obtain ⟨h1,h2|⟨g,cap,cur,hv,hg,hc,h3⟩⟩:=h
 ·exact ⟨h1,.inl h2⟩
 ·exact ⟨h1,.inr ⟨g,cap,cur,hv,Nat.le_trans hb hg,hc,h3⟩⟩
theorem a1K {w w':World} {base:Nat} {e:TypeId} {size n:Nat} {v:Value} {xs:List Value} (h:w.ownsRow base e size v n xs) (hB:Below w.heap.size w w'):w'.ownsRow base e size v n xs:=
 a0u h (fun g hg=>hB.block g (h.lt g hg).2)
theorem a16 {g:Nat} {w0 w w':World} (h:Kept g w0 w) (hB:Below w.heap.size w w'):Kept g w0 w':=h.trans (Kept.of_below hB g)
theorem b2b:(prog.info? 134).map (·.size)=some 2:=by kernel_rfl
theorem liesBuilder:liesAt prog prog.depth 134 (2/prog.cellsOf 134) 0 134 1=true:=by kernel_rfl
theorem a9b (b:Nat) (w:World) (h0:w.cell? ⟨b,0,none⟩=some (.pointer (some ⟨b,0,none⟩))):
    Calls prog 139 #[.pointer (some ⟨b,0,none⟩)] w fun e w'=>e=.returned (.tuple #[])/\w'=w:=by
 obtain ⟨j,hj,_⟩:=Option.map_eq_some_iff.1 b2b;go_enter func139,ntmps139;go_wp2;rw[Lib.run_neq_ptr_same w _ underlying132 hj];go_wp2;go_end0;exact ⟨rfl,rfl⟩
theorem a8j (b:Nat) (w:World) (h0:w.cell? ⟨b,0,none⟩=some (.pointer none)) (hsh:w.shape? b=some (134,2)) (hfz:w.frozen? ⟨b,0,none⟩=false):
    Calls prog 139 #[.pointer (some ⟨b,0,none⟩)] w fun e w'=>e=.returned (.tuple #[])/\w'=w.setCell ⟨b,0,none⟩ (.pointer (some ⟨b,0,none⟩)):=by
 obtain ⟨j,hj,hjs⟩:=Option.map_eq_some_iff.1 b2b;go_enter func139,ntmps139;go_wp2;rw[Lib.run_to_unsafe w ⟨b,0,none⟩ underlying132 underlying250 hj (by rw[hjs];decide) hsh (Nat.zero_lt_succ 1)]
 simp only[Result.andThen];rw[Oper.upon_value];go_wp2;rw[run_callFunc_extern func191 (by kernel_rfl) (by kernel_rfl) (by kernel_rfl) (e:=Extern.AbiNoEscape.same) (by kernel_rfl)]
 rw[Lib.run_noEscape];simp only[Result.andThen];rw[Oper.upon_value];go_wp2;rw[Lib.run_from_unsafe w ⟨b,0,none⟩ underlying250 underlying132 hj hsh liesBuilder];simp only[Result.andThen];rw[Oper.upon_value];go_wp2;go_end0;exact ⟨rfl,rfl⟩
theorem c2m (B b:Nat) (bs:List Value) (w:World) (h:Lib.IsBuilder 134 5 B b bs w):
    Calls prog 139 #[.pointer (some ⟨b,0,none⟩)] w fun e w'=>e=.returned (.tuple #[])/\Lib.BuilderAt 134 5 B b (.pointer (some ⟨b,0,none⟩)) bs w'/\Below B w w':=by
 rcases h with h|h
 ·exact (a8j b w h.cell0 h.shape h.frozen0).mono fun e w' ⟨he,hw⟩=>⟨he,by rw[hw];exact h.used _,by rw[hw];exact (Below.refl B w).setCell (p:=⟨b,0,none⟩) h.1 _⟩
 ·exact (a9b b w h.cell0).mono fun e w' ⟨he,hw⟩=>⟨he,by rw[hw];exact h,by rw[hw];exact Below.refl B _⟩
theorem a83 (B b:Nat) (bs:List Value) (s:ByteArray) (w:World) (h:Lib.IsBuilder 134 5 B b bs w) (hlen:bs.length+s.size<=140737488355328) (hBw:B<=w.heap.size):
    Calls prog 76 #[.pointer (some ⟨b,0,none⟩),.string s] w fun e w'=>e=.returned (.tuple #[.int .i64 s.size,.nilIface])/\Lib.BuilderAt 134 5 B b (.pointer (some ⟨b,0,none⟩)) (bs++Lib.strCells s) w'/\Below B w w':=by
 obtain ⟨i0,hi,hz0,hz1,hz2⟩:=info_parts Tryz.infoByte;have HC:=hid (c2m B b bs w h);go_enter func76,ntmps76;go_wp2_with fail;refine HC.out.mono ?_;rintro e w1 ⟨rfl,h1,hb1⟩;have hlt:=h1.lt;obtain ⟨hB,v,hbk,hown,hne⟩:=h1;have c1:w1.cell? ⟨b,1,none⟩=some v:=by rw[Lib.cell_of_heap hbk];rfl
 have hs1:=hb1.size;go_wp2_with (at_builtin;refine Lib.wpList_append_own_string _ rfl _ _ 65 9 rfl B 5 i0 underlying65 underlying9 hi hz0 hz1 hz2 _ _ _ rfl hown s rfl ?c3 ?c4 ?c5 ?_);case c3=>unfold maxLen;omega
 case c4=>omega
 case c5=>omega
 intro v' w2 hown' hgrow _;have hbk2:w2.heap[b]?=some (.cells #[.pointer (some ⟨b,0,none⟩),v] 134 (0,0)):=(hgrow.block b hlt (fun e=>hne e.symm)).trans hbk
 have d1:w2.cell? ⟨b,1,none⟩=some v:=by rw[Lib.cell_of_heap hbk2];rfl
 have df:w2.frozen? ⟨b,1,none⟩=false:=by simp[World.frozen?,hbk2]
 have HPUT:=hid (Lib.BuilderAt.put (p:=.pointer (some ⟨b,0,none⟩)) (bs':=bs++Lib.strCells s) hB hbk2 (by simpa[Lib.strCells_length] using hown') (by decide:134≠5))
 have HB2:=hid ((hb1.grown hgrow (by omega) (fun k hk=>(hown.lt k hk).1)).setCell (p:=⟨b,1,none⟩) hB v')
 obtain ⟨ao,n',cap,rfl⟩:∃ao n' cap,v'=.slice ao n' cap:=by
  rcases hown'.2 with ⟨hv,_⟩|⟨g,cap,cur,hv,_⟩
  ·exact ⟨_,_,_,hv⟩
  ·exact ⟨_,_,_,hv⟩
 clear hown' hgrow;go_wp2_with fail;go_ret2;exact ⟨rfl,HPUT.out,HB2.out⟩
theorem b9b {T e:TypeId} {B b:Nat} {p:Value} {bs:List Value} {w w':World} (h:Lib.BuilderAt T e B b p bs w) (hB:Below w.heap.size w w'):Lib.BuilderAt T e B b p bs w':=by
 have hl:=h.lt;obtain ⟨h1,v,hb,ho,hne⟩:=h;exact ⟨h1,v,(hB.block b hl).trans hb,a1K ho hB,hne⟩
theorem b2I {T e:TypeId} {B b:Nat} {bs:List Value} {w w':World} (h:Lib.IsBuilder T e B b bs w) (hB:Below w.heap.size w w'):Lib.IsBuilder T e B b bs w':=by
 rcases h with h|h
 ·exact .inl (b9b h hB)
 ·exact .inr (b9b h hB)
theorem b2H (l:List UInt8):Lib.strCells ⟨l.toArray⟩=Lib.byteCells l:=by simp[Lib.strCells,Lib.byteCells]
theorem b4z:(prog.info? 202).map (fun i=>(i.zero,i.size,i.bytes))=some (some (.agg #[.string ⟨#[]⟩,.int .i64 0,.int .i64 0,.int .i64 0,.int .i64 0,.int .i64 0,.string ⟨#[]⟩,.int .i64 0,.int .i64 0]),9,88):=by kernel_rfl
open Go.RowKit Go.Maps
theorem c6j (w:World) (a b c d:Obj):Below w.heap.size w ((((w.alloc a).alloc b).alloc c).alloc d):=by
 refine ((((Below.refl w.heap.size w).alloc ?_ _).alloc ?_ _).alloc ?_ _).alloc ?_ _<;>(try simp only[World.size_alloc])<;>omega
theorem b6H:Keyed prog 9:=string_keyed underlying9
theorem c5K (w:World):(zeroValue 3).run prog w=.ok (.int .i64 0) w:=by kernel_rfl
