"""Packets: streams over a line that loses, doubles, mixes up. The entry is lossline.stream.answers."""
