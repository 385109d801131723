"""Xiangqi: positions are read, the moves there may be are told, and played."""
