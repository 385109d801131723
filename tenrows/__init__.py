"""Xiangqi: positions are read, the moves there may be are told, played and counted by depth."""
