"""The mapper, its sessions and versions, and the inspector."""
